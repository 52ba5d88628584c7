import PyProof.Rows.All
import Wide.All
import OpenK.AllK
import Wide.FinOn
import HandS.ForMost
import HandS.Evl
import HandS.Wide
import HandS.IsInst
import HandS.CallLocal
import HandS.Defaults
import HandS.Walk
import HandS.More
import KE.KDictZip
import HandS.Star
import PyProof.Draws
import PyProof.StrOps2
import PyProof.Rows.StrMul
import PyProof.Rows.RegReprOcc
import HandS.Text
import PySem.Challenge.RW_doorbeat_k09_long_orders
set_option Elab.async false
set_option linter.all false
set_option maxRecDepth 100000
set_option maxHeartbeats 4000000
namespace Db
open PySem L2 Evl

/-! ### a def of the text by its name -/
structure Has (K : PySem.W.Frag) (mg : Str → Option Value) (x : Str) (st : Stmt) : Prop where
  ex : ∃ f fd, Fun K x x st f fd ∧ mg x = some (.ref f)
structure Dn (P : Program) (w : World) (K : PySem.W.Frag) (mg : Str → Option Value) (base : Heap) (CX : CXT) (x : Str) (ps : List Str) (k : Nat) (sp : Sp) : Prop where
  ex : ∃ f fd, FnOk P w K mg base CX k f fd ps sp ∧ mg x = some (.ref f) ∧ PySem.W.keepIn K (.ref f) = true ∧ Binds K fd ps []
theorem dn_of {P : Program} {w : World} {K : PySem.W.Frag} {mg : Str → Option Value} {base : Heap} {CX : CXT} {x : Str} {ps : List Str} {k : Nat} {sp : Sp} {st : Stmt} (h : Has K mg x st)
    (hb : ∀ f fd, Fun K x x st f fd → Binds K fd ps []) (hf : ∀ f fd, Fun K x x st f fd → mg x = some (.ref f) → FnOk P w K mg base CX k f fd ps sp) : Dn P w K mg base CX x ps k sp := by
  obtain ⟨f, fd, F, hm⟩ := h.ex
  exact ⟨f, fd, hf f fd F hm, hm, F.kp, hb f fd F⟩
theorem has_mk {K : PySem.W.Frag} {h : Heap} {mg : Str → Option Value} {x : Str} {st : Stmt} {f : Addr} {oc : Value} {od an : Option Addr} {osl : Array (Option Value)} {kV doc pm cdv ct : Value} (X : K.In h) (G : h.Ns mainGlobals mg)
    (a : PySem.W.nsIn K mainGlobals x = some (some (.ref f)))
    (l : K.lookup f = some ⟨oc, od, .func (PySem.W.fnOf x x (defArgs st) (defBody st) (defScope st) .none kV doc pm an cdv ct), osl⟩)
    (c : PySem.W.codeIn K cdv x = true) (k : PySem.W.keepIn K (.ref f) = true) : Has K mg x st := ⟨f, _, fun_mk l c k, PySem.W.mg_of X G a⟩
section
variable {X : Cx}
theorem pe_dn {CX : CXT} {x : Str} {ps : List Str} {k j : Nat} {sp : Sp} {E : XK} {e : Expr} {es : List Expr} {t : TA} {p pos : Pos} (h : Dn X.prog X.w X.K X.mg X.base CX x ps k sp) (hr : Room j X.A) (hk : k ≤ j) (hx : Passes CX X E)
    (ha : PA X (e :: es) t) (hg : Gl X x := by rfl) (hdb : (x == ("__debug__" : Str)) = false := by decide) (he : starEach (e :: es) X.env = (false, eval e X.env) :: starEach es X.env := by rfl)
    (hpl : (backTo pos (starEach es X.env)).any (·.1) = false := by rfl) : PE X (.Call (.Name x p) (e :: es) [] pos) (tCall sp [] E t) := by
  obtain ⟨f, fd, F, hm, kp, b⟩ := h.ex
  exact pe_call F (hr.mono hk) hg hm kp b .nil hx ha hdb he hpl
end

/-- names of the built-ins that no def or constant hides -/
structure Nb (mg : Str → Option Value) : Prop where
  n_len : mg "len" = none
  n_isinstance : mg "isinstance" = none
  n_max : mg "max" = none
  n_min : mg "min" = none
  n_range : mg "range" = none
  n_enumerate : mg "enumerate" = none
  n_zip : mg "zip" = none
  n_list : mg "list" = none
  n_tuple : mg "tuple" = none
  n_int : mg "int" = none
  n_bool : mg "bool" = none
  n_str : mg "str" = none
/-! ### a def that only looks: R of the arguments, the heap, the value -/
def spF (n : Nat) (R : List V → Hp → V → Prop) : Sp := fun vs H Q _ => vs.length = n ∧ ∃ v, R vs H v ∧ ∀ H', Ex H H' → Q v H'
theorem spF_v {n : Nat} {R : List V → Hp → V → Prop} {vs : List V} {H : Hp} {v : V} (hl : vs.length = n) (h : ∀ H1, Ex H H1 → R vs H1 v) : SpV (spF n R) vs H v := fun H1 e Q q _ => ⟨hl, v, h H1 e, q⟩

/-! ### deeds -/
inductive Deed where
  | rd (c : Nat) | wr (c w : Nat) | rs
  deriving DecidableEq
def Deed.vals : Deed → List V
  | .rd c => [.str "read", .int (c : Int)]
  | .wr c w => [.str "write", .int (c : Int), .int (w : Int)]
  | .rs => [.str "rest"]
def Deed.ok (n : Nat) : Deed → Prop
  | .rd c => c < n
  | .wr c w => c < n ∧ w < 3
  | .rs => True
def Deed.ok.mono {n m : Nat} (h : n ≤ m) : ∀ {d : Deed}, d.ok n → d.ok m
  | .rd _, x => Nat.lt_of_lt_of_le (show _ < n from x) h
  | .wr _ _, x => ⟨Nat.lt_of_lt_of_le x.1 h, x.2⟩
  | .rs, _ => True.intro
/-- the value v is the deed d -/
def DV (K : PySem.W.Frag) (H : Hp) (v : V) (d : Deed) : Prop := ∃ a, v = .ref a ∧ SqT K H a d.vals
theorem DV.mono {K : PySem.W.Frag} {H H' : Hp} {v : V} {d : Deed} (e : Ex H H') (h : DV K H v d) : DV K H' v d := by
  obtain ⟨a, h1, h2⟩ := h
  exact ⟨a, h1, ex_t e h2⟩
def Deed.dat : Deed → List PyData
  | .rd c => [.str "read", .int (c : Int)]
  | .wr c w => [.str "write", .int (c : Int), .int (w : Int)]
  | .rs => [.str "rest"]
theorem DV.dp {K : PySem.W.Frag} {H : Hp} {v : V} {d : Deed} (h : DV K H v d) : Dp K H v (.tuple d.dat) := by
  obtain ⟨a, rfl, h2⟩ := h
  cases d with
  | rd c => exact .tup h2 (.cons (.str _) (.cons (.int _) .nil))
  | wr c w => exact .tup h2 (.cons (.str _) (.cons (.int _) (.cons (.int _) .nil)))
  | rs => exact .tup h2 (.cons (.str _) .nil)
/-- data of no more than n levels, laid out as the library wants it -/
structure Sh (n : Nat) (d : PyData) : Prop where
  lay : d.canLay0 = true
  dep : d.depth ≤ n
theorem Sh.mono {n m : Nat} {d : PyData} (h : Sh n d) (l : n ≤ m) : Sh m d := ⟨h.lay, Nat.le_trans h.dep l⟩
theorem Sh.shaped {n : Nat} {d : PyData} (h : Sh n d) (l : n ≤ 64) : SeqAt.shaped d = true := by
  unfold SeqAt.shaped
  rw [h.lay, decide_eq_true (Nat.le_trans h.dep l)]
  rfl
theorem sh_int {n : Nat} {i : Int} : Sh n (.int i) := ⟨by simp [PyData.canLay0], by simp [PyData.depth]⟩
theorem sh_bool {n : Nat} {i : Bool} : Sh n (.bool i) := ⟨by simp [PyData.canLay0], by simp [PyData.depth]⟩
theorem sh_none {n : Nat} : Sh n .none := ⟨by simp [PyData.canLay0], by simp [PyData.depth]⟩
theorem sh_str {n : Nat} {x : Str} (h : PyData.strOk x = true) : Sh n (.str x) := ⟨by simpa [PyData.canLay0] using h, by simp [PyData.depth]⟩
theorem sh_all {n : Nat} : ∀ {ds : List PyData}, (∀ d ∈ ds, Sh n d) → PyData.canLayAll0 ds = true ∧ PyData.depthAll ds ≤ n
  | [], _ => ⟨by simp [PyData.canLayAll0], by simp [PyData.depthAll]⟩
  | d :: r, h => by
    have h1 := h d List.mem_cons_self
    have h2 := sh_all (ds := r) fun x hx => h x (List.mem_cons_of_mem _ hx)
    refine ⟨?_, ?_⟩
    · rw [PyData.canLayAll0, h1.lay, h2.1]
      rfl
    · rw [PyData.depthAll]
      exact Nat.max_le.mpr ⟨h1.dep, h2.2⟩
theorem sh_tup {n : Nat} {ds : List PyData} (h : ∀ d ∈ ds, Sh n d) : Sh (n + 1) (.tuple ds) := by
  have q := sh_all h
  refine ⟨?_, ?_⟩
  · rw [PyData.canLay0]
    exact q.1
  · rw [PyData.depth]
    exact Nat.succ_le_succ q.2
theorem sh_lst {n : Nat} {ds : List PyData} (h : ∀ d ∈ ds, Sh n d) : Sh (n + 1) (.list ds) := by
  have q := sh_all h
  refine ⟨?_, ?_⟩
  · rw [PyData.canLay0]
    exact q.1
  · rw [PyData.depth]
    exact Nat.succ_le_succ q.2
theorem sh_ints (ns : List Int) : Sh 1 (.list (ns.map PyData.int)) := sh_lst fun d hd => by
  obtain ⟨n, _, rfl⟩ := List.mem_map.mp hd
  exact sh_int
theorem dpa_ints {K : PySem.W.Frag} {H : Hp} : ∀ ns : List Int, DpAll K H (ns.map V.int) (ns.map PyData.int)
  | [] => .nil
  | n :: r => .cons (.int n) (dpa_ints r)
theorem Sh.eqv {n : Nat} {d : PyData} (h : Sh n d) : PyData.eqv d d = true := SeqAt.eqv_refl d h.lay
theorem sk_read : PyData.strOk "read" = true := by decide +kernel
theorem sk_write : PyData.strOk "write" = true := by decide +kernel
theorem sk_rest : PyData.strOk "rest" = true := by decide +kernel
theorem Deed.sh (d : Deed) : Sh 1 (.tuple d.dat) := by
  cases d with
  | rd c => exact sh_tup (by simp only [Deed.dat, List.mem_cons, List.not_mem_nil, or_false]; rintro d (rfl | rfl) <;> first | exact sh_str sk_read | exact sh_int)
  | wr c w => exact sh_tup (by simp only [Deed.dat, List.mem_cons, List.not_mem_nil, or_false]; rintro d (rfl | rfl | rfl) <;> first | exact sh_str sk_write | exact sh_int)
  | rs => exact sh_tup (by simp only [Deed.dat, List.mem_cons, List.not_mem_nil, or_false]; rintro d rfl; exact sh_str sk_rest)
theorem Deed.eqv_rs (d : Deed) : PyData.eqv (.tuple d.dat) (.tuple Deed.rs.dat) = decide (d = .rs) := by
  cases d with
  | rd c => simp [Deed.dat, PyData.eqv, PyData.eqvAll]
  | wr c w => simp [Deed.dat, PyData.eqv, PyData.eqvAll]
  | rs => simp [Deed.dat, PyData.eqv, PyData.eqvAll]
/-- a program: its values, its deeds -/
def PV (K : PySem.W.Frag) (H : Hp) (vs : List V) (ds : List Deed) : Prop := Paired (DV K H) vs ds

/-! ### evaluation, some more -/
section
variable {K : PySem.W.Frag} {σ : L2.St} {H H' : Hp} {ta tb te tx : TE} {t u : TT} {x y z v : V}
theorem rc_len {p : Addr} {xs : List V} (h : SqL K H p xs ∨ SqT K H p xs) : RC (rLenS K) [.ref p] H (.int (xs.length : Int)) := fun H1 e _ q => ⟨p, xs, rfl, h.imp (ex_l e) (ex_t e), q H1 (Ex.refl H1)⟩
theorem rc_lenL {p : Addr} {xs : List V} (h : SqL K H p xs) : RC (rLenS K) [.ref p] H (.int (xs.length : Int)) := rc_len (.inl h)
theorem rc_lenT {p : Addr} {xs : List V} (h : SqT K H p xs) : RC (rLenS K) [.ref p] H (.int (xs.length : Int)) := rc_len (.inr h)
theorem rc_max {i j : Int} : RC rMax2 [.int i, .int j] H (.int (if j > i then j else i)) := fun H1 _ _ q => ⟨i, j, rfl, q H1 (Ex.refl H1)⟩
/-- a value's type that stays -/
def TyS (K : PySem.W.Frag) (H : Hp) (x : V) (t : Value) : Prop := ∀ H1, Ex H H1 → TyX K H1 x t
theorem tys_int {i : Int} : TyS K H (.int i) (.type "int") := fun _ _ => .base (.int i)
theorem tys_str {i : Str} : TyS K H (.str i) (.type "str") := fun _ _ => .base (.str i)
theorem tys_bl {i : Bool} : TyS K H (.bl i) (.type "bool") := fun _ _ => .base (.bl i)
theorem tys_non : TyS K H .non (.type "NoneType") := fun _ _ => .base .non
theorem tys_tup {a : Addr} {xs : List V} (h : SqT K H a xs) : TyS K H (.ref a) (.type "tuple") := fun H1 e => by
  rcases ex_t e h with (h | ⟨o, h⟩) | ⟨o, its, n, h, c, _⟩
  · exact .base (.tup h)
  · exact .fTuple h
  · exact .kTuple h c
theorem tys_lst {a : Addr} {xs : List V} (h : SqL K H a xs) : TyS K H (.ref a) (.type "list") := fun H1 e => by
  rcases ex_l e h with (h | ⟨o, h⟩) | ⟨o, its, n, h, c, _⟩
  · exact .base (.lst h)
  · exact .base (.frz h)
  · exact .kList h c
theorem rc_isi {c : String} {t : Value} {b : Bool} (h : TyS K H x t) (k : PySem.W.kitOne K t (.type c) = some b) : RC (rIsi K) [x, .ty c] H (.bl b) := fun H1 e _ q => ⟨x, .ty c, t, .type c, b, rfl, .ty c, h H1 e, k, q H1 (Ex.refl H1)⟩
theorem rc_isiB {c d : String} {b : Bool} (h : TyS K H x (.type d)) (k : kitB d c = some b) : RC (rIsi K) [x, .ty c] H (.bl b) := rc_isi h (kit_ty k)
/-- isinstance(x, (c, d)) -/
theorem ev_isi2 {c d f : String} {b1 b2 : Bool} (hx : Ev te σ H x) (h : TyS K H x (.type f)) (k1 : kitB f c = some b1) (k2 : kitB f d = some b2) :
    Ev (tCB (rIsiT K) (tCons te (tCons (tTup (tCons (tC (.ty c)) (tCons (tC (.ty d)) tNil))) tNil))) σ H (.bl (b1 || b2)) := fun H1 e Q q =>
  hx H1 e _ fun H2 e2 => ⟨by show 2 ≤ sizeLine; decide, fun p hp => ⟨x, p, [.ty c, .ty d], .type f, [.type c, .type d], b1 || b2, rfl, upd_same, .cons (.ty c) (.cons (.ty d) .nil), h _ ((e.trans e2).trans (Ex.new hp)),
    kitAny_cons (kit_ty k1) (fun h1 => kitAny_cons (kit_ty k2) (fun h2 => by rw [h1, h2]; exact kitAny_nil) (fun h2 => by rw [h2]; cases b1 <;> rfl)) (fun h1 => by rw [h1]; rfl), q _ (e2.trans (Ex.new hp))⟩⟩
/-! == and != of data -/
mutual
theorem dp_mono (e : Ex H H') : ∀ (d : PyData) (v : V), Dp K H v d → Dp K H' v d
  | .none, _, h => by cases h; exact .non
  | .bool b, _, h => by cases h; exact .bl b
  | .int i, _, h => by cases h; exact .int i
  | .str x, _, h => by cases h; exact .str x
  | .list ds, _, h => by
    cases h with
    | lst q r => exact .lst (ex_l e q) (dpAll_mono e ds _ r)
  | .tuple ds, _, h => by
    cases h with
    | tup q r => exact .tup (ex_t e q) (dpAll_mono e ds _ r)
  | .dict kvs, _, h => by cases h
theorem dpAll_mono (e : Ex H H') : ∀ (ds : List PyData) (vs : List V), DpAll K H vs ds → DpAll K H' vs ds
  | [], _, h => by cases h; exact .nil
  | d :: ds, _, h => by
    cases h with
    | cons a b => exact .cons (dp_mono e d _ a) (dpAll_mono e ds _ b)
end
theorem rv_eqD {d e : PyData} {n m : Nat} (hx : Dp K H x d) (hy : Dp K H y e) (hd : Sh n d) (he : Sh m e) (hn : n ≤ 64) (hm : m ≤ 64) : RV (rEqD K) x y H (.bl (PyData.eqv d e)) := fun H1 a _ q =>
  ⟨d, e, dp_mono a d x hx, dp_mono a e y hy, hd.shaped hn, he.shaped hm, q H1 (Ex.refl H1)⟩
theorem rv_neD {d e : PyData} {n m : Nat} (hx : Dp K H x d) (hy : Dp K H y e) (hd : Sh n d) (he : Sh m e) (hn : n ≤ 64) (hm : m ≤ 64) : RV (rNeD K) x y H (.bl (!PyData.eqv d e)) := fun H1 a _ q =>
  ⟨d, e, dp_mono a d x hx, dp_mono a e y hy, hd.shaped hn, he.shaped hm, q H1 (Ex.refl H1)⟩
theorem rv_is {r : R2} {w : V} (h : RV r x y H z) (e : z = w) : RV r x y H w := by
  rw [← e]
  exact h
/-- an if of one kind or the other, the value known -/
theorem ev_ifT (h : EvT t σ H true) (h1 : Ev ta σ H v) : Ev (tIf t ta tb) σ H v := ev_if h (fun _ => h1) (fun z => nomatch z)
theorem ev_ifF (h : EvT t σ H false) (h1 : Ev tb σ H v) : Ev (tIf t ta tb) σ H v := ev_if h (fun z => nomatch z) (fun _ => h1)
/-- a < b < c -/
theorem ev_chain {r r' : R2} {tc : TE} {w : V} {a b : Bool} (h1 : Ev ta σ H x) (h2 : Ev tb σ H y) (hr : RV r x y H (.bl a)) (h3 : a = true → Ev tc σ H w) (hr' : a = true → RV r' y w H (.bl b)) : Ev (tChain r r' ta tb tc) σ H (.bl (a && b)) := fun H1 e Q q =>
  h1 H1 e _ fun H2 e2 => h2 H2 (e.trans e2) _ fun H3 e3 => hr H3 ((e.trans e2).trans e3) _ fun H4 e4 => ⟨a, rfl, by
    have e04 := ((e.trans e2).trans e3).trans e4
    cases a with
    | false =>
      show Q (.bl false) H4
      exact q H4 ((e2.trans e3).trans e4)
    | true =>
      show tc σ H4 _
      exact h3 rfl H4 e04 _ fun H5 e5 => hr' rfl H5 (e04.trans e5) _ fun H6 e6 => q H6 ((((e2.trans e3).trans e4).trans e5).trans e6)⟩
end

/-! ### data of any kind, two of them alike -/
/-- an item of a list or a tuple -/
def rIxA (K : PySem.W.Frag) : R2 := fun x y H Q => rIxL K x y H Q ∨ rIxT K x y H Q
theorem ix_any {X : Cx} : IxR X (rIxA X.K) := fun value slice pins s σ H x y v u Q I rx ry q hs => by
  rcases q with q | q
  · exact ix_list value slice pins s σ H x y v u Q I rx ry q hs
  · exact ix_tup value slice pins s σ H x y v u Q I rx ry q hs
/-! rules that name the written part by itself (for a comprehension's block) -/
section
variable {X : Cx} (K : PySem.W.Frag) (e : X.K = K := by rfl)
include e
theorem ix_anyK : IxR X (rIxA K) := by subst e; exact ix_any
theorem ix_listK : IxR X (rIxL K) := by subst e; exact ix_list
theorem ix_tupK : IxR X (rIxT K) := by subst e; exact ix_tup
theorem call_len_seqK : CallR X (.builtin "len") (rLenS K) := by subst e; exact call_len_seq
theorem call_isiK2 : CallR X (.builtin "isinstance") (rIsi K) := by subst e; exact call_isi
theorem call_isiTK : CallR X (.builtin "isinstance") (rIsiT K) := by subst e; exact call_isiT
theorem op_eqDK (hu : X.A.units + 64 < cLine) : OpR X (compareOp .Eq) (rEqD K) := by subst e; exact op_eqD hu
theorem op_neDK (hu : X.A.units + 64 < cLine) : OpR X (compareOp .NotEq) (rNeD K) := by subst e; exact op_neD hu
theorem op_in_seqK : OpR X (compareOp .In) (rIn K false) := by subst e; exact op_in_seq
theorem op_notIn_seqK : OpR X (compareOp .NotIn) (rIn K true) := by subst e; exact op_notIn_seq
theorem call_list_ofK : CallR X (.type "list") (rListS K) := by subst e; exact call_list_of
end
def SqA (K : PySem.W.Frag) (H : Hp) (p : Addr) (xs : List V) : Prop := SqL K H p xs ∨ SqT K H p xs
theorem ex_a {K : PySem.W.Frag} {H H' : Hp} {p : Addr} {xs : List V} (e : Ex H H') (h : SqA K H p xs) : SqA K H' p xs := h.imp (ex_l e) (ex_t e)
theorem rv_ixA {K : PySem.W.Frag} {H : Hp} {p : Addr} {xs : List V} {i : Int} {v : V} (h : SqA K H p xs) (ha : atI xs i = some v) : RV (rIxA K) (.ref p) (.int i) H v := fun H1 e _ q => by
  rcases ex_a e h with h | h
  · exact .inl ⟨p, xs, i, v, rfl, rfl, h, ha, q H1 (Ex.refl H1)⟩
  · exact .inr ⟨p, xs, i, v, rfl, rfl, h, ha, q H1 (Ex.refl H1)⟩
/-- data of up to n levels, each list of up to a thousand -/
inductive Nice : Nat → PyData → Prop where
  | non {n : Nat} : Nice n .none
  | bl {n : Nat} (b : Bool) : Nice n (.bool b)
  | int {n : Nat} (i : Int) : Nice n (.int i)
  | str {n : Nat} {x : Str} : PyData.strOk x = true → Nice n (.str x)
  | lst {n : Nat} {ds : List PyData} : ds.length ≤ 1000 → (∀ d ∈ ds, Nice n d) → Nice (n + 1) (.list ds)
  | tup {n : Nat} {ds : List PyData} : ds.length ≤ 1000 → (∀ d ∈ ds, Nice n d) → Nice (n + 1) (.tuple ds)
theorem Nice.sh : ∀ {n : Nat} {d : PyData}, Nice n d → Sh n d
  | _, _, .non => sh_none
  | _, _, .bl _ => sh_bool
  | _, _, .int _ => sh_int
  | _, _, .str h => sh_str h
  | _, _, .lst _ h => sh_lst fun d hd => Nice.sh (h d hd)
  | _, _, .tup _ h => sh_tup fun d hd => Nice.sh (h d hd)
theorem Nice.mono {n : Nat} {d : PyData} (h : Nice n d) : ∀ {m : Nat}, n ≤ m → Nice m d := by
  induction h with
  | non => intro m _; exact .non
  | bl b => intro m _; exact .bl b
  | int i => intro m _; exact .int i
  | str h => intro m _; exact .str h
  | lst hl _ ih =>
    intro m hm
    obtain ⟨k, rfl⟩ : ∃ k, m = k + 1 := ⟨m - 1, by omega⟩
    exact .lst hl fun d hd => ih d hd (by omega)
  | tup hl _ ih =>
    intro m hm
    obtain ⟨k, rfl⟩ : ∃ k, m = k + 1 := ⟨m - 1, by omega⟩
    exact .tup hl fun d hd => ih d hd (by omega)
theorem dpa_len {K : PySem.W.Frag} {H : Hp} : ∀ {vs : List V} {ds : List PyData}, DpAll K H vs ds → vs.length = ds.length
  | _, _, .nil => rfl
  | _, _, .cons _ h => congrArg (· + 1) (dpa_len h)
theorem dpa_get {K : PySem.W.Frag} {H : Hp} : ∀ {vs : List V} {ds : List PyData} {i : Nat} {d : PyData}, DpAll K H vs ds → ds[i]? = some d → ∃ v, vs[i]? = some v ∧ Dp K H v d
  | _, _, _, _, .nil, e => by simp at e
  | _, _, 0, _, .cons r _, e => by simp at e; subst e; exact ⟨_, rfl, r⟩
  | _, _, i + 1, x, .cons _ t, e => by
    obtain ⟨u, h1, h2⟩ := dpa_get (i := i) (d := x) t (by simpa using e)
    exact ⟨u, by simpa using h1, h2⟩
theorem dpa_of {K : PySem.W.Frag} {H : Hp} {vs : List V} {ds : List Deed} (h : Paired (DV K H) vs ds) : DpAll K H vs (ds.map fun d => .tuple d.dat) := by
  induction h with
  | nil => exact .nil
  | cons a _ ih => exact .cons a.dp ih
section
variable {K : PySem.W.Frag} {σ : L2.St} {H : Hp} {te : TE} {t : TT}
/-- a comprehension over a new tuple, over a tuple -/
theorem el_lcNT {xs : List V} {tl : TE} {j : Nat} {vs : List Nat} (f : Nat → Bool) (v : Nat → V) (h : EvU tl σ H xs) (hz : xs.length ≤ 40000) (hw : ∀ x, wipe ((wipe σ vs).set j (some x)) vs = wipe σ vs)
    (ht : ∀ (i : Nat) (x : V) H1, Ex H H1 → xs[i]? = some x → EvT t ((wipe σ vs).set j (some x)) H1 (f i)) (he : ∀ (i : Nat) (x : V) H1, Ex H H1 → xs[i]? = some x → f i = true → Ev te ((wipe σ vs).set j (some x)) H1 (v i)) :
    EvL (tLc (iTup K tl) (gName j) t te vs) σ H (given xs.length f v) := fun H0 e Q q => h H0 e _ fun a H1 ha e1 hx => ⟨a, rfl, ⟨xs, st_of hx⟩, fun Dl hD =>
  lc_tup (xs := xs) (Cw H1 f v Dl) ⟨hD, Ex.new hD, upd_same⟩ (fun i H' _ p => st_of (p.2.1 a _ hx)) (fun i x H' hi p => ⟨hw x, cw_turn p (by have := (List.getElem?_eq_some_iff.mp hi).1; omega) (ht i x H1 (e.trans e1) hi) (fun hf => he i x H1 (e.trans e1) hi hf)⟩)
    (fun H' p => q Dl H' (fresh_back e1 p.1) (e1.trans p.2.1) p.2.2)⟩
theorem el_lcT {a : Addr} {xs : List V} {tl : TE} {j : Nat} {vs : List Nat} (f : Nat → Bool) (v : Nat → V) (h : Ev tl σ H (.ref a)) (hx : SqT K H a xs) (hz : xs.length ≤ 40000) (hw : ∀ x, wipe ((wipe σ vs).set j (some x)) vs = wipe σ vs)
    (ht : ∀ (i : Nat) (x : V) H1, Ex H H1 → xs[i]? = some x → EvT t ((wipe σ vs).set j (some x)) H1 (f i)) (he : ∀ (i : Nat) (x : V) H1, Ex H H1 → xs[i]? = some x → f i = true → Ev te ((wipe σ vs).set j (some x)) H1 (v i)) :
    EvL (tLc (iTup K tl) (gName j) t te vs) σ H (given xs.length f v) := fun H0 e Q q => h H0 e _ fun H1 e1 => ⟨a, rfl, ⟨xs, ex_t (e.trans e1) hx⟩, fun Dl hD =>
  lc_tup (xs := xs) (Cw H1 f v Dl) ⟨hD, Ex.new hD, upd_same⟩ (fun i H' _ p => ex_t ((e.trans e1).trans p.2.1) hx) (fun i x H' hi p => ⟨hw x, cw_turn p (by have := (List.getElem?_eq_some_iff.mp hi).1; omega) (ht i x H1 (e.trans e1) hi) (fun hf => he i x H1 (e.trans e1) hi hf)⟩)
    (fun H' p => q Dl H' (fresh_back e1 p.1) (e1.trans p.2.1) p.2.2)⟩
end
theorem given_two (f : Nat → Bool) (v : Nat → V) : given 2 f v = (if f 0 then [v 0] else []) ++ (if f 1 then [v 1] else []) := by
  have e : given 2 f v = (([0, 1] : List Nat).filter f).map v := rfl
  rw [e]
  cases h0 : f 0 <;> cases h1 : f 1 <;> simp [List.filter, h0, h1]
def Deed.tag : Deed → Str
  | .rd _ => "read"
  | .wr _ _ => "write"
  | .rs => "rest"
def Deed.cell : Deed → Option Nat
  | .rd c => some c
  | .wr c _ => some c
  | .rs => none
def Deed.isW : Deed → Bool
  | .wr _ _ => true
  | _ => false
/-- whether both are at one cell, and one writes -/
def clashD (d e : Deed) : Bool := match d.cell, e.cell with
  | some a, some b => decide (a = b) && (d.isW || e.isW)
  | _, _ => false
theorem DV.tag {K : PySem.W.Frag} {H : Hp} {a : Addr} {d : Deed} (h : SqT K H a d.vals) : RV (rIxT K) (.ref a) (.int 0) H (.str d.tag) := rv_ixT h (by cases d <;> rfl)
theorem in_ww : inV (.str "write") [.str "write", .str "write"] = true := by decide +kernel
theorem in_wr : inV (.str "write") [.str "write", .str "read"] = true := by decide +kernel
theorem in_rw : inV (.str "write") [.str "read", .str "write"] = true := by decide +kernel
theorem in_rr : inV (.str "write") [.str "read", .str "read"] = false := by decide +kernel
theorem tag_rest (d : Deed) : (!decide (V.str d.tag = V.str "rest")) = !decide (d = .rs) := by
  cases d with
  | rd c =>
    have h : decide (V.str (Deed.rd c).tag = V.str "rest") = false := (show decide (V.str "read" = V.str "rest") = false by decide +kernel)
    rw [h]
    simp
  | wr c w =>
    have h : decide (V.str (Deed.wr c w).tag = V.str "rest") = false := (show decide (V.str "write" = V.str "rest") = false by decide +kernel)
    rw [h]
    simp
  | rs => simp [Deed.tag]
theorem cut_at (us : List V) (i : Nat) : cutV us (some (i : Int)) (some ((i : Int) + 1)) = (us.drop i).take 1 := by
  unfold cutV
  have e1 : HT.sIx us.length 0 (some (i : Int)) = min i us.length := HT.sIx_nat _ _ _
  have e2 : HT.sIx us.length us.length (some ((i : Int) + 1)) = min (i + 1) us.length := HT.sIx_nat us.length us.length (i + 1)
  rw [e1, e2]
  by_cases h : i < us.length
  · have h1 : min i us.length = i := by omega
    have h2 : min (i + 1) us.length = i + 1 := by omega
    rw [h1, h2]
    have h3 : i + 1 - i = 1 := by omega
    rw [h3]
  · have h1 : min i us.length = us.length := by omega
    rw [h1, List.drop_of_length_le (Nat.le_refl _), List.drop_of_length_le (by omega)]
    simp
theorem cut_tail (us : List V) : cutV us (some 1) none = us.drop 1 := by
  unfold cutV
  have e1 : HT.sIx us.length 0 (some ((1 : Nat) : Int)) = min 1 us.length := HT.sIx_nat _ _ _
  have e2 : HT.sIx us.length us.length none = us.length := HT.sIx_none _ _
  have e3 : (some (1 : Int)) = some ((1 : Nat) : Int) := rfl
  rw [e3, e1, e2]
  cases us with
  | nil => rfl
  | cons a r =>
    have h1 : min 1 (a :: r).length = 1 := by simp
    rw [h1]
    simp
theorem PV.drop {K : PySem.W.Frag} {H : Hp} : ∀ {vs : List V} {ds : List Deed} (n : Nat), PV K H vs ds → PV K H (vs.drop n) (ds.drop n)
  | _, _, 0, h => h
  | _, _, n + 1, .nil => .nil
  | _, _, n + 1, .cons _ t => PV.drop n t
theorem sqt_K {K : PySem.W.Frag} {a : Addr} {d : Option Addr} {its : Array Value} {n : Nat} {sl : Array (Option Value)} {xs : List V} (l : K.lookup a = some ⟨.type "tuple", d, .seq its n, sl⟩) (hz : its.size ≤ sizeLine) (r : Vals xs its.toList) (H : Hp) : SqT K H a xs :=
  .inr ⟨_, its, n, l, rfl, rfl, hz, r⟩
/-- the written things of the program's first files -/
structure TxP (K : PySem.W.Frag) (mg : Str → Option Value) (aREST aWORTHS : Addr) (t4 t40 : Tok) : Prop where
  g_REST : mg "REST" = some (.ref aREST)
  REST : ∀ H, SqT K H aREST Deed.rs.vals
  g_WORTHS : mg "WORTHS" = some (.ref aWORTHS)
  WORTHS : ∀ H, SqT K H aWORTHS [.int 0, .int 1, .int 2]
  g_MOST_CELLS : mg "MOST_CELLS" = some (.int 4 t4)
  g_MOST_DEEDS : mg "MOST_DEEDS" = some (.int 40 t40)
theorem in_worths (i : Int) : inV (.int i) [.int 0, .int 1, .int 2] = decide (0 ≤ i ∧ i < 3) := by
  rw [Bool.eq_iff_iff]
  simp only [inV, eqV, List.any_cons, List.any_nil, Bool.or_false, Bool.or_eq_true, beq_iff_eq, decide_eq_true_eq]
  omega
theorem given_none (n : Nat) (v : Nat → V) : given n (fun _ => false) v = [] := by
  unfold given
  rw [List.filter_eq_nil_iff.mpr (fun _ _ => by decide)]
  rfl

/-! ### what is kept but at some places -/
def Bt (S : List Addr) (H H' : Hp) : Prop := ∀ b o, ¬ b ∈ S → H b = some o → H' b = some o
theorem Bt.refl {S : List Addr} (H : Hp) : Bt S H H := fun _ _ _ h => h
theorem Bt.trans {S : List Addr} {H H1 H2 : Hp} (a : Bt S H H1) (b : Bt S H1 H2) : Bt S H H2 := fun c o n h => b c o n (a c o n h)
theorem Bt.of_ex {S : List Addr} {H H' : Hp} (e : Ex H H') : Bt S H H' := fun c o _ h => e c o h
theorem Bt.ex {S : List Addr} {H H' : Hp} (a : Bt S H H') (h : ∀ b ∈ S, ∀ o, H b = some o → H' b = some o) : Ex H H' := fun c o q => by
  by_cases hc : c ∈ S
  · exact h c hc o q
  · exact a c o hc q
theorem Bt.mono {S T : List Addr} {H H' : Hp} (a : Bt S H H') (h : ∀ b ∈ S, b ∈ T) : Bt T H H' := fun c o n q => a c o (fun z => n (h c z)) q
theorem Bt.upd {S : List Addr} {H H' : Hp} {p : Addr} {o : HO} (a : Bt S H H') (hp : p ∈ S ∨ H p = none) : Bt S H (upd H' p o) := fun c u n q => by
  have hc : c ≠ p := by
    rintro rfl
    rcases hp with hp | hp
    · exact n hp
    · rw [hp] at q
      cases q
  rw [upd_ne hc]
  exact a c u n q
theorem Bt.free {S : List Addr} {H H' : Hp} {p : Addr} (a : Bt S H H') (hp : ¬ p ∈ S) (h : H' p = none) : H p = none := by
  cases q : H p with
  | none => rfl
  | some o =>
    rw [a p o hp q] at h
    cases h

/-! ### the draws: a list at h of a number, a list at l, a number -/
structure Draw (H : Hp) (h l : Addr) : Prop where
  st : ∃ (a p : Int) (ns : List Int), H h = some (.lst [.int a, .ref l, .int p]) ∧ H l = some (.lst (ns.map V.int)) ∧ ns.length ≤ 63
theorem Draw.ne {H : Hp} {h l : Addr} (D : Draw H h l) : h ≠ l := by
  obtain ⟨a, p, ns, h1, h2, _⟩ := D.st
  refine ne_of h1 h2 fun z => ?_
  injection z with z
  cases ns with
  | nil => cases z
  | cons n r =>
    cases r with
    | nil => cases z
    | cons m r =>
      injection z with _ z
      injection z with z _
      cases z
theorem Draw.mono {H H' : Hp} {h l : Addr} (e : Ex H H') (D : Draw H h l) : Draw H' h l := by
  obtain ⟨a, p, ns, h1, h2, h3⟩ := D.st
  exact ⟨a, p, ns, e _ _ h1, e _ _ h2, h3⟩
/-- a tuple stays through draws -/
theorem Draw.t {K : PySem.W.Frag} {H H' : Hp} {h l a : Addr} {xs : List V} (D : Draw H h l) (e : Bt [h, l] H H') (q : SqT K H a xs) : SqT K H' a xs := by
  obtain ⟨_, _, _, h1, h2, _⟩ := D.st
  rcases q with (q | ⟨o, q⟩) | q
  · refine .inl (.inl (e a _ ?_ q))
    simp only [List.mem_cons, List.not_mem_nil, or_false]
    rintro (rfl | rfl)
    · rw [h1] at q; cases q
    · rw [h2] at q; cases q
  · refine .inl (.inr ⟨o, e a _ ?_ q⟩)
    simp only [List.mem_cons, List.not_mem_nil, or_false]
    rintro (rfl | rfl)
    · rw [h1] at q; cases q
    · rw [h2] at q; cases q
  · exact .inr q
theorem Draw.dv {K : PySem.W.Frag} {H H' : Hp} {h l : Addr} {v : V} {d : Deed} (D : Draw H h l) (e : Bt [h, l] H H') (q : DV K H v d) : DV K H' v d := by
  obtain ⟨a, h1, h2⟩ := q
  exact ⟨a, h1, D.t e h2⟩
theorem pv_map {K : PySem.W.Frag} {H H' : Hp} {vs : List V} {ds : List Deed} (f : ∀ v d, DV K H v d → DV K H' v d) (q : PV K H vs ds) : PV K H' vs ds := L2.Paired.mapP q f
theorem Draw.pv {K : PySem.W.Frag} {H H' : Hp} {h l : Addr} {vs : List V} {ds : List Deed} (D : Draw H h l) (e : Bt [h, l] H H') (q : PV K H vs ds) : PV K H' vs ds := pv_map (fun _ _ => D.dv e) q
theorem PV.mono {K : PySem.W.Frag} {H H' : Hp} {vs : List V} {ds : List Deed} (e : Ex H H') (q : PV K H vs ds) : PV K H' vs ds := pv_map (fun _ _ => DV.mono e) q
theorem PV.length {K : PySem.W.Frag} {H : Hp} {vs : List V} {ds : List Deed} (q : PV K H vs ds) : vs.length = ds.length := Paired.length q
theorem PV.get {K : PySem.W.Frag} {H : Hp} : ∀ {vs : List V} {ds : List Deed} {i : Nat} {v : V}, PV K H vs ds → vs[i]? = some v → ∃ d, ds[i]? = some d ∧ DV K H v d
  | _, _, _, _, .nil, e => by simp at e
  | _, _, 0, _, .cons r _, e => by simp at e; subst e; exact ⟨_, rfl, r⟩
  | _, _, i + 1, x, .cons _ t, e => by
    obtain ⟨u, h1, h2⟩ := PV.get (i := i) (v := x) t (by simpa using e)
    exact ⟨u, by simpa using h1, h2⟩
theorem PV.snoc {K : PySem.W.Frag} {H : Hp} {v : V} {d : Deed} (r : DV K H v d) : ∀ {vs : List V} {ds : List Deed}, PV K H vs ds → PV K H (vs ++ [v]) (ds ++ [d])
  | _, _, .nil => .cons r .nil
  | _, _, .cons q t => .cons q (PV.snoc r t)
/-- a deed stays where a list is changed -/
theorem dv_but {K : PySem.W.Frag} {H H' : Hp} {p : Addr} {us : List V} {v : V} {d : Deed} (b : Bt [p] H H') (hp : H p = some (.lst us)) (q : DV K H v d) : DV K H' v d := by
  obtain ⟨a, h1, h2⟩ := q
  refine ⟨a, h1, ?_⟩
  have ne : ∀ o, H a = some o → (∀ xs, o ≠ .lst xs) → ¬ a ∈ [p] := by
    intro o ho no hm
    rw [List.mem_singleton.mp hm, hp] at ho
    exact no us (Option.some.inj ho).symm
  rcases h2 with (h2 | ⟨o, h2⟩) | h2
  · exact .inl (.inl (b a _ (ne _ h2 (fun _ z => by cases z)) h2))
  · exact .inl (.inr ⟨o, b a _ (ne _ h2 (fun _ z => by cases z)) h2⟩)
  · exact .inr h2
/-- a worth -/
def wV (n : Nat) : V := .int (n : Int)
/-- what a drawer promises of the heap -/
structure Drew (H H' : Hp) (h l : Addr) : Prop where
  dr : Draw H' h l
  bt : Bt [h, l] H H'
theorem Drew.refl {H : Hp} {h l : Addr} (D : Draw H h l) : Drew H H h l := ⟨D, Bt.refl H⟩
theorem Drew.trans {H H1 H2 : Hp} {h l : Addr} (a : Drew H H1 h l) (b : Drew H1 H2 h l) : Drew H H2 h l := ⟨b.dr, a.bt.trans b.bt⟩
theorem Drew.of_ex {H H1 H2 : Hp} {h l : Addr} (a : Drew H H1 h l) (e : Ex H1 H2) : Drew H H2 h l := ⟨a.dr.mono e, a.bt.trans (Bt.of_ex e)⟩
theorem Drew.new {H H1 : Hp} {h l p : Addr} {o : HO} (a : Drew H H1 h l) (hp : H1 p = none) : Drew H (upd H1 p o) h l := a.of_ex (Ex.new hp)

/-! ### a def with a default -/
structure HasD (K : PySem.W.Frag) (mg : Str → Option Value) (x : Str) (st : Stmt) (dvs : List V) : Prop where
  ex : ∃ f fd, FunD K x x (defArgs st) (defBody st) (defScope st) dvs [] f fd ∧ mg x = some (.ref f)
/-- called so that these fill up its last parameters -/
structure Dq (P : Program) (w : World) (K : PySem.W.Frag) (mg : Str → Option Value) (base : Heap) (CX : CXT) (x : Str) (ps : List Str) (dvs : List V) (k : Nat) (sp : Sp) : Prop where
  ex : ∃ f fd ds, FnOk P w K mg base CX k f fd ps sp ∧ mg x = some (.ref f) ∧ PySem.W.keepIn K (.ref f) = true ∧ Binds K fd ps ds ∧ Vals dvs ds
section
variable {P : Program} {w : World} {K : PySem.W.Frag} {mg : Str → Option Value} {base : Heap} {x : Str} {st : Stmt} {dvs : List V}
theorem FunD.ok0 {qual : Str} {f : Addr} {fd : FuncData} {N ps : List Str} {k : Nat} {sp : Sp} (F : FunD K x qual (defArgs st) (defBody st) (defScope st) dvs [] f fd) (S : FnScope N ps (defScope st)) (len : ∀ vs H Q E, sp vs H Q E → vs.length = ps.length)
    (hbody : ∀ (cdv : Value) (A : Around) (outer : List Env) (s : Shared) (H : Hp) (vs : List V) (Q : VK) (E : XK), Room k (A.deeper (PyProof.Rows.envOfC qual (defScope st) s.heap.objs.size f cdv)) → sp vs H Q E →
      ∃ t, PSs (cxOf CX0 P w K mg base N qual (defScope st) f cdv A outer s H E).nox (defBody st) t ∧ t { nx := fun _ H' => Q .non H', rt := Q } (start N vs) H) : FnOk P w K mg base CX0 (k + 1) f fd ps sp :=
  F.ok S len fun cdv A outer s H vs Q E hr hsp => by
    obtain ⟨t, h, q⟩ := hbody cdv A outer s H vs Q E hr hsp
    exact ⟨t, h.nox, q⟩
theorem dq_of {CX : CXT} {ps : List Str} {k : Nat} {sp : Sp} (n j : Nat) (h : HasD K mg x st dvs) (hd : dvs ≠ []) (hn : n + (dvs.length - j) = ps.length)
    (hb : ∀ (T : Addr) (kV doc pm : Value) (an : Option Addr) (cdv ct : Value) (us its : List Value), us.length = n → its.length = dvs.length →
      ∃ k, bindArgs (PySem.W.fnOf x x (defArgs st) (defBody st) (defScope st) (.ref T) kV doc pm an cdv ct) ⟨us, []⟩ = seqItems? (.ref T) >>= k ∧ k (some its.toArray) = pure (ps.zip (us ++ its.drop j)))
    (hf : ∀ f fd, FunD K x x (defArgs st) (defBody st) (defScope st) dvs [] f fd → FnOk P w K mg base CX k f fd ps sp) : Dq P w K mg base CX x ps (dvs.drop j) k sp := by
  obtain ⟨f, fd, F, hm⟩ := h.ex
  obtain ⟨ds, r, b⟩ := F.binds1 n j hd hn hb
  exact ⟨f, fd, ds, hf f fd F, hm, F.kp, b, r⟩
theorem hasD_mk {h : Heap} {f T : Addr} {oc cT : Value} {od an dT : Option Addr} {osl slT : Array (Option Value)} {kV doc pm cdv ct : Value} {i : Int} {tk : Tok} {n : Nat} (X : K.In h) (G : h.Ns mainGlobals mg)
    (a : PySem.W.nsIn K mainGlobals x = some (some (.ref f)))
    (l : K.lookup f = some ⟨oc, od, .func (PySem.W.fnOf x x (defArgs st) (defBody st) (defScope st) (.ref T) kV doc pm an cdv ct), osl⟩)
    (c : PySem.W.codeIn K cdv x = true) (k : PySem.W.keepIn K (.ref f) = true) (lT : K.lookup T = some ⟨cT, dT, .seq #[.int i tk] n, slT⟩) : HasD K mg x st [.int i] :=
  ⟨f, _, ⟨⟨oc, od, .ref T, kV, doc, pm, an, cdv, ct, osl, rfl, l, c, .inr ⟨by simp, T, _, [.int i tk], n, rfl, lT, rfl, .cons ⟨_, rfl⟩ .nil⟩, .inl rfl⟩, k⟩, PySem.W.mg_of X G a⟩
end
section
variable {X : Cx}
theorem pe_dq {CX : CXT} {x : Str} {ps : List Str} {dvs : List V} {k j : Nat} {sp : Sp} {E : XK} {e : Expr} {es : List Expr} {t : TA} {p pos : Pos} (h : Dq X.prog X.w X.K X.mg X.base CX x ps dvs k sp) (hr : Room j X.A) (hk : k ≤ j) (hx : Passes CX X E)
    (ha : PA X (e :: es) t) (hg : Gl X x := by rfl) (hdb : (x == ("__debug__" : Str)) = false := by decide) (he : starEach (e :: es) X.env = (false, eval e X.env) :: starEach es X.env := by rfl)
    (hpl : (backTo pos (starEach es X.env)).any (·.1) = false := by rfl) : PE X (.Call (.Name x p) (e :: es) [] pos) (tCall sp dvs E t) := by
  obtain ⟨f, fd, ds, F, hm, kp, b, r⟩ := h.ex
  exact pe_call F (hr.mono hk) hg hm kp b r hx ha hdb he hpl
end
end Db

namespace Db
open PySem L2 Evl
/-! ### the five rules, beat by beat -/
inductive Rule where
  | old | new | left | right | wait
  deriving DecidableEq
def Rule.name : Rule → Str
  | .old => "old" | .new => "new" | .left => "left" | .right => "right" | .wait => "wait"
def rdl (ws : List Nat) : Deed → List Nat
  | .rd c => [ws.getD c 0]
  | _ => []
def wrl (ws : List Nat) : Deed → List Nat
  | .wr c x => ws.set c x
  | _ => ws
theorem wrl_length (ws : List Nat) (d : Deed) : (wrl ws d).length = ws.length := by
  cases d <;> simp [wrl]
theorem rdl_length (ws : List Nat) (d : Deed) : (rdl ws d).length ≤ 1 := by
  cases d <;> simp [rdl]
theorem wrl_small {ws : List Nat} {d : Deed} {n : Nat} (h : ∀ x ∈ ws, x < 3) (hd : d.ok n) : ∀ x ∈ wrl ws d, x < 3 := by
  intro x hx
  cases d with
  | rd c => exact h x hx
  | rs => exact h x hx
  | wr c y =>
    rcases List.mem_or_eq_of_mem_set hx with hx | rfl
    · exact h x hx
    · exact hd.2
/-- what is told of a beat: the worths behind it, what is read at each door -/
def beat : Rule → List Nat → Deed → Deed → List Nat × List Nat × List Nat
  | .old, ws, d, e => (wrl (wrl ws e) d, rdl ws d, rdl ws e)
  | .new, ws, d, e => (wrl (wrl ws e) d, rdl (wrl (wrl ws e) d) d, rdl (wrl (wrl ws e) d) e)
  | .right, ws, d, e => (wrl (wrl ws e) d, rdl (wrl ws e) d, rdl ws e)
  | _, ws, d, e => (wrl (wrl ws d) e, rdl ws d, rdl (wrl ws d) e)
theorem beat_length (r : Rule) (ws : List Nat) (d e : Deed) : (beat r ws d e).1.length = ws.length := by
  cases r <;> simp [beat, wrl_length]
theorem beat_seen (r : Rule) (ws : List Nat) (d e : Deed) : (beat r ws d e).2.1.length ≤ 1 := by
  cases r <;> exact rdl_length _ _
theorem beat_others (r : Rule) (ws : List Nat) (d e : Deed) : (beat r ws d e).2.2.length ≤ 1 := by
  cases r <;> exact rdl_length _ _
theorem beat_small {r : Rule} {ws : List Nat} {d e : Deed} {n : Nat} (h : ∀ x ∈ ws, x < 3) (hd : d.ok n) (he : e.ok n) : ∀ x ∈ (beat r ws d e).1, x < 3 := by
  cases r
  case old => exact wrl_small (wrl_small h he) hd
  case new => exact wrl_small (wrl_small h he) hd
  case left => exact wrl_small (wrl_small h hd) he
  case right => exact wrl_small (wrl_small h he) hd
  case wait => exact wrl_small (wrl_small h hd) he
structure Sts where
  ws : List Nat
  l : List Deed
  r : List Deed
  ss : List Nat
  os : List Nat
  n : Nat
def Sts.done (S : Sts) : Prop := S.l = [] ∧ S.r = []
instance (S : Sts) : Decidable S.done := inferInstanceAs (Decidable (_ ∧ _))
/-- whether the right door waits -/
def waits (r : Rule) (S : Sts) : Bool := decide (r = .wait) && clashD (S.l.headD .rs) (S.r.headD .rs)
def after (S : Sts) (b : List Nat × List Nat × List Nat) (w : Bool) : Sts := { ws := b.1, l := S.l.tail, r := if w then S.r else S.r.tail, ss := S.ss ++ b.2.1, os := S.os ++ b.2.2, n := S.n + 1 }
def one (r : Rule) (S : Sts) : Sts := if waits r S = true then after S (beat .left S.ws (S.l.headD .rs) .rs) true else after S (beat r S.ws (S.l.headD .rs) (S.r.headD .rs)) false
def stepS (r : Rule) (S : Sts) : Sts := if S.done then S else one r S
def Sts.meas (S : Sts) : Nat := S.l.length + S.r.length
theorem waits_l {r : Rule} {S : Sts} (h : waits r S = true) : S.l ≠ [] := by
  intro z
  unfold waits at h
  rw [z] at h
  have e : clashD (([] : List Deed).headD .rs) (S.r.headD .rs) = false := rfl
  rw [e, Bool.and_false] at h
  cases h
theorem one_less {r : Rule} {S : Sts} (h : ¬ S.done) : (one r S).meas < S.meas := by
  unfold one
  by_cases hw : waits r S = true
  · rw [if_pos hw]
    have hl := waits_l hw
    unfold Sts.meas after
    cases hS : S.l with
    | nil => exact absurd hS hl
    | cons d t => simp
  · rw [if_neg hw]
    unfold Sts.meas after
    cases hl : S.l with
    | nil =>
      cases hr : S.r with
      | nil => exact absurd ⟨hl, hr⟩ h
      | cons e t => simp
    | cons d t =>
      cases hr : S.r with
      | nil => simp
      | cons e u => simp; omega
theorem stepS_of {r : Rule} {S : Sts} (h : ¬ S.done) : stepS r S = one r S := if_neg h
theorem stepS_done {r : Rule} {S : Sts} (h : S.done) : stepS r S = S := if_pos h
def runF (r : Rule) : Nat → Sts → Sts
  | 0, S => S
  | n + 1, S => runF r n (stepS r S)
theorem runF_done {r : Rule} {S : Sts} (h : S.done) : ∀ n, runF r n S = S
  | 0 => rfl
  | n + 1 => by
    rw [runF, stepS_done h]
    exact runF_done h n
theorem runF_more {r : Rule} : ∀ (n : Nat) (S : Sts), S.meas ≤ n → runF r n S = runF r S.meas S
  | 0, S, h => by rw [show S.meas = 0 by omega]
  | n + 1, S, h => by
    by_cases hd : S.done
    · rw [runF_done hd, runF_done hd]
    · have hl := one_less (r := r) hd
      obtain ⟨m, hm⟩ : ∃ m, S.meas = m + 1 := ⟨S.meas - 1, by omega⟩
      rw [hm, runF, runF, stepS_of hd, runF_more n _ (by omega)]
      by_cases e : m = n
      · rw [e, runF_more n _ (by omega)]
      · exact (runF_more m _ (by omega)).symm
  termination_by n => n
/-- what stands when all is done -/
def out (r : Rule) (S : Sts) : Sts := runF r S.meas S
theorem out_done {r : Rule} {S : Sts} (h : S.done) : out r S = S := runF_done h _
theorem out_one {r : Rule} {S : Sts} (h : ¬ S.done) : out r (one r S) = out r S := by
  unfold out
  have hl := one_less (r := r) h
  obtain ⟨m, hm⟩ : ∃ m, S.meas = m + 1 := ⟨S.meas - 1, by omega⟩
  rw [hm, runF, stepS_of h, runF_more m _ (by omega)]
def begin0 (ws : List Nat) (l r : List Deed) : Sts := ⟨ws, l, r, [], [], 0⟩
/-- what stays of a state through all beats: sizes, worths, deeds -/
structure Fit (c : Nat) (m : Nat) (S : Sts) : Prop where
  len : S.ws.length = c
  small : ∀ x ∈ S.ws, x < 3
  okl : ∀ d ∈ S.l, d.ok c
  okr : ∀ d ∈ S.r, d.ok c
  ss : S.ss.length + S.meas ≤ m
  os : S.os.length + S.meas ≤ m
  n : S.n + S.meas ≤ m
theorem ok_headD {c : Nat} {l : List Deed} (h : ∀ d ∈ l, d.ok c) : (l.headD .rs).ok c := by
  cases l with
  | nil => exact True.intro
  | cons d t => exact h d List.mem_cons_self
theorem mem_tail {l : List Deed} {d : Deed} (h : d ∈ l.tail) : d ∈ l := by
  cases l with
  | nil => exact h
  | cons e t => exact List.mem_cons_of_mem _ h
theorem Fit.one {c m : Nat} {S : Sts} {r : Rule} (F : Fit c m S) (h : ¬ S.done) : Fit c m (one r S) := by
  have hl := one_less (r := r) h
  have h1 := ok_headD F.okl
  have h2 := ok_headD F.okr
  by_cases hw : waits r S = true
  · have e : Db.one r S = after S (beat .left S.ws (S.l.headD .rs) .rs) true := if_pos hw
    rw [e] at hl ⊢
    have a1 := beat_seen .left S.ws (S.l.headD .rs) .rs
    have a2 := beat_others .left S.ws (S.l.headD .rs) .rs
    refine ⟨(beat_length _ _ _ _).trans F.len, beat_small F.small h1 (e := .rs) (n := c) True.intro, fun d hd => F.okl d (mem_tail hd), fun d hd => F.okr d hd, ?_, ?_, ?_⟩
    · have := F.ss
      show (S.ss ++ _).length + _ ≤ m
      rw [List.length_append]; omega
    · have := F.os
      show (S.os ++ _).length + _ ≤ m
      rw [List.length_append]; omega
    · have := F.n
      show S.n + 1 + _ ≤ m
      omega
  · have e : Db.one r S = after S (beat r S.ws (S.l.headD .rs) (S.r.headD .rs)) false := if_neg hw
    rw [e] at hl ⊢
    have a1 := beat_seen r S.ws (S.l.headD .rs) (S.r.headD .rs)
    have a2 := beat_others r S.ws (S.l.headD .rs) (S.r.headD .rs)
    refine ⟨(beat_length _ _ _ _).trans F.len, beat_small F.small h1 h2, fun d hd => F.okl d (mem_tail hd), fun d hd => F.okr d (mem_tail hd), ?_, ?_, ?_⟩
    · have := F.ss
      show (S.ss ++ _).length + _ ≤ m
      rw [List.length_append]; omega
    · have := F.os
      show (S.os ++ _).length + _ ≤ m
      rw [List.length_append]; omega
    · have := F.n
      show S.n + 1 + _ ≤ m
      omega
theorem Fit.begin0 {c : Nat} {ws : List Nat} {l r : List Deed} (h1 : ws.length = c) (h2 : ∀ x ∈ ws, x < 3) (h3 : ∀ d ∈ l, d.ok c) (h4 : ∀ d ∈ r, d.ok c) : Fit c (l.length + r.length) (begin0 ws l r) :=
  ⟨h1, h2, h3, h4, by show 0 + _ ≤ _; unfold Sts.meas; simp [Db.begin0], by show 0 + _ ≤ _; unfold Sts.meas; simp [Db.begin0], by show 0 + _ ≤ _; unfold Sts.meas; simp [Db.begin0]⟩
theorem fit_runF {c m : Nat} {r : Rule} : ∀ (n : Nat) (S : Sts), Fit c m S → Fit c m (runF r n S)
  | 0, _, F => F
  | n + 1, S, F => by
    rw [runF]
    refine fit_runF n _ ?_
    by_cases h : S.done
    · rw [stepS_done h]; exact F
    · rw [stepS_of h]; exact F.one h
theorem fit_out {c m : Nat} {r : Rule} {S : Sts} (F : Fit c m S) : Fit c m (out r S) := fit_runF _ _ F

/-! ### deeds through changes of lists -/
theorem t_but {K : PySem.W.Frag} {H H' : Hp} {S : List Addr} {a : Addr} {xs : List V} (b : Bt S H H') (hp : ∀ p ∈ S, ∃ us, H p = some (.lst us)) (q : SqT K H a xs) : SqT K H' a xs := by
  have ne : ∀ o, H a = some o → (∀ xs, o ≠ .lst xs) → ¬ a ∈ S := by
    intro o ho no hm
    obtain ⟨us, h⟩ := hp a hm
    rw [h] at ho
    exact no us (Option.some.inj ho).symm
  rcases q with (h2 | ⟨o, h2⟩) | h2
  · exact .inl (.inl (b a _ (ne _ h2 (fun _ z => by cases z)) h2))
  · exact .inl (.inr ⟨o, b a _ (ne _ h2 (fun _ z => by cases z)) h2⟩)
  · exact .inr h2
theorem dv_buts {K : PySem.W.Frag} {H H' : Hp} {S : List Addr} {v : V} {d : Deed} (b : Bt S H H') (hp : ∀ p ∈ S, ∃ us, H p = some (.lst us)) (q : DV K H v d) : DV K H' v d := by
  obtain ⟨a, h1, h2⟩ := q
  exact ⟨a, h1, t_but b hp h2⟩
theorem pv_buts {K : PySem.W.Frag} {H H' : Hp} {S : List Addr} {vs : List V} {ds : List Deed} (b : Bt S H H') (hp : ∀ p ∈ S, ∃ us, H p = some (.lst us)) (q : PV K H vs ds) : PV K H' vs ds := pv_map (fun _ _ => dv_buts b hp) q
theorem Bt.set {S : List Addr} {H H' : Hp} {p : Addr} {o : HO} (a : Bt S H H') (hp : p ∈ S) : Bt S H (L2.upd H' p o) := a.upd (.inl hp)
/-- a name is set: on with what follows -/
theorem gn {i : Nat} {v : V} {σ : L2.St} {H : Hp} {Q : L2.St → Hp → Prop} (h : Q (σ.set i (some v)) H) : gName i v σ H Q := h
theorem headD_drop : ∀ (ds : List Deed) (i : Nat), (ds.drop i).headD .rs = ds.getD i .rs
  | [], i => by simp
  | d :: r, 0 => rfl
  | d :: r, i + 1 => by
    have h := headD_drop r i
    simpa using h
theorem Dn.up {P : Program} {w : World} {K : PySem.W.Frag} {mg : Str → Option Value} {base : Heap} {CX : CXT} {x : Str} {ps : List Str} {j k : Nat} {sp : Sp} (h : Dn P w K mg base CX x ps j sp) (hk : j ≤ k) : Dn P w K mg base CX x ps k sp := by
  obtain ⟨f, fd, F, a, b, c⟩ := h.ex
  exact ⟨f, fd, F.mono hk, a, b, c⟩
/-- an extension of what stood ahead, if the places were new -/
theorem Bt.ex_back {S : List Addr} {H H1 H2 : Hp} (b : Bt S H H1) (f : Ex H1 H2) (h : ∀ p ∈ S, H p = none) : Ex H H2 := fun a o q => by
  refine f _ _ (b a o (fun hm => ?_) q)
  rw [h a hm] at q
  cases q
def ruleNames : List V := [.str "old", .str "new", .str "left", .str "right", .str "wait"]
/-! ### more of evaluation -/
section
variable {K : PySem.W.Frag} {σ : L2.St} {H : Hp} {ta tb te : TE} {t : TT} {D : Ends}
theorem el_if {b : Bool} {xs : List V} (h : EvT t σ H b) (h1 : b = true → EvL ta σ H xs) (h2 : b = false → EvL tb σ H xs) : EvL (tIf t ta tb) σ H xs := fun H1 e Q q => h H1 e _ fun H2 e2 => by
  cases b with
  | true =>
    show ta σ H2 Q
    exact h1 rfl H2 (e.trans e2) Q fun p H3 hp e3 h3 => q p H3 (fresh_back e2 hp) (e2.trans e3) h3
  | false =>
    show tb σ H2 Q
    exact h2 rfl H2 (e.trans e2) Q fun p H3 hp e3 h3 => q p H3 (fresh_back e2 hp) (e2.trans e3) h3
theorem el_cat {a b : Addr} {xs ys : List V} (ha : Ev ta σ H (.ref a)) (hb : Ev tb σ H (.ref b)) (h1 : H a = some (.lst xs)) (h2 : H b = some (.lst ys)) (hz : xs.length + ys.length ≤ 100000) : EvL (tOp rCat ta tb) σ H (xs ++ ys) := fun H1 e Q q =>
  ha H1 e _ fun H2 e2 => hb H2 (e.trans e2) _ fun H3 e3 => ⟨a, b, xs, ys, rfl, rfl, ((e.trans e2).trans e3) _ _ h1, ((e.trans e2).trans e3) _ _ h2, sz_of hz, fun p hp => q p _ (fresh_back (e2.trans e3) hp) ((e2.trans e3).trans (Ex.new hp)) upd_same⟩
theorem el_listA {p : Addr} {xs : List V} (ha : Ev ta σ H (.ref p)) (h : SqA K H p xs) : EvL (tCB (rListS K) (tCons ta tNil)) σ H xs := fun H1 e Q q =>
  ha H1 e _ fun H2 e2 => ⟨p, xs, rfl, ex_a (e.trans e2) h, fun l hl => q l _ (fresh_back e2 hl) (e2.trans (Ex.new hl)) upd_same⟩
/-- if the deed in a slot is a write, it is done at the list in another -/
theorem wr_body {i j : Nat} {p : Addr} {x : V} {dd : Deed} {u : List Nat} (hx : σ[i]? = some (some x)) (hp : σ[j]? = some (some (.ref p))) (dv : DV K H x dd) (h : H p = some (.lst (u.map wV))) (ho : dd.ok u.length)
    (k : ∀ H', Bt [p] H H' → H' p = some (.lst ((wrl u dd).map wV)) → D.nx σ H') :
    tIfS (tTest (tOp rEq (tOp (rIxT K) (tVar i) (tC (.int 0))) (tC (.str "write")))) (tAsg (tOp (rIxT K) (tVar i) (tC (.int 2))) (gSub (tVar j) (tOp (rIxT K) (tVar i) (tC (.int 1))) rSetL)) tNext D σ H := by
  obtain ⟨a, rfl, h1⟩ := dv
  refine s_when (b := decide (V.str dd.tag = V.str "write")) (et_test (ev_op (ev_op (ev_var hx) ev_c (DV.tag h1)) ev_c (rv_eq rfl))) (fun hb H1 f1 => ?_) (fun hb H1 f1 => ?_)
  · cases dd with
    | rd c => exact absurd hb (by show ¬ decide (V.str "read" = V.str "write") = true; decide +kernel)
    | rs => exact absurd hb (by show ¬ decide (V.str "rest" = V.str "write") = true; decide +kernel)
    | wr c y =>
      have g1 := ex_t f1 h1
      obtain ⟨hc, hy⟩ : c < u.length ∧ y < 3 := ho
      refine s_setL (l := p) (v := wV y) (j := c) (f1 _ _ h) (ev_op (ev_var hx) ev_c (rv_ixT g1 rfl)) (ev_var hp) (ev_op (ev_var hx) ev_c (rv_ixT g1 rfl)) (by rw [List.length_map]; exact hc) fun H2 f2 => ?_
      refine k _ ((Bt.of_ex (f1.trans f2)).upd (.inl (by simp))) ?_
      rw [upd_same, wrl, List.map_set]
  · refine k _ (Bt.of_ex f1) ?_
    cases dd with
    | wr c y => exact absurd hb (by show ¬ decide (V.str "write" = V.str "write") = false; decide +kernel)
    | rd c => exact f1 _ _ h
    | rs => exact f1 _ _ h
end
section
variable {K : PySem.W.Frag} {σ : L2.St} {H : Hp} {ta tb te : TE} {t : TT} {D : Ends} {tz : TS}
/-- xs.extend(ys), two lists -/
theorem s_ext {l b : Addr} {xs zs : List V} (hl : H l = some (.lst xs)) (hb : H b = some (.lst zs)) (ha : Ev ta σ H (.ref l)) (h : Ev te σ H (.ref b)) (hz : xs.length + zs.length ≤ 100000) (k : ∀ H1, Ex H H1 → D.nx σ (upd H1 l (.lst (xs ++ zs)))) :
    tDrop (tBM K "list" rExtend ta (tCons te tNil)) D σ H := ha H (Ex.refl H) _ fun H1 e1 =>
  ⟨Or.inl ⟨rfl, xs, sq_of (e1 l _ hl)⟩, h H1 e1 _ fun H2 e2 => ⟨l, b, xs, zs, rfl, rfl, e2 l _ (e1 l _ hl), e2 b _ (e1 b _ hb), sz_of hz, k H2 (e1.trans e2)⟩⟩
theorem q_ext {l b : Addr} {xs zs : List V} (hl : H l = some (.lst xs)) (hb : H b = some (.lst zs)) (ha : Ev ta σ H (.ref l)) (h : Ev te σ H (.ref b)) (hz : xs.length + zs.length ≤ 100000) (k : ∀ H1, Ex H H1 → tz D σ (upd H1 l (.lst (xs ++ zs)))) :
    tSeq (tDrop (tBM K "list" rExtend ta (tCons te tNil))) tz D σ H := s_ext (D := { D with nx := tz D }) hl hb ha h hz k
/-- xs.clear() -/
theorem s_clear {l : Addr} {xs : List V} (hl : H l = some (.lst xs)) (ha : Ev ta σ H (.ref l)) (k : ∀ H1, Ex H H1 → D.nx σ (upd H1 l (.lst []))) : tDrop (tBM0 K "list" rClear ta) D σ H := ha H (Ex.refl H) _ fun H1 e1 =>
  ⟨Or.inl ⟨rfl, xs, sq_of (e1 l _ hl)⟩, ⟨l, xs, rfl, rfl, e1 l _ hl, k H1 e1⟩⟩
end
theorem PV.append {K : PySem.W.Frag} {H : Hp} : ∀ {us vs : List V} {ds es : List Deed}, PV K H us ds → PV K H vs es → PV K H (us ++ vs) (ds ++ es)
  | _, _, _, _, .nil, h => h
  | _, _, _, _, .cons a t, h => .cons a (PV.append t h)
theorem sh_deeds (ds : List Deed) : Sh 2 (.list (ds.map fun d => .tuple d.dat)) := sh_lst fun x hx => by
  obtain ⟨d, _, rfl⟩ := List.mem_map.mp hx
  exact d.sh
theorem sh_two (ds es : List Deed) : Sh 3 (.tuple [.list (ds.map fun d => .tuple d.dat), .list (es.map fun d => .tuple d.dat)]) := sh_tup fun x hx => by
  simp only [List.mem_cons, List.not_mem_nil, or_false] at hx
  rcases hx with rfl | rfl
  · exact sh_deeds _
  · exact sh_deeds _
theorem PV.dp {K : PySem.W.Frag} {H : Hp} {p : Addr} {us : List V} {ds : List Deed} (h : SqL K H p us) (q : PV K H us ds) : Dp K H (.ref p) (.list (ds.map fun d => .tuple d.dat)) := .lst h (dpa_of q)
theorem eqv_deeds_nil (ds : List Deed) : PyData.eqv (.list (ds.map fun d => .tuple d.dat)) (.list []) = decide (ds = []) := by
  cases ds with
  | nil => simp [PyData.eqv, PyData.eqvAll]
  | cons d r => simp [PyData.eqv, PyData.eqvAll]
theorem getD_zero (ds : List Deed) : ds.getD 0 .rs = ds.headD .rs := by cases ds <;> rfl
/-- the rule that a beat is done by -/
def rule2 (r : Rule) : Rule := if r = .wait then .left else r
theorem rule2_ne (r : Rule) : rule2 r ≠ .wait := by cases r <;> decide
theorem one_eq (r : Rule) (S : Sts) : one r S = after S (beat (rule2 r) S.ws (S.l.headD .rs) (if waits r S = true then .rs else S.r.headD .rs)) (waits r S) := by
  unfold one
  by_cases h : waits r S = true
  · have hr : r = .wait := by
      unfold waits at h
      rw [Bool.and_eq_true] at h
      exact of_decide_eq_true h.1
    rw [if_pos h, if_pos h, h, hr]
    rfl
  · have h2 : waits r S = false := by
      cases q : waits r S with
      | true => exact absurd q h
      | false => rfl
    rw [if_neg h, if_neg h, h2]
    cases r <;> rfl
theorem Draw.out {H : Hp} {h l p : Addr} (D : Draw H h l) (hp : H p = none) : ¬ p ∈ [h, l] := by
  obtain ⟨_, _, _, q1, q2, _⟩ := D.st
  simp only [List.mem_cons, List.not_mem_nil, or_false]
  rintro (rfl | rfl)
  · rw [hp] at q1; cases q1
  · rw [hp] at q2; cases q2
theorem rule_at {i : Nat} {x : V} (h : ruleNames[i]? = some x) : ∃ r : Rule, x = .str r.name := by
  match i, h with
  | 0, h => exact ⟨.old, (Option.some.inj h).symm⟩
  | 1, h => exact ⟨.new, (Option.some.inj h).symm⟩
  | 2, h => exact ⟨.left, (Option.some.inj h).symm⟩
  | 3, h => exact ⟨.right, (Option.some.inj h).symm⟩
  | 4, h => exact ⟨.wait, (Option.some.inj h).symm⟩
  | i + 5, h => simp [ruleNames] at h
/-- worths as data -/
def wD (ws : List Nat) : List PyData := ws.map fun (n : Nat) => PyData.int (n : Int)
theorem dpa_w {K : PySem.W.Frag} {H : Hp} : ∀ ws : List Nat, DpAll K H (ws.map wV) (wD ws)
  | [] => .nil
  | n :: r => .cons (.int (n : Int)) (dpa_w r)
theorem nice_w {ws : List Nat} {n : Nat} (h : ws.length ≤ 1000) : Nice (n + 1) (.list (wD ws)) := .lst (by unfold wD; rw [List.length_map]; exact h) fun d hd => by
  obtain ⟨x, _, rfl⟩ := List.mem_map.mp hd
  exact .int _
theorem nice_wT {ws : List Nat} {n : Nat} (h : ws.length ≤ 1000) : Nice (n + 1) (.tuple (wD ws)) := .tup (by unfold wD; rw [List.length_map]; exact h) fun d hd => by
  obtain ⟨x, _, rfl⟩ := List.mem_map.mp hd
  exact .int _
theorem rdl_wrl (u : List Nat) (d : Deed) : rdl (wrl u d) d = rdl u d := by cases d <;> rfl
def looksK (a b c d : V) : List (Key × V) := [(.inr "old", a), (.inr "new", b), (.inr "left", c), (.inr "right", d)]
def lookOf (r : Rule) (a b c d : V) : V := match r with
  | .old => a | .new => b | .left => c | .right => d | .wait => c
theorem looks_at (r : Rule) (hr : r ≠ .wait) (a b c d : V) : valV (mergeK [] (looksK a b c d)) (.inr r.name) = some (lookOf r a b c d) := by
  cases r with
  | old => rfl
  | new => rfl
  | left => rfl
  | right => rfl
  | wait => exact absurd rfl hr
/-- the written things of the rules' file: the text of the rules, their defs -/
def Rule.step : Rule → Str
  | .old => "step_old" | .new => "step_new" | .left => "step_left" | .right => "step_right" | .wait => "step_left"
theorem in_rules (r : Rule) : inV (.str r.name) ruleNames = true := by cases r <;> decide +kernel
structure TxR (K : PySem.W.Frag) (mg : Str → Option Value) (w : World) (aRULES aSTEPS : Addr) : Prop where
  g_RULES : mg "RULES" = some (.ref aRULES)
  RULES : ∀ H, SqT K H aRULES ruleNames
  g_STEPS : mg "STEPS" = some (.ref aSTEPS)
  STEPS : ∀ r : Rule, ∃ f, mg r.step = some (.ref f) ∧ KDct K w aSTEPS r.name (.ref f)
/-- the beats in which two programs clash -/
def clashesD (ds es : List Deed) : List Nat := (List.range (min ds.length es.length)).filter fun i => clashD (ds.getD i .rs) (es.getD i .rs)
theorem clashD_comm (d e : Deed) : clashD d e = clashD e d := by
  unfold clashD
  cases d.cell with
  | none => cases e.cell <;> rfl
  | some a =>
    cases e.cell with
    | none => rfl
    | some b =>
      show (decide (a = b) && (d.isW || e.isW)) = (decide (b = a) && (e.isW || d.isW))
      rw [Bool.or_comm, show decide (a = b) = decide (b = a) from decide_eq_decide.mpr eq_comm]
theorem clashesD_comm (ds es : List Deed) : clashesD ds es = clashesD es ds := by
  unfold clashesD
  rw [Nat.min_comm]
  congr 1
  funext i
  exact clashD_comm _ _
/-- those ahead of a beat -/
def clashesTo (ds es : List Deed) (n : Nat) : List Nat := (List.range n).filter fun i => clashD (ds.getD i .rs) (es.getD i .rs)
theorem clashesTo_succ (ds es : List Deed) (n : Nat) : clashesTo ds es (n + 1) = if clashD (ds.getD n .rs) (es.getD n .rs) = true then clashesTo ds es n ++ [n] else clashesTo ds es n := by
  unfold clashesTo
  rw [List.range_succ, List.filter_append, List.filter_cons, List.filter_nil]
  split
  · rfl
  · rw [List.append_nil]
theorem clashesTo_length (ds es : List Deed) (n : Nat) : (clashesTo ds es n).length ≤ n := by
  have h := List.length_filter_le (fun i => clashD (ds.getD i .rs) (es.getD i .rs)) (List.range n)
  rw [List.length_range] at h
  exact h
theorem rc_min {H : Hp} {i j : Int} : RC (fun xs H Q => ∃ i j, xs = [V.int i, V.int j] ∧ Q (.int (if j < i then j else i)) H) [.int i, .int j] H (.int (if j < i then j else i)) := fun H1 _ _ q => ⟨i, j, rfl, q H1 (Ex.refl H1)⟩
/-! ### what the top has written -/
theorem txp_mk {K : PySem.W.Frag} {h : Heap} {mg : Str → Option Value} {aR aW : Addr} {t4 t40 t1 u0 u1 u2 : Tok} {d1 d2 : Option Addr} {n1 n2 : Nat} {sl1 sl2 : Array (Option Value)} (X : K.In h) (G : h.Ns mainGlobals mg)
    (a1 : PySem.W.nsIn K mainGlobals "REST" = some (some (.ref aR))) (l1 : K.lookup aR = some ⟨.type "tuple", d1, .seq #[.str "rest" t1] n1, sl1⟩)
    (a2 : PySem.W.nsIn K mainGlobals "WORTHS" = some (some (.ref aW))) (l2 : K.lookup aW = some ⟨.type "tuple", d2, .seq #[.int 0 u0, .int 1 u1, .int 2 u2] n2, sl2⟩)
    (c4 : PySem.W.nsIn K mainGlobals "MOST_CELLS" = some (some (.int 4 t4))) (c40 : PySem.W.nsIn K mainGlobals "MOST_DEEDS" = some (some (.int 40 t40))) : TxP K mg aR aW t4 t40 :=
  ⟨PySem.W.mg_of X G a1, sqt_K l1 (by show 1 ≤ sizeLine; decide) (.cons ⟨_, rfl⟩ .nil), PySem.W.mg_of X G a2, sqt_K l2 (by show 3 ≤ sizeLine; decide) (.cons ⟨_, rfl⟩ (.cons ⟨_, rfl⟩ (.cons ⟨_, rfl⟩ .nil))), PySem.W.mg_of X G c4, PySem.W.mg_of X G c40⟩
theorem txr_mk {K : PySem.W.Frag} {h : Heap} {mg : Str → Option Value} {w : World} {aR aS : Addr} {t1 t2 t3 t4 t5 : Tok} {d1 : Option Addr} {n1 n : Nat} {sl1 : Array (Option Value)} {es : Array DictEntry} {f1 f2 f3 f4 : Addr} (X : K.In h) (G : h.Ns mainGlobals mg)
    (a1 : PySem.W.nsIn K mainGlobals "RULES" = some (some (.ref aR))) (l1 : K.lookup aR = some ⟨.type "tuple", d1, .seq #[.str "old" t1, .str "new" t2, .str "left" t3, .str "right" t4, .str "wait" t5] n1, sl1⟩)
    (a2 : PySem.W.nsIn K mainGlobals "STEPS" = some (some (.ref aS))) (l2 : K.lookup aS = some ⟨.type "dict", none, .dict es n, #[]⟩) (kl : PySem.W.KeysLit w.params es.toList)
    (g1 : PySem.W.nsIn K mainGlobals "step_old" = some (some (.ref f1))) (g2 : PySem.W.nsIn K mainGlobals "step_new" = some (some (.ref f2))) (g3 : PySem.W.nsIn K mainGlobals "step_left" = some (some (.ref f3))) (g4 : PySem.W.nsIn K mainGlobals "step_right" = some (some (.ref f4)))
    (k1 : PySem.W.nsIn K aS "old" = some (some (.ref f1))) (k2 : PySem.W.nsIn K aS "new" = some (some (.ref f2))) (k3 : PySem.W.nsIn K aS "left" = some (some (.ref f3))) (k4 : PySem.W.nsIn K aS "right" = some (some (.ref f4))) (k5 : PySem.W.nsIn K aS "wait" = some (some (.ref f3))) : TxR K mg w aR aS := by
  refine ⟨PySem.W.mg_of X G a1, sqt_K l1 (by show 5 ≤ sizeLine; decide) (.cons ⟨_, rfl⟩ (.cons ⟨_, rfl⟩ (.cons ⟨_, rfl⟩ (.cons ⟨_, rfl⟩ (.cons ⟨_, rfl⟩ .nil))))), PySem.W.mg_of X G a2, fun r => ?_⟩
  cases r with
  | old => exact ⟨f1, PySem.W.mg_of X G g1, es, n, _, l2, kl, k1, rfl⟩
  | new => exact ⟨f2, PySem.W.mg_of X G g2, es, n, _, l2, kl, k2, rfl⟩
  | left => exact ⟨f3, PySem.W.mg_of X G g3, es, n, _, l2, kl, k3, rfl⟩
  | right => exact ⟨f4, PySem.W.mg_of X G g4, es, n, _, l2, kl, k4, rfl⟩
  | wait => exact ⟨f3, PySem.W.mg_of X G g3, es, n, _, l2, kl, k5, rfl⟩
theorem nb_mk {K : PySem.W.Frag} {h : Heap} {mg : Str → Option Value} (X : K.In h) (G : h.Ns mainGlobals mg)
    (h1 : PySem.W.nsIn K mainGlobals "len" = some none) (h2 : PySem.W.nsIn K mainGlobals "isinstance" = some none) (h3 : PySem.W.nsIn K mainGlobals "max" = some none) (h4 : PySem.W.nsIn K mainGlobals "min" = some none)
    (h5 : PySem.W.nsIn K mainGlobals "range" = some none) (h6 : PySem.W.nsIn K mainGlobals "enumerate" = some none) (h7 : PySem.W.nsIn K mainGlobals "zip" = some none) (h8 : PySem.W.nsIn K mainGlobals "list" = some none)
    (h9 : PySem.W.nsIn K mainGlobals "tuple" = some none) (h10 : PySem.W.nsIn K mainGlobals "int" = some none) (h11 : PySem.W.nsIn K mainGlobals "bool" = some none) (h12 : PySem.W.nsIn K mainGlobals "str" = some none) : Nb mg :=
  ⟨PySem.W.mg_none_of X G h1, PySem.W.mg_none_of X G h2, PySem.W.mg_none_of X G h3, PySem.W.mg_none_of X G h4, PySem.W.mg_none_of X G h5, PySem.W.mg_none_of X G h6, PySem.W.mg_none_of X G h7, PySem.W.mg_none_of X G h8, PySem.W.mg_none_of X G h9, PySem.W.mg_none_of X G h10, PySem.W.mg_none_of X G h11, PySem.W.mg_none_of X G h12⟩
end Db

namespace Zen
open PySem PySem.Spec PyProof.Rows L2
section
variable {prog : Program} {w : World} {A : Around} {E : Value → Shared → Prop} {s : Shared}
/-- a zip between two draws: its own tuple never given away, or given away (whether that one still lives is not known) -/
def ZipAt (h : Heap) (z TI TO : Addr) : Prop := IsZip h z TI TO .none ∨ ∃ (T : Addr) (f : Bool), IsZipHeld h z TI TO T f
theorem ZipAt.lt {h : Heap} {z TI TO : Addr} (q : ZipAt h z TI TO) : ∃ o, h.get? z = some o ∧ ∀ v, o.data ≠ .cell v := by
  rcases q with q | ⟨T, f, q⟩
  · exact ⟨_, q, fun v c => nomatch c⟩
  · exact ⟨_, q, fun v c => nomatch c⟩
theorem ZipAt.keep {h h' : Heap} {z TI TO : Addr} (q : ZipAt h z TI TO) (k : ∀ o, h.get? z = some o → h'.get? z = some o) : ZipAt h' z TI TO := by
  rcases q with q | ⟨T, f, q⟩
  · exact .inl (k _ q)
  · exact .inr ⟨T, f, k _ q⟩
/-- what a draw leaves -/
structure Drawn2 (h h' : Heap) (z TI TO i1 i2 l1 l2 : Addr) (k : Nat) (x y : Value) : Prop where
  zip : ZipAt h' z TI TO
  own : ∃ a b, IsPair h' TO a b
  it1 : h'.IsListIter i1 l1 (k + 1)
  it2 : h'.IsListIter i2 l2 (k + 1)
  new : IsPair h' h.objs.size x y
  size : h'.objs.size = h.objs.size + 1
  keep : ∀ c o, c ≠ z → c ≠ TO → c ≠ i1 → c ≠ i2 → h.get? c = some o → h'.get? c = some o
theorem gone {a : Addr} {Q : Option Obj → Shared → Prop} (ho : s.heap.get? a = none) (h : Q none s) : wpAny (model prog w) A (loadIfAlive a) Q E s := by
  have q : Q (s.heap.get? a) s := by rw [ho]; exact h
  exact fun _ _ _ => q
theorem free_dead {z TI TO T : Addr} {f : Bool} {Q : Bool → Shared → Prop} (hz : IsZipHeld s.heap z TI TO T f) (hT : s.heap.get? T = none) (h : Q true s) : wpAny (model prog w) A (Builtin.SmallTypes.ownedTupleIsFree (.ref z)) Q E s := by
  unfold Builtin.SmallTypes.ownedTupleIsFree
  refine wpAny_bind (wpAny_field hz rfl (x := rawInt T) rfl ?_)
  show wpAny _ _ (loadIfAlive ((T : Int).toNat) >>= _) _ _ _
  rw [Int.toNat_natCast]
  refine wpAny_bind (gone hT ?_)
  exact wpAny_pure h
/-- the next pair, the tuple that was given away dead -/
theorem item_dead {z TI TO T i1 i2 l1 l2 : Addr} {f : Bool} {k : Nat} {xs ys : Array Value} {x y a b : Value} {Q : Value → Shared → Prop} (D : ZipApart z TI TO i1 i2 l1 l2) (hz : IsZipHeld s.heap z TI TO T f) (hT : s.heap.get? T = none)
    (hTI : IsPair s.heap TI (.ref i1) (.ref i2)) (hTO : IsPair s.heap TO a b) (h1 : s.heap.IsListIter i1 l1 k) (h2 : s.heap.IsListIter i2 l2 k) (hl1 : s.heap.IsList l1 xs) (hl2 : s.heap.IsList l2 ys) (hx : xs[k]? = some x) (hy : ys[k]? = some y)
    (hQ : ∀ g, Drawn2 s.heap g z TI TO i1 i2 l1 l2 k x y → Q (.ref s.heap.objs.size) { s with heap := g }) :
    wpAny (model prog w) A (Builtin.«zip.__next__» ⟨[.ref z], []⟩) (fun fin s' => ∃ v, fin = .done (.ret v) ∧ Q v s') E s := by
  show wpAny _ _ (field (.ref z) 2 >>= _) _ _ _
  refine wpAny_bind (wpAny_field hz rfl (x := .bool false) rfl ?_)
  show wpAny _ _ (field (.ref z) 3 >>= _) _ _ _
  refine wpAny_bind (wpAny_field hz rfl (x := .ref TI) rfl ?_)
  refine wpAny_bind (wpAny_seqItems hTI rfl ?_)
  show wpAny _ _ (Builtin.SmallTypes.ownedTupleIsFree (.ref z) >>= _) _ _ _
  refine wpAny_bind (free_dead hz hT ?_)
  simp only [if_true]
  refine wpAny_bind (wpAny_rule (wpAny_bind (wpAny_field hz rfl (x := .ref TO) rfl ?_)))
  refine wpAny_bind (wpAny_setField_rec hz (by simp) fun g1 zg1 e1 => ?_)
  replace zg1 : g1.get? z = some { cls := .type "zip", dict := none, data := .fields #[.ellipsis, .bool f, .bool false, .ref TI, .ref TO], slots := #[] } := zg1
  refine wpAny_bind ?_
  simp only [List.zipIdx_cons, List.zipIdx_nil, List.forIn_cons, List.forIn_nil]
  refine wpAny_bind (wpAny_bind (wpAny_onRaise ?_))
  show wpAny _ _ (Builtin.SmallTypes.nextOf (.ref i1) >>= _) _ _ _
  refine wpAny_bind (wpAny_nextOf_list_item (h1.extBut e1.extBut D.i1z) (hl1.extBut e1.extBut D.l1z) hx fun g2 a1 e2 => wpAny_pure ?_)
  have p2 : IsPair g2 TO a b := e2.extBut _ _ D.TOi1 (e1.extBut _ _ D.TOz hTO)
  refine wpAny_bind (wpAny_seqItems p2 rfl (wpAny_bind (wpAny_updateSeq_pair p2 fun g3 p3 e3 => ?_)))
  replace p3 : IsPair g3 TO x b := p3
  refine wpAny_bind (wpAny_letGo (wpAny_pure (wpAny_bind (wpAny_bind (wpAny_onRaise ?_)))))
  show wpAny _ _ (Builtin.SmallTypes.nextOf (.ref i2) >>= _) _ _ _
  refine wpAny_bind (wpAny_nextOf_list_item (((h2.extBut e1.extBut D.i2z).extBut e2.extBut D.i12.symm).extBut e3.extBut D.TOi2.symm) (((hl2.extBut e1.extBut D.l2z).extBut e2.extBut D.l2i1).extBut e3.extBut D.l2TO) hy fun g4 a2 e4 => wpAny_pure ?_)
  have p4 : IsPair g4 TO x b := e4.extBut _ _ D.TOi2 p3
  refine wpAny_bind (wpAny_seqItems p4 rfl (wpAny_bind (wpAny_updateSeq_pair p4 fun g5 p5 e5 => ?_)))
  replace p5 : IsPair g5 TO x y := p5
  refine wpAny_bind (wpAny_letGo (wpAny_pure (wpAny_pure (wpAny_bind (wpAny_seqItems p5 rfl (wpAny_bind (wpAny_newTuple ?_)))))))
  have n5 : g5.objs.size = s.heap.objs.size := by rw [e5.1, e4.1, e3.1, e2.1, e1.1]
  have z5 : g5.get? z = some { cls := .type "zip", dict := none, data := .fields #[.ellipsis, .bool f, .bool false, .ref TI, .ref TO], slots := #[] } := e5.extBut _ _ D.TOz.symm (e4.extBut _ _ D.i2z.symm (e3.extBut _ _ D.TOz.symm (e2.extBut _ _ D.i1z.symm zg1)))
  have k5 : ∀ c o, c ≠ z → c ≠ TO → c ≠ i1 → c ≠ i2 → s.heap.get? c = some o → g5.get? c = some o := fun c o q1 q2 q3 q4 q => e5.extBut _ _ q2 (e4.extBut _ _ q4 (e3.extBut _ _ q2 (e2.extBut _ _ q3 (e1.extBut _ _ q1 q))))
  have b1 : g5.IsListIter i1 l1 (k + 1) := ((a1.extBut e3.extBut D.TOi1.symm).extBut e4.extBut D.i12).extBut e5.extBut D.TOi1.symm
  have b2 : g5.IsListIter i2 l2 (k + 1) := a2.extBut e5.extBut D.TOi2.symm
  have zlt : z < g5.objs.size := Heap.lt_size z5
  show wpAny _ _ (Builtin.SmallTypes.ownedTupleHandOut (.ref z) (.ref g5.objs.size) >>= _) _ _ _
  refine wpAny_bind ?_
  unfold Builtin.SmallTypes.ownedTupleHandOut
  refine wpAny_bind (wpAny_setField_rec (Heap.get?_push_of_some _ z5) (by simp) fun g7 z7 e7 => wpAny_setField_rec z7 (by simp) fun g8 z8 e8 => wpAny_pure ⟨_, rfl, ?_⟩)
  have up : ∀ c o, c ≠ z → g5.get? c = some o → g8.get? c = some o := fun c o q1 q => e8.extBut _ _ q1 (e7.extBut _ _ q1 (Heap.get?_push_of_some _ q))
  have t8 : IsPair g8 g5.objs.size x y := e8.extBut _ _ (Nat.ne_of_gt zlt) (e7.extBut _ _ (Nat.ne_of_gt zlt) (Heap.get?_push_size _ rfl))
  have n8 : g8.objs.size = g5.objs.size + 1 := by rw [e8.1, e7.1, Heap.size_push]
  show Q (.ref g5.objs.size) _
  have zh : IsZipHeld g8 z TI TO g5.objs.size false := z8
  rw [n5] at zh t8 n8 ⊢
  exact hQ g8 ⟨.inr ⟨_, _, zh⟩, ⟨_, _, up _ _ D.TOz p5⟩, b1.at fun o q => up _ o D.i1z q, b2.at fun o q => up _ o D.i2z q, t8, n8, fun c o q1 q2 q3 q4 q => up c o q1 (k5 c o q1 q2 q3 q4 q)⟩
/-- the next pair, at any place between two draws -/
theorem item_any {z TI TO i1 i2 l1 l2 : Addr} {k : Nat} {xs ys : Array Value} {x y a b : Value} {Q : Value → Shared → Prop} (D : ZipApart z TI TO i1 i2 l1 l2) (hz : ZipAt s.heap z TI TO)
    (hTI : IsPair s.heap TI (.ref i1) (.ref i2)) (hTO : IsPair s.heap TO a b) (h1 : s.heap.IsListIter i1 l1 k) (h2 : s.heap.IsListIter i2 l2 k) (hl1 : s.heap.IsList l1 xs) (hl2 : s.heap.IsList l2 ys) (hx : xs[k]? = some x) (hy : ys[k]? = some y)
    (hQ : ∀ g, Drawn2 s.heap g z TI TO i1 i2 l1 l2 k x y → Q (.ref s.heap.objs.size) { s with heap := g }) :
    wpAny (model prog w) A (Builtin.«zip.__next__» ⟨[.ref z], []⟩) (fun fin s' => ∃ v, fin = .done (.ret v) ∧ Q v s') E s := by
  rcases hz with hz | ⟨T, f, hz⟩
  · exact zip_next_item D hz hTI hTO h1 h2 hl1 hl2 hx hy fun g q1 q2 q3 q4 q5 q6 q7 => hQ g ⟨.inr ⟨_, false, q1⟩, ⟨_, _, q2⟩, q3, q4, q5, q6, q7⟩
  · cases hT : s.heap.get? T with
    | none => exact item_dead D hz hT hTI hTO h1 h2 hl1 hl2 hx hy hQ
    | some oT => exact zip_next_item_held D hz hT hTI h1 h2 hl1 hl2 hx hy fun g q1 q3 q4 q5 q6 q7 => hQ g ⟨.inr ⟨_, _, q1⟩, ⟨_, _, q7 _ _ D.TOz D.TOi1 D.TOi2 hTO⟩, q3, q4, q5, q6, fun c o c1 _ c3 c4 q => q7 c o c1 c3 c4 q⟩
/-- no more pairs -/
theorem end_dead {z TI TO T i1 i2 l1 l2 : Addr} {f : Bool} {k : Nat} {xs ys : Array Value} {a b : Value} {Q : Fin → Shared → Prop} (hh : A.handled = none) (D : ZipApart z TI TO i1 i2 l1 l2) (hz : IsZipHeld s.heap z TI TO T f) (hT : s.heap.get? T = none)
    (hTI : IsPair s.heap TI (.ref i1) (.ref i2)) (hTO : IsPair s.heap TO a b) (h1 : s.heap.IsListIter i1 l1 k) (h2 : s.heap.IsListIter i2 l2 k) (hl1 : s.heap.IsList l1 xs) (hl2 : s.heap.IsList l2 ys) (hend : xs[k]? = none ∨ ys[k]? = none)
    (hE : ∀ g e, (∀ c o, c ≠ z → c ≠ TO → c ≠ i1 → c ≠ i2 → s.heap.get? c = some o → g.get? c = some o) → (∃ o, g.get? e = some o ∧ o.cls = .type "StopIteration") → E (.ref e) { s with heap := g }) :
    wpAny (model prog w) A (Builtin.«zip.__next__» ⟨[.ref z], []⟩) Q E s := by
  show wpAny _ _ (field (.ref z) 2 >>= _) _ _ _
  refine wpAny_bind (wpAny_field hz rfl (x := .bool false) rfl ?_)
  show wpAny _ _ (field (.ref z) 3 >>= _) _ _ _
  refine wpAny_bind (wpAny_field hz rfl (x := .ref TI) rfl ?_)
  refine wpAny_bind (wpAny_seqItems hTI rfl ?_)
  show wpAny _ _ (Builtin.SmallTypes.ownedTupleIsFree (.ref z) >>= _) _ _ _
  refine wpAny_bind (free_dead hz hT ?_)
  simp only [if_true]
  refine wpAny_bind (wpAny_rule (wpAny_bind (wpAny_field hz rfl (x := .ref TO) rfl ?_)))
  refine wpAny_bind (wpAny_setField_rec hz (by simp) fun g1 zg1 e1 => ?_)
  replace zg1 : g1.get? z = some { cls := .type "zip", dict := none, data := .fields #[.ellipsis, .bool f, .bool false, .ref TI, .ref TO], slots := #[] } := zg1
  refine wpAny_bind ?_
  simp only [List.zipIdx_cons, List.zipIdx_nil, List.forIn_cons, List.forIn_nil]
  refine wpAny_bind (wpAny_bind (wpAny_onRaise ?_))
  show wpAny _ _ (Builtin.SmallTypes.nextOf (.ref i1) >>= _) _ _ _
  cases hx : xs[k]? with
  | none =>
    refine wpAny_bind (wpAny_nextOf_list_end hh (h1.extBut e1.extBut D.i1z) (hl1.extBut e1.extBut D.l1z) hx fun g2 e e2 he => ?_)
    obtain ⟨oe, hoe, hce⟩ := he
    have z2 := e2 _ _ D.i1z.symm zg1
    have nez : e ≠ z := fun q => by subst q; rw [z2] at hoe; cases hoe; simp at hce
    exact wpAny_setField_rec z2 (by simp) fun g3 _ e3 => hE g3 e (fun c o c1 _ c3 _ q => e3.extBut _ _ c1 (e2 _ _ c3 (e1.extBut _ _ c1 q))) ⟨oe, e3.extBut _ _ nez hoe, hce⟩
  | some x =>
    have hy : ys[k]? = none := by
      rcases hend with q | q
      · rw [hx] at q; cases q
      · exact q
    refine wpAny_bind (wpAny_nextOf_list_item (h1.extBut e1.extBut D.i1z) (hl1.extBut e1.extBut D.l1z) hx fun g2 a1 e2 => wpAny_pure ?_)
    have p2 : IsPair g2 TO a b := e2.extBut _ _ D.TOi1 (e1.extBut _ _ D.TOz hTO)
    refine wpAny_bind (wpAny_seqItems p2 rfl (wpAny_bind (wpAny_updateSeq_pair p2 fun g3 p3 e3 => wpAny_bind (wpAny_letGo (wpAny_pure ?_)))))
    refine wpAny_bind (wpAny_bind (wpAny_onRaise ?_))
    show wpAny _ _ (Builtin.SmallTypes.nextOf (.ref i2) >>= _) _ _ _
    refine wpAny_bind (wpAny_nextOf_list_end hh (((h2.extBut e1.extBut D.i2z).extBut e2.extBut D.i12.symm).extBut e3.extBut D.TOi2.symm) (((hl2.extBut e1.extBut D.l2z).extBut e2.extBut D.l2i1).extBut e3.extBut D.l2TO) hy fun g4 e e4 he => ?_)
    obtain ⟨oe, hoe, hce⟩ := he
    have z4 := e4 _ _ D.i2z.symm (e3.extBut _ _ D.TOz.symm (e2.extBut _ _ D.i1z.symm zg1))
    have nez : e ≠ z := fun q => by subst q; rw [z4] at hoe; cases hoe; simp at hce
    exact wpAny_setField_rec z4 (by simp) fun g5 _ e5 => hE g5 e (fun c o c1 c2 c3 c4 q => e5.extBut _ _ c1 (e4 _ _ c4 (e3.extBut _ _ c2 (e2.extBut _ _ c3 (e1.extBut _ _ c1 q))))) ⟨oe, e5.extBut _ _ nez hoe, hce⟩
theorem end_any {z TI TO i1 i2 l1 l2 : Addr} {k : Nat} {xs ys : Array Value} {a b : Value} {Q : Fin → Shared → Prop} (hh : A.handled = none) (D : ZipApart z TI TO i1 i2 l1 l2) (hz : ZipAt s.heap z TI TO)
    (hTI : IsPair s.heap TI (.ref i1) (.ref i2)) (hTO : IsPair s.heap TO a b) (h1 : s.heap.IsListIter i1 l1 k) (h2 : s.heap.IsListIter i2 l2 k) (hl1 : s.heap.IsList l1 xs) (hl2 : s.heap.IsList l2 ys) (hend : xs[k]? = none ∨ ys[k]? = none)
    (hE : ∀ g e, (∀ c o, c ≠ z → c ≠ TO → c ≠ i1 → c ≠ i2 → s.heap.get? c = some o → g.get? c = some o) → (∃ o, g.get? e = some o ∧ o.cls = .type "StopIteration") → E (.ref e) { s with heap := g }) :
    wpAny (model prog w) A (Builtin.«zip.__next__» ⟨[.ref z], []⟩) Q E s := by
  rcases hz with hz | ⟨T, f, hz⟩
  · exact zip_next_end hh D hz hTI hTO h1 h2 hl1 hl2 hend hE
  · cases hT : s.heap.get? T with
    | none => exact end_dead hh D hz hT hTI hTO h1 h2 hl1 hl2 hend hE
    | some oT => exact zip_next_end_held hh D hz hT hTI h1 h2 hl1 hl2 hend fun g e q r => hE g e (fun c o c1 _ c3 c4 x => q c o c1 c3 c4 x) r
theorem ZipAt.ty {z TI TO : Addr} (q : ZipAt s.heap z TI TO) : s.TypeIs (.ref z) "zip" := by
  rcases q with q | ⟨T, f, q⟩
  · exact ⟨_, q, rfl⟩
  · exact ⟨_, q, rfl⟩
/-- an enumerate over a zip: the next pair of a number and a pair -/
theorem en_item {e z TI TO i1 i2 l1 l2 : Addr} {k : Nat} {xs ys : Array Value} {x y a b old : Value} {Q : Option Value → Shared → Prop} (D : ZipApart z TI TO i1 i2 l1 l2) (he : IsEnum s.heap e z ((k : Nat) : Int) old) (hne : e ≠ z ∧ e ≠ TO ∧ e ≠ i1 ∧ e ≠ i2 ∧ e ≠ TI) (hz : ZipAt s.heap z TI TO)
    (hTI : IsPair s.heap TI (.ref i1) (.ref i2)) (hTO : IsPair s.heap TO a b) (h1 : s.heap.IsListIter i1 l1 k) (h2 : s.heap.IsListIter i2 l2 k) (hl1 : s.heap.IsList l1 xs) (hl2 : s.heap.IsList l2 ys) (hx : xs[k]? = some x) (hy : ys[k]? = some y)
    (hQ : ∀ g g1, Drawn2 s.heap g1 z TI TO i1 i2 l1 l2 k x y → IsEnumOut g e z ((k : Int) + 1) (.ref s.heap.objs.size) (s.heap.objs.size + 1) → g.get? (s.heap.objs.size + 1) = some { cls := .type "tuple", data := .seq #[.int k s.toks, .ref s.heap.objs.size] } →
      g.objs.size = s.heap.objs.size + 2 → (∀ c o, c ≠ e → g1.get? c = some o → g.get? c = some o) → Q (some (.ref (s.heap.objs.size + 1))) { s with heap := g, toks := s.toks + 1 }) :
    wpAny (model prog w) A (pyNext (.ref e)) Q E s := by
  have ty : s.TypeIs (.ref e) "enumerate" := ⟨_, he, rfl⟩
  unfold pyNext
  refine wpAny_bind (wpAny_attempt (wpAny_callSpecial?_slot (name := Str.ofString "__next__") ty F.slot_enumerate_next (wpAny_call_entry F.slot_enumerate_next ty F.entry_enumerate_next ?_ (F.args_enumerate_next_1 _))))
  show wpAny _ _ (field (.ref e) 2 >>= _) _ _ _
  refine wpAny_bind (wpAny_field he rfl (x := .ref z) rfl ?_)
  refine wpAny_bind ?_
  unfold Builtin.SmallTypes.nextOf
  refine wpAny_bind (wpAny_callSpecial?_slot (name := Str.ofString "__next__") hz.ty F.slot_zip_next (wpAny_call_entry F.slot_zip_next hz.ty F.entry_zip_next (item_any D hz hTI hTO h1 h2 hl1 hl2 hx hy fun g1 d1 => ?_) (F.args_zip_next_1 _)))
  refine wpAny_pure ?_
  have he1 : IsEnum g1 e z ((k : Nat) : Int) old := d1.keep _ _ hne.1 hne.2.1 hne.2.2.1 hne.2.2.2.1 he
  have elt : e < s.heap.objs.size := Heap.lt_size he
  show wpAny _ _ (field (.ref e) 3 >>= _) _ _ _
  refine wpAny_bind (wpAny_field he1 rfl (x := rawInt ((k : Nat) : Int)) rfl ?_)
  show wpAny _ _ (field (.ref e) 4 >>= _) _ _ _
  refine wpAny_bind (wpAny_field he1 rfl (x := .none) rfl ?_)
  show wpAny _ _ (mkInt ((k : Nat) : Int) >>= _) _ _ _
  refine wpAny_bind (wpAny_mkInt ?_)
  show wpAny _ _ (setField (.ref e) 3 (rawInt ((k : Int) + 1)) >>= _) _ _ _
  refine wpAny_bind (wpAny_setField_rec he1 (by simp) fun g2 he2 e2 => ?_)
  replace he2 : IsEnum g2 e z ((k : Int) + 1) old := he2
  show wpAny _ _ (setField (.ref e) 4 .none >>= _) _ _ _
  refine wpAny_bind (wpAny_setField_rec he2 (by simp) fun g3 he3 e3 => ?_)
  replace he3 : IsEnum g3 e z ((k : Int) + 1) old := he3
  have n3 : g3.objs.size = s.heap.objs.size + 1 := by rw [e3.1, e2.1]; exact d1.size
  show wpAny _ _ (newTuple [.int k s.toks, .ref s.heap.objs.size] >>= _) _ _ _
  refine wpAny_bind (wpAny_newTuple ?_)
  show wpAny _ _ (Builtin.SmallTypes.ownedTupleIsFree (.ref e) >>= _) _ _ _
  have he4 : IsEnum (g3.push { cls := .type "tuple", data := .seq #[.int k s.toks, .ref s.heap.objs.size] }) e z ((k : Int) + 1) old := Heap.get?_push_of_some _ he3
  have t4 : (g3.push { cls := .type "tuple", data := .seq #[.int k s.toks, .ref s.heap.objs.size] }).get? (s.heap.objs.size + 1) = some { cls := .type "tuple", data := .seq #[.int k s.toks, .ref s.heap.objs.size] } := by rw [← n3]; exact Heap.get?_push_size _ rfl
  have n4 : (g3.push { cls := .type "tuple", data := .seq #[.int k s.toks, .ref s.heap.objs.size] }).objs.size = s.heap.objs.size + 2 := by rw [Heap.size_push, n3]
  have k4 : ∀ c o, c ≠ e → g1.get? c = some o → (g3.push { cls := .type "tuple", data := .seq #[.int k s.toks, .ref s.heap.objs.size] }).get? c = some o := fun c o q r => Heap.get?_push_of_some _ (e3.extBut _ _ q (e2.extBut _ _ q r))
  rw [n3]
  generalize g3.push { cls := .type "tuple", data := .seq #[.int k s.toks, .ref s.heap.objs.size] } = g4 at he4 t4 n4 k4
  refine wpAny_bind ?_
  unfold Builtin.SmallTypes.ownedTupleIsFree
  refine wpAny_bind (wpAny_field he4 rfl (x := .none) rfl (wpAny_pure ?_))
  simp only [if_true]
  refine wpAny_bind (wpAny_rule (wpAny_bind (wpAny_field he4 rfl (x := old) rfl ?_)))
  refine wpAny_bind (wpAny_setField_rec he4 (by simp) fun g5 he5 e5 => ?_)
  replace he5 : IsEnum g5 e z ((k : Int) + 1) (.ref s.heap.objs.size) := he5
  show wpAny _ _ (Builtin.SmallTypes.ownedTupleHandOut (.ref e) (.ref (s.heap.objs.size + 1)) >>= _) _ _ _
  refine wpAny_bind ?_
  unfold Builtin.SmallTypes.ownedTupleHandOut
  refine wpAny_bind (wpAny_setField_rec he5 (by simp) fun g6 he6 e6 => wpAny_setField_rec he6 (by simp) fun g7 he7 e7 => wpAny_bind (wpAny_letGo (wpAny_pure ⟨_, rfl, wpAny_pure ?_⟩)))
  have up : ∀ c o, c ≠ e → g4.get? c = some o → g7.get? c = some o := fun c o q r => e7.extBut _ _ q (e6.extBut _ _ q (e5.extBut _ _ q r))
  refine hQ g7 g1 d1 he7 (up _ _ (Nat.ne_of_gt (Nat.lt_succ_of_lt elt)) t4) (by rw [e7.1, e6.1, e5.1, n4]) fun c o q r => up c o q (k4 c o q r)
theorem en_end {e z TI TO i1 i2 l1 l2 : Addr} {k : Nat} {xs ys : Array Value} {a b old : Value} {Q : Option Value → Shared → Prop} (hh : A.handled = none) (D : ZipApart z TI TO i1 i2 l1 l2) (he : IsEnum s.heap e z ((k : Nat) : Int) old) (hz : ZipAt s.heap z TI TO)
    (hTI : IsPair s.heap TI (.ref i1) (.ref i2)) (hTO : IsPair s.heap TO a b) (h1 : s.heap.IsListIter i1 l1 k) (h2 : s.heap.IsListIter i2 l2 k) (hl1 : s.heap.IsList l1 xs) (hl2 : s.heap.IsList l2 ys) (hend : xs[k]? = none ∨ ys[k]? = none)
    (hQ : ∀ g, (∀ c o, c ≠ z → c ≠ TO → c ≠ i1 → c ≠ i2 → s.heap.get? c = some o → g.get? c = some o) → Q none { s with heap := g }) : wpAny (model prog w) A (pyNext (.ref e)) Q E s := by
  have ty : s.TypeIs (.ref e) "enumerate" := ⟨_, he, rfl⟩
  unfold pyNext
  refine wpAny_bind (wpAny_attempt (wpAny_callSpecial?_slot (name := Str.ofString "__next__") ty F.slot_enumerate_next (wpAny_call_entry F.slot_enumerate_next ty F.entry_enumerate_next ?_ (F.args_enumerate_next_1 _))))
  show wpAny _ _ (field (.ref e) 2 >>= _) _ _ _
  refine wpAny_bind (wpAny_field he rfl (x := .ref z) rfl ?_)
  refine wpAny_bind ?_
  unfold Builtin.SmallTypes.nextOf
  refine wpAny_bind (wpAny_callSpecial?_slot (name := Str.ofString "__next__") hz.ty F.slot_zip_next (wpAny_call_entry F.slot_zip_next hz.ty F.entry_zip_next (end_any hh D hz hTI hTO h1 h2 hl1 hl2 hend fun g x q r => ?_) (F.args_zip_next_1 _)))
  obtain ⟨ox, hox, hcx⟩ := r
  exact wpAny_bind (wpAny_isInstance (T := "StopIteration") (b := true) ⟨ox, hox, hcx⟩ isSubtype_stop (wpAny_pure (hQ _ q)))
end
/-- the two lists as they stand at each turn: a number and a new pair of both items, in a new pair -/
def Itez (K : PySem.W.Frag) (a b : Addr) : It :=
  ⟨fun i H => ∃ (xs ys : List V) (x y : V), SqL K H a xs ∧ SqL K H b ys ∧ xs[i]? = some x ∧ ys[i]? = some y,
    fun i H v H' => ∃ (T U : Addr) (x y : V), v = .ref U ∧ H T = none ∧ (upd H T (.tup [x, y])) U = none ∧ H' = upd (upd H T (.tup [x, y])) U (.tup [.int (i : Nat), .ref T]) ∧ (∀ xs, SqL K H a xs → xs[i]? = some x) ∧ ∀ ys, SqL K H b ys → ys[i]? = some y,
    fun i H => ∃ xs ys : List V, SqL K H a xs ∧ SqL K H b ys ∧ (xs.length ≤ i ∨ ys.length ≤ i)⟩
theorem turn_ez {P : Program} {w : World} {K : PySem.W.Frag} {elts : List Expr} {kk : Nat} {tpos : Pos} {a b e z TI TO i1 i2 : Addr} (D : ZipApart z TI TO i1 i2 a b) (ne : e ≠ z ∧ e ≠ TO ∧ e ≠ i1 ∧ e ≠ i2 ∧ e ≠ TI) :
    Turn P w K (.Tuple elts kk tpos) (Itez K a b) [e, z, TI, TO, i1, i2] e (fun i h => (∃ old, IsEnum h e z ((i : Nat) : Int) old) ∧ ZipAt h z TI TO ∧ IsPair h TI (.ref i1) (.ref i2) ∧ (∃ x y, IsPair h TO x y) ∧ h.IsListIter i1 a i ∧ h.IsListIter i2 b i) where
  mem := by simp
  obj := fun i h st c hc => by
    obtain ⟨⟨old, he⟩, hz, hTI, ⟨x, y, hTO⟩, ⟨o1, e1, _, d1⟩, ⟨o2, e2, _, d2⟩⟩ := st
    have cs : c = e ∨ c = z ∨ c = TI ∨ c = TO ∨ c = i1 ∨ c = i2 := by simpa using hc
    rcases cs with q | q | q | q | q | q
    · rw [q]; exact ⟨_, he, fun v q => nomatch q⟩
    · rw [q]; exact hz.lt
    · rw [q]; exact ⟨_, hTI, fun v q => nomatch q⟩
    · rw [q]; exact ⟨_, hTO, fun v q => nomatch q⟩
    · rw [q]; exact ⟨o1, e1, fun v q => by rw [d1] at q; cases q⟩
    · rw [q]; exact ⟨o2, e2, fun v q => by rw [d2] at q; cases q⟩
  keep := fun i h h' st k => by
    obtain ⟨⟨old, he⟩, hz, hTI, ⟨x, y, hTO⟩, h1, h2⟩ := st
    exact ⟨⟨old, k e (by simp) _ he⟩, hz.keep fun o q => k z (by simp) o q, k TI (by simp) _ hTI, ⟨x, y, k TO (by simp) _ hTO⟩, h1.at fun o q => k i1 (by simp) o q, h2.at fun o q => k i2 (by simp) o q⟩
  item := by
    intro X hP hw hK hc i pins s σ H E I hf st hg
    subst hP hw hK
    obtain ⟨⟨old, he⟩, hz, hTI, ⟨x0, y0, hTO⟩, h1, h2⟩ := st
    obtain ⟨xs, ys, x, y, qx, qy, hx, hy⟩ := hg
    obtain ⟨its, rv, p1, _⟩ := I.list qx
    obtain ⟨jts, rw', p2, _⟩ := I.list qy
    obtain ⟨u, hu, ru⟩ := rv.get hx
    obtain ⟨u2, hu2, ru2⟩ := rw'.get hy
    have elt : e < s.heap.objs.size := Heap.lt_size he
    refine en_item D he ne hz hTI hTO h1 h2 p1.isList p2.isList (x := u) (y := u2) (by simpa using hu) (by simpa using hu2) fun g g1 d1 eo t2 n2 k2 => ?_
    refine ⟨_, rfl, wpAny_letOwnedTupleGo_enum (s := { s with heap := g, toks := s.toks + 1 }) eo fun g' he' sb => ?_⟩
    have m0 : ∀ c, c < s.heap.objs.size + 1 → c ≠ s.heap.objs.size + 1 := fun c q => Nat.ne_of_lt q
    have kk : ∀ c o, c ≠ e → g1.get? c = some o → g'.get? c = some o := fun c o q r => (sb.2 c q).trans (k2 c o q r)
    have tp : g'.get? s.heap.objs.size = some { cls := .type "tuple", data := .seq #[u, u2] } := kk _ _ (Nat.ne_of_gt elt) d1.new
    have tq : g'.get? (s.heap.objs.size + 1) = some { cls := .type "tuple", data := .seq #[.int i s.toks, .ref s.heap.objs.size] } := (sb.2 _ (Nat.ne_of_gt (Nat.lt_succ_of_lt elt))).trans t2
    have old' : ∀ c o, c ∉ [e, z, TI, TO, i1, i2] → s.heap.get? c = some o → g'.get? c = some o := fun c o q r => by
      simp only [List.mem_cons, List.not_mem_nil, or_false, not_or] at q
      exact kk _ _ q.1 (d1.keep _ _ q.2.1 q.2.2.2.1 q.2.2.2.2.1 q.2.2.2.2.2 r)
    have f0 : H s.heap.objs.size = none := I.hok.fresh (Nat.le_refl _)
    have tp1 : g1.get? s.heap.objs.size = some { cls := .type "tuple", data := .seq #[u, u2] } := d1.new
    have new1 : ObjOk X.prog X.w (upd H s.heap.objs.size (.tup [x, y])) g1 s.heap.objs.size (.tup [x, y]) := ⟨by show 2 ≤ sizeLine; decide, [u, u2], .cons ru (.cons ru2 .nil), ⟨_, tp1, rfl, _, rfl⟩⟩
    have I1 : Inv X pins σ (upd H s.heap.objs.size (.tup [x, y])) { s with heap := g1, toks := s.toks } := I.turnedNew (ch := [e, z, TI, TO, i1, i2]) (fun c o q r => by
      simp only [List.mem_cons, List.not_mem_nil, or_false, not_or] at q
      exact d1.keep _ _ q.2.1 q.2.2.2.1 q.2.2.2.2.1 q.2.2.2.2.2 r) hf (Nat.le_refl _) new1
    have fe : FpOk X pins (upd H s.heap.objs.size (.tup [x, y])) e := by
      obtain ⟨q0, q⟩ := hf e (by simp)
      exact ⟨by rw [upd_ne (Nat.ne_of_lt elt)]; exact q0, q⟩
    have new2 : ObjOk X.prog X.w (upd (upd H s.heap.objs.size (.tup [x, y])) (s.heap.objs.size + 1) (.tup [.int (i : Nat), .ref s.heap.objs.size])) g' (s.heap.objs.size + 1) (.tup [.int (i : Nat), .ref s.heap.objs.size]) :=
      ⟨by show 2 ≤ sizeLine; decide, [.int i s.toks, .ref s.heap.objs.size], .cons ⟨_, rfl⟩ (.cons rfl .nil), ⟨_, tq, rfl, _, rfl⟩⟩
    have I2 : Inv X pins σ (upd (upd H s.heap.objs.size (.tup [x, y])) (s.heap.objs.size + 1) (.tup [.int (i : Nat), .ref s.heap.objs.size])) { s with heap := g', toks := s.toks + 1 } :=
      I1.turnedNew (t' := s.toks + 1) (ch := [e]) (fun c o q r => kk c o (fun z => q (by simp [z])) r) (fun c hc => by rw [List.mem_singleton.mp hc]; exact fe) (Nat.le_of_eq d1.size) new2
    have gU : (upd H s.heap.objs.size (.tup [x, y])) (s.heap.objs.size + 1) = none := I1.hok.fresh (Nat.le_of_eq d1.size)
    refine ⟨.ref (s.heap.objs.size + 1), _, I2, rfl, ⟨_, _, x, y, rfl, f0, gU, rfl, fun l hl => by rw [I.list_inj hl qx]; exact hx, fun l hl => by rw [I.list_inj hl qy]; exact hy⟩, ⟨⟨.ref s.heap.objs.size, ?_⟩, ?_, ?_, ?_, ?_, ?_⟩, fun c hcm => ?_⟩
    · have q : ((i + 1 : Nat) : Int) = (i : Int) + 1 := by omega
      rw [q]; exact he'
    · exact d1.zip.keep fun o r => kk _ _ ne.1.symm r
    · exact kk _ _ ne.2.2.2.2.symm (d1.keep _ _ D.TIz D.TITO D.TIi1 D.TIi2 hTI)
    · obtain ⟨a1, a2, q⟩ := d1.own
      exact ⟨a1, a2, kk _ _ ne.2.1.symm q⟩
    · exact d1.it1.at fun o r => kk _ _ ne.2.2.1.symm r
    · exact d1.it2.at fun o r => kk _ _ ne.2.2.2.1.symm r
    · have lt : c < s.heap.objs.size := by
        have cs : c = e ∨ c = z ∨ c = TI ∨ c = TO ∨ c = i1 ∨ c = i2 := by simpa using hcm
        obtain ⟨oz, hoz, _⟩ := hz.lt
        rcases cs with q | q | q | q | q | q
        · rw [q]; exact elt
        · rw [q]; exact Heap.lt_size hoz
        · rw [q]; exact Heap.lt_size hTI
        · rw [q]; exact Heap.lt_size hTO
        · rw [q]; obtain ⟨_, e1, _⟩ := h1; exact Heap.lt_size e1
        · rw [q]; obtain ⟨_, e2, _⟩ := h2; exact Heap.lt_size e2
      rw [upd_ne (Nat.ne_of_lt (Nat.lt_succ_of_lt lt)), upd_ne (Nat.ne_of_lt lt)]
      exact (hf c hcm).1
  done := by
    intro X hP hw hK hc i pins s σ H E I hf st hg
    subst hP hw hK
    obtain ⟨⟨old, he⟩, hz, hTI, ⟨x0, y0, hTO⟩, h1, h2⟩ := st
    obtain ⟨xs, ys, qx, qy, hend⟩ := hg
    obtain ⟨its, rv, p1, _⟩ := I.list qx
    obtain ⟨jts, rw', p2, _⟩ := I.list qy
    have l1 := rv.length
    have l2 := rw'.length
    have hn : its.toArray[i]? = none ∨ jts.toArray[i]? = none := by
      rcases hend with q | q
      · exact .inl (by simp; omega)
      · exact .inr (by simp; omega)
    exact en_end (I.ok.hd hc) D he hz hTI hTO h1 h2 p1.isList p2.isList hn fun g hk => ⟨rfl, I.turnedL (t' := s.toks) (ch := [e, z, TI, TO, i1, i2]) (fun c o q r =>
      hk c o (fun q' => q (by simp [q'])) (fun q' => q (by simp [q'])) (fun q' => q (by simp [q'])) (fun q' => q (by simp [q'])) r) hf⟩
  self := fun A i s Q E st h => let ⟨⟨_, he⟩, _⟩ := st; wpAny_pyIter_enum he h
end Zen

namespace Zen
open PySem PySem.Spec PyProof.Rows L2
theorem meets_en (z TI TO : Addr) : Meets (Builtin.«enumerate.__new__» ⟨[.type "enumerate", .ref z], []⟩) (fun _ R s => IsZip s.heap z TI TO .none ∧
    R (.ok (.ret (.ref s.heap.objs.size))) { s with heap := s.heap.push { cls := .type "enumerate", data := .fields #[.none, .bool false, .ref z, rawInt 0, .none, .none] } }) :=
  .of_wp fun prog w A R s h => by
    obtain ⟨hp, g, d, tk, os⟩ := s
    obtain ⟨h1, h⟩ := h
    have hsub := sub_enumerate
    have q1 : ∀ {A' : Around} {E : Value → Shared → Prop} {Q : Value → Shared → Prop}, Q (.ref z) ⟨hp, g, d, tk, os⟩ → wpAny (model prog w) A' (pyIter (.ref z)) Q E ⟨hp, g, d, tk, os⟩ := fun q => wpAny_pyIter_zip (s := ⟨hp, g, d, tk, os⟩) h1 q
    wp_walk using q1
    refine wpAny_stack_any fun st => wpAny_pure ?_
    split
    · rename_i c _ _ _ _ _
      cases (c == Value.type "enumerate")
      · wp_walk using q1
        exact ⟨_, rfl, h⟩
      · wp_walk using q1
        exact ⟨_, rfl, h⟩
    · wp_walk using q1
      exact ⟨_, rfl, h⟩
end Zen

namespace Zen
open PySem PySem.Spec PyProof.Rows L2
theorem call_en {prog : Program} {w : World} {A : Around} {E : Value → Shared → Prop} {s : Shared} {z TI TO : Addr} {Q : Value → Shared → Prop} (hz : IsZip s.heap z TI TO .none)
    (h : ∀ g, IsEnum g s.heap.objs.size z 0 .none → (∀ b o, s.heap.get? b = some o → g.get? b = some o) → Q (.ref s.heap.objs.size) { s with heap := g }) : wpAny (model prog w) A (call (.type "enumerate") [.ref z]) Q E s := by
  refine callType_new F.called_enumerate (by decide) (F.typeCall_enumerate_1 _) (F.newCall_enumerate_1 _) (fun obj => F.args_object_init_2 obj _) F.entry_enumerate_new (meets_en z TI TO) ⟨hz, ?_⟩
  have he : IsEnum (s.heap.push { cls := .type "enumerate", data := .fields #[.none, .bool false, .ref z, rawInt 0, .none, .none] }) s.heap.objs.size z 0 .none := Heap.get?_push_size s.heap rfl
  exact ⟨⟨_, he, rfl⟩, h _ he fun b o x => Heap.get?_push_of_some _ x⟩
def iEz (K : PySem.W.Frag) (ta : TA) : TI := fun σ H R => ta σ H fun vs H1 => ∃ a b xs ys, vs = [.ref a, .ref b] ∧ SqL K H1 a xs ∧ SqL K H1 b ys ∧ R (Itez K a b) H1
theorem pi_ez {X : Cx} {e e2 : Expr} {ta : TA} {p p2 pos pos2 tpos : Pos} {elts : List Expr} {kk : Nat} (hg : Gl X "enumerate") (hm : X.mg "enumerate" = none) (hg2 : Gl X "zip") (hm2 : X.mg "zip" = none) (ha : PA X [e, e2] ta)
    (hs1 : starEach [.Call (.Name "zip" p2) [e, e2] [] pos2] X.env = [(false, eval (.Call (.Name "zip" p2) [e, e2] [] pos2) X.env)] := by rfl)
    (hs : starEach [e, e2] X.env = (false, eval e X.env) :: starEach [e2] X.env := by rfl) (hpl : (backTo pos2 (starEach [e2] X.env)).any (·.1) = false := by rfl) :
    PI X (.Tuple elts kk tpos) (.Call (.Name "enumerate" p) [.Call (.Name "zip" p2) [e, e2] [] pos2] [] pos) (iEz X.K ta) := by
  refine ⟨fun pins s σ H R I h => ?_⟩
  refine Call_ (ld_blt I hg hm boot_enumerate (PyProof.Rows.callWith_type1 ?_ hs1 rfl))
  rw [hs1]
  show wpAny _ _ (spliced ((false, eval (.Call (.Name "zip" p2) [e, e2] [] pos2) X.env) :: backTo pos [])) _ _ s
  refine Calls.spliced_cons ?_
  refine Call_ (ld_blt I hg2 hm2 PyProof.Rows.boot_zip (PyProof.Rows.callWith_type1 (thn (ha.run pos2 pins s σ H _ I h) fun us s1 ⟨vs, H1, I1, r1, q1⟩ => ?_) hs hpl))
  obtain ⟨a, b, xs, ys, ex, hqx, hqy, q⟩ := q1
  subst ex
  cases r1 with
  | cons r rr =>
    cases rr with
    | cons r' rr =>
      cases rr
      cases r
      cases r'
      obtain ⟨its, rv, p1', _⟩ := I1.list hqx
      obtain ⟨jts, rv2, p2', _⟩ := I1.list hqy
      have la : a < s1.heap.objs.size := p1'.lt
      have lb : b < s1.heap.objs.size := p2'.lt
      refine call_zip_2 p1'.isList p2'.isList fun g hz hTI hTO h1 h2 hsz hk => ?_
      refine Calls.spliced_nil ?_
      refine call_en (s := { s1 with heap := g }) hz fun g' he k' => wpAny_pyIter_enum he ?_
      have n0 : g.objs.size = s1.heap.objs.size + 5 := hsz
      show PIE X pins σ _ R (.ref g.objs.size) _
      have he : IsEnum g' g.objs.size (s1.heap.objs.size + 4) 0 .none := he
      rw [n0] at he ⊢
      have I2 : Inv X pins σ H1 { s1 with heap := g' } := I1.kept (t' := s1.toks) fun b o q => k' _ _ (hk _ _ q)
      have ne : ∀ j : Nat, j < 5 → s1.heap.objs.size + 5 ≠ s1.heap.objs.size + j := fun j hj q => by
        have := Nat.add_left_cancel q
        omega
      refine ⟨s1.heap.objs.size + 5, [s1.heap.objs.size + 5, s1.heap.objs.size + 4, s1.heap.objs.size + 2, s1.heap.objs.size + 3, s1.heap.objs.size, s1.heap.objs.size + 1], _, _, H1, rfl, I2, turn_ez (PySem.W.ktu_apart s1.heap.objs.size a b la lb) ⟨ne 4 (by decide), ne 3 (by decide), ne 0 (by decide), ne 1 (by decide), ne 2 (by decide)⟩,
        ⟨⟨.none, he⟩, .inl (k' _ _ hz), k' _ _ hTI, ⟨_, _, k' _ _ hTO⟩, h1.at fun o q => k' _ _ q, h2.at fun o q => k' _ _ q⟩, fun c hcm => ?_, q⟩
      have hle : s1.heap.objs.size ≤ c := by
        have cs : c = s1.heap.objs.size + 5 ∨ c = s1.heap.objs.size + 4 ∨ c = s1.heap.objs.size + 2 ∨ c = s1.heap.objs.size + 3 ∨ c = s1.heap.objs.size ∨ c = s1.heap.objs.size + 1 := by simpa using hcm
        rcases cs with z | z | z | z | z | z
        · rw [z]; exact Nat.le_add_right _ _
        · rw [z]; exact Nat.le_add_right _ _
        · rw [z]; exact Nat.le_add_right _ _
        · rw [z]; exact Nat.le_add_right _ _
        · rw [z]; exact Nat.le_refl _
        · rw [z]; exact Nat.le_add_right _ _
      exact I1.fpOk hle (I1.hok.fresh hle)
/-- its turns -/
theorem walk_ez {K : PySem.W.Frag} {a b : Addr} {xs ys : List V} {n : Nat} (hn : n = min xs.length ys.length) : Walk (Itez K a b) n (fun H => SqL K H a xs ∧ SqL K H b ys)
    (fun i H v H' => ∃ (T U : Addr) (x y : V), v = .ref U ∧ H T = none ∧ (upd H T (.tup [x, y])) U = none ∧ H' = upd (upd H T (.tup [x, y])) U (.tup [.int (i : Nat), .ref T]) ∧ xs[i]? = some x ∧ ys[i]? = some y) := by
  subst hn
  refine ⟨fun i _ hi q => ?_, fun _ q => ⟨xs, ys, q.1, q.2, by omega⟩, fun i H v H' _ q y => ?_⟩
  · have h1 : i < xs.length := by omega
    have h2 : i < ys.length := by omega
    exact ⟨xs, ys, xs[i], ys[i], q.1, q.2, by simp [h1], by simp [h2]⟩
  · obtain ⟨T, U, x, z, e1, e2, e3, e4, e5, e6⟩ := y
    exact ⟨T, U, x, z, e1, e2, e3, e4, e5 xs q.1, e6 ys q.2⟩
theorem pg_tupK {X : Cx} {K : PySem.W.Frag} {es : List Expr} {k : Nat} {t : TGs} {n : Nat} {pos : Pos} (hc : X.calm = true) (h : PGs X es t) (e : X.K = K := by rfl)
    (hn : (assignEach es X.env).length = n := by rfl) (hst : (assignEach es X.env).findIdx? (·.1) = none := by rfl) : PG X (.Tuple es k pos) (gTup K n t) := by
  subst e
  exact pg_tup hc h hn hst
end Zen

namespace Db
open PySem L2 Evl StX
section
variable {X : Cx} (K : PySem.W.Frag) {tg l : Expr} {tl te : TE} {t : TA} {es : List Expr} {p : Pos}
theorem pi_tupK (h : PE X l tl) (e : X.K = K := by rfl) : PI X tg l (iTup K tl) := by subst e; exact pi_tup h
theorem pi_listK (h : PE X l tl) (e : X.K = K := by rfl) : PI X tg l (iList K tl) := by subst e; exact pi_list h
theorem pa_starK {x : Expr} (he : PE X x te) (hr : PA X es t) (e : X.K = K := by rfl) (hs : starEach (.Starred x p :: es) X.env = (true, eval x X.env) :: starEach es X.env := by rfl) : PA X (.Starred x p :: es) (tStar K te t) := by
  subst e
  exact pa_star he hr hs
end
/-- memories, each a tuple -/
def MV (K : PySem.W.Frag) (H : Hp) (v : V) (ws : List Nat) : Prop := ∃ a, v = .ref a ∧ SqT K H a (ws.map wV)
def MVs (K : PySem.W.Frag) (H : Hp) (vs : List V) (ms : List (List Nat)) : Prop := Paired (MV K H) vs ms
theorem MVs.mono {K : PySem.W.Frag} {H H' : Hp} {vs : List V} {ms : List (List Nat)} (e : Ex H H') (q : MVs K H vs ms) : MVs K H' vs ms := Paired.mapP q fun _ _ ⟨a, h, s⟩ => ⟨a, h, ex_t e s⟩
theorem MVs.length {K : PySem.W.Frag} {H : Hp} {vs : List V} {ms : List (List Nat)} (q : MVs K H vs ms) : vs.length = ms.length := Paired.length q
theorem MVs.get {K : PySem.W.Frag} {H : Hp} : ∀ {vs : List V} {ms : List (List Nat)} {i : Nat} {v : V}, MVs K H vs ms → vs[i]? = some v → ∃ m, ms[i]? = some m ∧ MV K H v m
  | _, _, _, _, .nil, e => by simp at e
  | _, _, 0, _, .cons r _, e => by simp at e; subst e; exact ⟨_, rfl, r⟩
  | _, _, i + 1, x, .cons _ t, e => by
    obtain ⟨u, h1, h2⟩ := MVs.get (i := i) (v := x) t (by simpa using e)
    exact ⟨u, by simpa using h1, h2⟩
theorem MVs.append {K : PySem.W.Frag} {H : Hp} : ∀ {us vs : List V} {ds es : List (List Nat)}, MVs K H us ds → MVs K H vs es → MVs K H (us ++ vs) (ds ++ es)
  | _, _, _, _, .nil, h => h
  | _, _, _, _, .cons r t, h => .cons r (MVs.append t h)
/-- all memories of so many cells, in their order -/
def grow (m : List Nat) : List (List Nat) := [m ++ [0], m ++ [1], m ++ [2]]
def mems : Nat → List (List Nat)
  | 0 => [[]]
  | n + 1 => (mems n).flatMap grow
theorem mems_length : ∀ n, (mems n).length = 3 ^ n
  | 0 => rfl
  | n + 1 => by
    have h : ∀ l : List (List Nat), (l.flatMap grow).length = 3 * l.length := by
      intro l
      induction l with
      | nil => rfl
      | cons a l ih => rw [List.flatMap_cons, List.length_append, ih]; show 3 + _ = _; rw [List.length_cons]; omega
    show ((mems n).flatMap grow).length = _
    rw [h, mems_length n, Nat.pow_succ]
    omega
theorem mems_mem : ∀ {n : Nat} {m : List Nat}, m ∈ mems n → m.length = n ∧ ∀ x ∈ m, x < 3
  | 0, m, h => by
    cases List.mem_singleton.mp h
    exact ⟨rfl, fun x hx => nomatch hx⟩
  | n + 1, m, h => by
    obtain ⟨u, hu, hm⟩ := List.mem_flatMap.mp h
    obtain ⟨l, s⟩ := mems_mem hu
    have : m = u ++ [0] ∨ m = u ++ [1] ∨ m = u ++ [2] := by simpa [grow] using hm
    rcases this with rfl | rfl | rfl <;> refine ⟨by simp [l], fun x hx => ?_⟩ <;> (rcases List.mem_append.mp hx with z | z; exact s x z; have := List.mem_singleton.mp z; omega)
/-- what both read and what stands, as data -/
def datO (S : Sts) : PyData := .tuple [.list (wD S.ss), .list (wD S.os), .tuple (wD S.ws)]
/-- the same is read and stands -/
def same3 (S U : Sts) : Bool := decide (S.ss = U.ss) && (decide (S.os = U.os) && decide (S.ws = U.ws))
def partRow (c : List Nat) (ds es : List Deed) : Option (List Nat × Rule) := ([Rule.new, .left, .right, .wait].find? fun r => !same3 (out r (begin0 c ds es)) (out .old (begin0 c ds es))).map fun r => (c, r)
def partD (c : Nat) (ds es : List Deed) : Option (List Nat × Rule) := (mems c).findSome? fun m => partRow m ds es
def datP : Option (List Nat × Rule) → PyData
  | none => .none
  | some (m, r) => .tuple [.tuple (wD m), .str "old", .str r.name]
theorem MVs.buts {K : PySem.W.Frag} {H H' : Hp} {S : List Addr} {vs : List V} {ms : List (List Nat)} (b : Bt S H H') (hp : ∀ p ∈ S, ∃ us, H p = some (.lst us)) (q : MVs K H vs ms) : MVs K H' vs ms := Paired.mapP q fun _ _ ⟨a, h, s⟩ => ⟨a, h, t_but b hp s⟩
theorem it_list {K : PySem.W.Frag} {a : Addr} {xs : List V} {H0 : Hp} {B : V → Hp → (Hp → Prop) → Prop} {Qd : Hp → Prop} (Pv : Nat → Hp → Prop) (h0 : Pv 0 H0) (hl : ∀ i H, i ≤ xs.length → Pv i H → SqL K H a xs)
    (hs : ∀ i x H, xs[i]? = some x → Pv i H → B x H (Pv (i + 1))) (hd : ∀ H, Pv xs.length H → Qd H) :
    ∃ W : Nat → Nat → Hp → Prop, (∃ m, W 0 m H0) ∧ ∀ i m H, W i m H →
      ((Itl K a).stop i H ∧ Qd H) ∨ ((Itl K a).go i H ∧ ∃ Nx : Hp → Prop, (∀ H', Nx H' → ∃ m', m' < m ∧ W (i + 1) m' H') ∧ ∀ x H', (Itl K a).yld i H x H' → B x H' Nx) := by
  refine ⟨fun i m H => m = xs.length - i ∧ i ≤ xs.length ∧ Pv i H, ⟨xs.length, by simp, Nat.zero_le _, h0⟩, ?_⟩
  rintro i m H ⟨rfl, hi, p⟩
  have q := hl i H hi p
  by_cases hlt : i < xs.length
  · refine .inr ⟨⟨xs, xs[i], q, by simp [hlt]⟩, Pv (i + 1), fun H' p' => ⟨xs.length - (i + 1), by omega, rfl, hlt, p'⟩, fun x H' y => ?_⟩
    obtain ⟨e, y⟩ := y
    subst e
    exact hs i x _ (y xs q) p
  · have e : i = xs.length := by omega
    subst e
    exact .inl ⟨⟨xs, q, Nat.le_refl _⟩, hd H p⟩
theorem it_tup {K : PySem.W.Frag} {a : Addr} {xs : List V} {H0 : Hp} {B : V → Hp → (Hp → Prop) → Prop} {Qd : Hp → Prop} (Pv : Nat → Hp → Prop) (h0 : Pv 0 H0) (hl : ∀ i H, i ≤ xs.length → Pv i H → SqT K H a xs)
    (hs : ∀ i x H, xs[i]? = some x → Pv i H → B x H (Pv (i + 1))) (hd : ∀ H, Pv xs.length H → Qd H) :
    ∃ W : Nat → Nat → Hp → Prop, (∃ m, W 0 m H0) ∧ ∀ i m H, W i m H →
      ((Itt K a).stop i H ∧ Qd H) ∨ ((Itt K a).go i H ∧ ∃ Nx : Hp → Prop, (∀ H', Nx H' → ∃ m', m' < m ∧ W (i + 1) m' H') ∧ ∀ x H', (Itt K a).yld i H x H' → B x H' Nx) := by
  refine ⟨fun i m H => m = xs.length - i ∧ i ≤ xs.length ∧ Pv i H, ⟨xs.length, by simp, Nat.zero_le _, h0⟩, ?_⟩
  rintro i m H ⟨rfl, hi, p⟩
  have q := hl i H hi p
  by_cases hlt : i < xs.length
  · refine .inr ⟨⟨xs, xs[i], q, by simp [hlt]⟩, Pv (i + 1), fun H' p' => ⟨xs.length - (i + 1), by omega, rfl, hlt, p'⟩, fun x H' y => ?_⟩
    obtain ⟨e, y⟩ := y
    subst e
    exact hs i x _ (y xs q) p
  · have e : i = xs.length := by omega
    subst e
    exact .inl ⟨⟨xs, q, Nat.le_refl _⟩, hd H p⟩
theorem grow_at {m : List Nat} {k : Nat} (h : k < 3) : (grow m).take (k + 1) = (grow m).take k ++ [m ++ [k]] := by
  match k, h with
  | 0, _ => rfl
  | 1, _ => rfl
  | 2, _ => rfl
theorem flat_at {l : List (List Nat)} {j : Nat} {m : List Nat} (h : l[j]? = some m) : (l.take (j + 1)).flatMap grow = (l.take j).flatMap grow ++ grow m := by
  rw [List.take_add_one, h, List.flatMap_append]
  simp
section
variable {K : PySem.W.Frag} {te tl th : TE} {tu tz : TS} {D : Ends} {σ : L2.St} {H : Hp} {j : Nat} {R : Addr → Hp → Prop}
theorem q_forX (h : ∀ Q : VK, (∀ l H2, R l H2 → Q (.ref l) H2) → te σ H Q) (k : ∀ l H2, R l H2 → tSeq (tFor (iList K (tC (.ref l))) (gName j) tu) tz D σ H2) : tSeq (tFor (iList K te) (gName j) tu) tz D σ H := h _ fun l H2 r => k l H2 r
theorem s_forXT (h : ∀ Q : VK, (∀ l H2, R l H2 → Q (.ref l) H2) → te σ H Q) (k : ∀ l H2, R l H2 → tFor (iTup K (tC (.ref l))) (gName j) tu D σ H2) : tFor (iTup K te) (gName j) tu D σ H := h _ fun l H2 r => k l H2 r
end
theorem eqvA_w : ∀ a b : List Nat, PyData.eqvAll (wD a) (wD b) = decide (a = b)
  | [], [] => by simp [wD, PyData.eqvAll]
  | [], y :: b => by simp [wD, PyData.eqvAll]
  | x :: a, [] => by simp [wD, PyData.eqvAll]
  | x :: a, y :: b => by
    have h := eqvA_w a b
    show PyData.eqvAll (.int x :: wD a) (.int y :: wD b) = _
    rw [PyData.eqvAll, h]
    have e : PyData.eqv (.int (x : Int)) (.int (y : Int)) = decide (x = y) := by
      by_cases z : x = y
      · subst z
        simp [PyData.eqv]
      · rw [decide_eq_false z]
        simp only [PyData.eqv]
        have z2 : ¬ (x : Int) = (y : Int) := by omega
        simpa using z2
    rw [e]
    by_cases hx : x = y <;> by_cases hr : a = b <;> simp [hx, hr]
theorem eqv_o (S U : Sts) : PyData.eqv (datO S) (datO U) = same3 S U := by
  unfold datO same3
  simp only [PyData.eqv, PyData.eqvAll, eqvA_w, Bool.and_true]
theorem sh_w (ws : List Nat) : Sh 1 (.list (wD ws)) := sh_lst fun d hd => by
  obtain ⟨n, _, rfl⟩ := List.mem_map.mp hd
  exact sh_int
theorem sh_wT (ws : List Nat) : Sh 1 (.tuple (wD ws)) := sh_tup fun d hd => by
  obtain ⟨n, _, rfl⟩ := List.mem_map.mp hd
  exact sh_int
theorem sh_o (S : Sts) : Sh 2 (datO S) := sh_tup fun d hd => by
  simp only [List.mem_cons, List.not_mem_nil, or_false] at hd
  rcases hd with rfl | rfl | rfl
  · exact sh_w _
  · exact sh_w _
  · exact sh_wT _
theorem findSome_at {α β : Type} {f : α → Option β} : ∀ {l : List α} {i : Nat} {a : α} {b : β}, l[i]? = some a → (∀ j a', j < i → l[j]? = some a' → f a' = none) → f a = some b → l.findSome? f = some b
  | [], _, _, _, h, _, _ => by simp at h
  | x :: l, 0, a, b, h, _, e => by
    cases h
    rw [List.findSome?_cons, e]
  | x :: l, i + 1, a, b, h, n, e => by
    rw [List.findSome?_cons, n 0 x (by omega) rfl]
    exact findSome_at (l := l) (i := i) (by simpa using h) (fun j a' hj hb => n (j + 1) a' (by omega) (by simpa using hb)) e
theorem findSome_no {α β : Type} {f : α → Option β} : ∀ {l : List α}, (∀ j a', j < l.length → l[j]? = some a' → f a' = none) → l.findSome? f = none
  | [], _ => rfl
  | x :: l, n => by
    rw [List.findSome?_cons, n 0 x (by simp) rfl]
    exact findSome_no (l := l) fun j a' hj hb => n (j + 1) a' (by simp; omega) (by simpa using hb)
def others : List Rule := [.new, .left, .right, .wait]
theorem partRow_find (c : List Nat) (ds es : List Deed) : partRow c ds es = others.findSome? fun r => if same3 (out r (begin0 c ds es)) (out .old (begin0 c ds es)) = true then none else some (c, r) := by
  unfold partRow
  show (others.find? _).map _ = _
  generalize others = l
  induction l with
  | nil => rfl
  | cons r l ih =>
    rw [List.find?_cons, List.findSome?_cons]
    cases h : same3 (out r (begin0 c ds es)) (out .old (begin0 c ds es)) with
    | true => simpa [h] using ih
    | false => simp [h]
theorem s_forTn {K : PySem.W.Frag} {tl : TE} {tu : TS} {D : Ends} {σ : L2.St} {H : Hp} {a : Addr} {xs : List V} {j : Nat} (h : Ev tl σ H (.ref a)) (hx : SqT K H a xs) (Pv : Nat → L2.St → Hp → Prop) (h0 : ∀ H1, Ex H H1 → Pv 0 σ H1) (hl : ∀ i σ' H', i ≤ xs.length → Pv i σ' H' → SqT K H' a xs)
    (hs : ∀ i x σ' H', xs[i]? = some x → Pv i σ' H' → tu { D with nx := Pv (i + 1), ct := Pv (i + 1), bk := D.nx } (σ'.set j (some x)) H') (hd : ∀ σ' H', Pv xs.length σ' H' → D.nx σ' H') : tFor (iTup K tl) (gName j) tu D σ H :=
  s_forT h hx Pv h0 hl hs hd
theorem sl_tupK {X : Cx} (K : PySem.W.Frag) (e : X.K = K := by rfl) : SlR X (rSlT K) := by subst e; exact sl_tup
section
variable {K : PySem.W.Frag} {te tb : TE} {σ : L2.St} {H : Hp} {xs : List V} {v : V} {i : Int}
/-- a cell of a new list -/
theorem ev_ixNew (h : EvL te σ H xs) (hb : Ev tb σ H (.int i)) (ha : atI xs i = some v) : Ev (tOp (rIxL K) te tb) σ H v := fun H1 e Q q => h H1 e _ fun p H2 hp e2 hx => hb H2 (e.trans e2) _ fun H3 e3 => ⟨p, _, i, _, rfl, rfl, SqL.of (e3 _ _ hx), ha, q H3 (e2.trans e3)⟩
theorem eu_tupleOf (h : EvL te σ H xs) : EvU (tCB (fun xs H Q => ∃ p ys, xs = [.ref p] ∧ ((SqL K H p ys ∧ ∀ l, H l = none → Q (.ref l) (upd H l (.tup ys))) ∨ (SqT K H p ys ∧ Q (.ref p) H))) (tCons te tNil)) σ H xs := fun H1 e Q q =>
  h H1 e _ fun p H2 hp e2 hx => ⟨p, xs, rfl, .inl ⟨SqL.of hx, fun l hl => q l _ (fresh_back e2 hl) (e2.trans (Ex.new hl)) upd_same⟩⟩
end
/-- the i-th memory of so many cells, digit by digit -/
def dig (c i : Nat) : List Nat := (List.range c).map fun k => i / 3 ^ (c - 1 - k) % 3
theorem mems_dig : ∀ c, 1 ≤ c → c ≤ 4 → mems c = (List.range (3 ^ c)).map (dig c)
  | 1, _, _ => by decide +kernel
  | 2, _, _ => by decide +kernel
  | 3, _, _ => by decide +kernel
  | 4, _, _ => by decide +kernel
  | 0, h, _ => absurd h (by decide)
  | n + 5, _, h => absurd h (by omega)
theorem given_all (n : Nat) (v : Nat → V) : given n (fun _ => true) v = (List.range n).map v := by
  unfold given
  rw [List.filter_eq_self.mpr (fun _ _ => rfl)]
def t3 (S : Sts) : List Nat × List Nat × List Nat := (S.ss, S.os, S.ws)
theorem same3_iff (S U : Sts) : same3 S U = true ↔ t3 S = t3 U := by
  unfold same3 t3
  simp
theorem same3_comm (S U : Sts) : same3 S U = same3 U S := by
  rw [Bool.eq_iff_iff, same3_iff, same3_iff]
  exact ⟨Eq.symm, Eq.symm⟩
def rulesL : List Rule := [.old, .new, .left, .right, .wait]
def pairA : List V := [.int 0, .int 0, .int 0, .int 0, .int 1, .int 1, .int 1, .int 2, .int 2, .int 3]
def pairB : List V := [.int 1, .int 2, .int 3, .int 4, .int 2, .int 3, .int 4, .int 3, .int 4, .int 4]
theorem pair_at {k : Nat} (h : k < 10) : ∃ (a b : Nat) (rA rB : Rule), pairA[k]? = some (.int a) ∧ pairB[k]? = some (.int b) ∧ rulesL[a]? = some rA ∧ rulesL[b]? = some rB ∧ ((k < 4 ∧ rA = .old ∧ others[k]? = some rB) ∨ 4 ≤ k) := by
  match k, h with
  | 0, _ => exact ⟨0, 1, _, _, rfl, rfl, rfl, rfl, .inl ⟨by decide, rfl, rfl⟩⟩
  | 1, _ => exact ⟨0, 2, _, _, rfl, rfl, rfl, rfl, .inl ⟨by decide, rfl, rfl⟩⟩
  | 2, _ => exact ⟨0, 3, _, _, rfl, rfl, rfl, rfl, .inl ⟨by decide, rfl, rfl⟩⟩
  | 3, _ => exact ⟨0, 4, _, _, rfl, rfl, rfl, rfl, .inl ⟨by decide, rfl, rfl⟩⟩
  | 4, _ => exact ⟨1, 2, _, _, rfl, rfl, rfl, rfl, .inr (by decide)⟩
  | 5, _ => exact ⟨1, 3, _, _, rfl, rfl, rfl, rfl, .inr (by decide)⟩
  | 6, _ => exact ⟨1, 4, _, _, rfl, rfl, rfl, rfl, .inr (by decide)⟩
  | 7, _ => exact ⟨2, 3, _, _, rfl, rfl, rfl, rfl, .inr (by decide)⟩
  | 8, _ => exact ⟨2, 4, _, _, rfl, rfl, rfl, rfl, .inr (by decide)⟩
  | 9, _ => exact ⟨3, 4, _, _, rfl, rfl, rfl, rfl, .inr (by decide)⟩
  | n + 10, h => omega
theorem names_at {a : Nat} {r : Rule} (h : rulesL[a]? = some r) : ruleNames[a]? = some (.str r.name) := by
  have e : ruleNames = rulesL.map fun r => V.str r.name := rfl
  rw [e, List.getElem?_map, h]
  rfl
/-- told of the three, apart from a list -/
def O3 (K : PySem.W.Frag) (D : Addr) (X : Hp) (v : V) (S : Sts) : Prop := ∃ t s o m, v = .ref t ∧ X t = some (.tup [.ref s, .ref o, .ref m]) ∧ X s = some (.lst (S.ss.map wV)) ∧ X o = some (.lst (S.os.map wV)) ∧ SqT K X m (S.ws.map wV) ∧ s ≠ D ∧ o ≠ D
theorem O3.mono {K : PySem.W.Frag} {D : Addr} {X Y : Hp} {v : V} {S : Sts} (e : Ex X Y) (h : O3 K D X v S) : O3 K D Y v S := by
  obtain ⟨t, s, o, m, h1, h2, h3, h4, h5, h6, h7⟩ := h
  exact ⟨t, s, o, m, h1, e _ _ h2, e _ _ h3, e _ _ h4, ex_t e h5, h6, h7⟩
theorem O3.set {K : PySem.W.Frag} {D : Addr} {X : Hp} {v : V} {S : Sts} {bs cs : List V} (hD : X D = some (.lst bs)) (h : O3 K D X v S) : O3 K D (upd X D (.lst cs)) v S := by
  obtain ⟨t, s, o, m, h1, h2, h3, h4, h5, h6, h7⟩ := h
  have b : Bt [D] X (upd X D (.lst cs)) := (Bt.refl X).set (by simp)
  have nt : t ≠ D := ne_of h2 hD (by intro z; cases z)
  exact ⟨t, s, o, m, h1, b _ _ (by simp [nt]) h2, b _ _ (by simp [h6]) h3, b _ _ (by simp [h7]) h4, t_but b (by simp [hD]) h5, h6, h7⟩
/-! ### without a clash no rule matters -/
theorem beat_nc {r : Rule} {ws : List Nat} {d e : Deed} (h : clashD d e = false) : beat r ws d e = beat .old ws d e := by
  have cm : ∀ (a b x y : Nat), a ≠ b → (ws.set a x).set b y = (ws.set b y).set a x := fun a b x y n => List.set_comm x y n
  cases d with
  | rs => cases e <;> cases r <;> simp [beat, wrl, rdl]
  | rd c =>
    cases e with
    | rs => cases r <;> simp [beat, wrl, rdl]
    | rd c' => cases r <;> simp [beat, wrl, rdl]
    | wr c' y =>
      have n : c ≠ c' := fun z => by subst z; simp [clashD, Deed.cell, Deed.isW] at h
      cases r <;> simp [beat, wrl, rdl, List.getElem?_set, n, n.symm, List.getD_eq_getElem?_getD]
  | wr c x =>
    cases e with
    | rs => cases r <;> simp [beat, wrl, rdl]
    | rd c' =>
      have n : c ≠ c' := fun z => by subst z; simp [clashD, Deed.cell, Deed.isW] at h
      cases r <;> simp [beat, wrl, rdl, List.getElem?_set, n, n.symm, List.getD_eq_getElem?_getD]
    | wr c' y =>
      have n : c ≠ c' := fun z => by subst z; simp [clashD, Deed.cell, Deed.isW] at h
      cases r <;> simp [beat, wrl, rdl, cm c c' x y n]
theorem getD_tail (l : List Deed) (i : Nat) : l.tail.getD i .rs = l.getD (i + 1) .rs := by cases l <;> simp
theorem runF_nc {r : Rule} : ∀ (n : Nat) (S : Sts), (∀ i, clashD (S.l.getD i .rs) (S.r.getD i .rs) = false) → runF r n S = runF .old n S
  | 0, _, _ => rfl
  | n + 1, S, h => by
    have h0 : clashD (S.l.headD .rs) (S.r.headD .rs) = false := by
      have z := h 0
      rwa [getD_zero, getD_zero] at z
    show runF r n (stepS r S) = runF .old n (stepS .old S)
    by_cases hd : S.done
    · rw [stepS_done hd, stepS_done hd]
      exact runF_nc n S h
    · rw [stepS_of hd, stepS_of hd]
      have w : ∀ q : Rule, waits q S = false := fun q => by unfold waits; rw [h0, Bool.and_false]
      have e : ∀ q : Rule, one q S = after S (beat .old S.ws (S.l.headD .rs) (S.r.headD .rs)) false := fun q => by
        unfold one
        rw [w q, beat_nc h0]
        rfl
      rw [e r, e .old]
      refine runF_nc n _ fun i => ?_
      show clashD (S.l.tail.getD i .rs) (S.r.tail.getD i .rs) = false
      rw [getD_tail, getD_tail]
      exact h (i + 1)
theorem partD_nc {c : Nat} {ds es : List Deed} (h : clashesD ds es = []) : partD c ds es = none := by
  have nc : ∀ i, clashD (ds.getD i .rs) (es.getD i .rs) = false := fun i => by
    by_cases hi : i < min ds.length es.length
    · have z := List.filter_eq_nil_iff.mp h i (List.mem_range.mpr hi)
      simpa using z
    · by_cases h1 : i < ds.length
      · have e : es.getD i .rs = .rs := by rw [List.getD_eq_getElem?_getD, List.getElem?_eq_none (by omega)]; rfl
        rw [e]
        unfold clashD
        cases (ds.getD i .rs).cell <;> rfl
      · have e : ds.getD i .rs = .rs := by rw [List.getD_eq_getElem?_getD, List.getElem?_eq_none (by omega)]; rfl
        rw [e]
        rfl
  refine findSome_no fun j m _ _ => ?_
  rw [partRow_find]
  refine findSome_no fun k r _ _ => ?_
  rw [if_pos ((same3_iff _ _).mpr _)]
  have e : out r (begin0 m ds es) = out .old (begin0 m ds es) := runF_nc _ _ nc
  rw [e]
theorem nice_P {c : Nat} {ds es : List Deed} (hc : c ≤ 4) : Nice 2 (datP (partD c ds es)) := by
  cases h : partD c ds es with
  | none => exact .non
  | some z =>
    obtain ⟨m, r⟩ := z
    have hm : m ∈ mems c := by
      obtain ⟨a, ha, hb⟩ := List.exists_of_findSome?_eq_some h
      unfold partRow at hb
      obtain ⟨x, _, hx⟩ := Option.map_eq_some_iff.mp hb
      cases hx
      exact ha
    have hl := (mems_mem hm).1
    refine .tup (by simp) fun d hd => ?_
    simp only [List.mem_cons, List.not_mem_nil, or_false] at hd
    rcases hd with rfl | rfl | rfl
    · exact nice_wT (by omega)
    · exact .str (by decide +kernel)
    · exact .str (by cases r <;> decide +kernel)
/-- the deeds made over -/
def conv : Deed → Deed
  | .wr _ _ => .wr 0 1
  | _ => .rs
theorem conv_ok {d : Deed} {n : Nat} (h : 0 < n) : (conv d).ok n := by
  cases d with
  | wr c x => exact ⟨h, by decide⟩
  | rd c => exact True.intro
  | rs => exact True.intro
theorem eu_if {t : TT} {ta tb : TE} {σ : L2.St} {H : Hp} {b : Bool} {xs : List V} (h : EvT t σ H b) (h1 : b = true → EvU ta σ H xs) (h2 : b = false → EvU tb σ H xs) : EvU (tIf t ta tb) σ H xs := fun H1 e Q q => h H1 e _ fun H2 e2 => by
  cases b with
  | true =>
    show ta σ H2 Q
    exact h1 rfl H2 (e.trans e2) Q fun p H3 hp e3 h3 => q p H3 (fresh_back e2 hp) (e2.trans e3) h3
  | false =>
    show tb σ H2 Q
    exact h2 rfl H2 (e.trans e2) Q fun p H3 hp e3 h3 => q p H3 (fresh_back e2 hp) (e2.trans e3) h3
theorem conv_at {l : List Deed} {j : Nat} {d : Deed} (h : l[j]? = some d) : (l.take (j + 1)).map conv = (l.take j).map conv ++ [conv d] := by
  rw [List.take_add_one, h, List.map_append]
  rfl
theorem s_ifX {t : TT} {tu tw : TS} {D : Ends} {σ : L2.St} {H : Hp} {R : Bool → Hp → Prop} (h : ∀ Q : Bool → Hp → Prop, (∀ b H2, R b H2 → Q b H2) → t σ H Q) (h1 : ∀ H2, R true H2 → tu D σ H2) (h2 : ∀ H2, R false H2 → tw D σ H2) : tIfS t tu tw D σ H := h _ fun b H2 r => by
  cases b with
  | true =>
    show tu D σ H2
    exact h1 H2 r
  | false =>
    show tw D σ H2
    exact h2 H2 r
theorem s_conv {K : PySem.W.Frag} {i : Nat} {D : Ends} {σ : L2.St} {H : Hp} {p : Addr} {us : List V} {ds : List Deed} (hi : σ[i]? = some (some (.ref p))) (hl : SqL K H p us) (hP : PV K H us ds) (hz : ds.length ≤ 40) (hw : ∀ x, wipe ((wipe σ [9]).set 9 (some x)) [9] = wipe σ [9]) (hx : ∀ x, ((wipe σ [9]).set 9 (some x))[9]? = some (some x))
    (k : ∀ p' us' H', H p' = none → Ex H H' → H' p' = some (.lst us') → PV K H' us' (ds.map conv) → D.nx (σ.set i (some (.ref p'))) H') :
    tAsg (tLc (iList K (tVar i)) (gName 9) tYes (tIf (tTest (tOp rEq (tOp (rIxT K) (tVar 9) (tC (.int 0))) (tC (.str "write")))) (tTup (tCons (tC (.str "write")) (tCons (tC (.int 0)) (tCons (tC (.int 1)) tNil)))) (tTup (tCons (tC (.str "rest")) tNil))) [9]) (gName i) D σ H := by
  refine ⟨_, hi, p, rfl, ⟨us, hl⟩, fun L hL => ?_⟩
  have hlen := hP.length
  refine it_list (xs := us) (fun j X => ∃ bs, X L = some (.lst bs) ∧ PV K X bs ((ds.take j).map conv) ∧ Ex H X ∧ bs.length = j) ⟨[], upd_same, .nil, Ex.new hL, rfl⟩ (fun j X _ ⟨_, _, _, e, _⟩ => ex_l e hl) ?_ ?_
  · rintro j x X hj ⟨bs, hb, hB, eX, hn⟩
    have hju := (List.getElem?_eq_some_iff.mp hj).1
    obtain ⟨d, hd, a, rfl, hv⟩ := (hP.mono eX).get hj
    refine gn ?_
    refine ⟨hw _, ?_⟩
    have wd : decide (V.str d.tag = V.str "write") = d.isW := by
      cases d with
      | rd c => exact (by decide +kernel : decide (V.str "read" = V.str "write") = false)
      | wr c x => exact (by decide +kernel : decide (V.str "write" = V.str "write") = true)
      | rs => exact (by decide +kernel : decide (V.str "rest" = V.str "write") = false)
    have ev : EvU (tIf (tTest (tOp rEq (tOp (rIxT K) (tVar 9) (tC (.int 0))) (tC (.str "write")))) (tTup (tCons (tC (.str "write")) (tCons (tC (.int 0)) (tCons (tC (.int 1)) tNil)))) (tTup (tCons (tC (.str "rest")) tNil))) ((wipe σ [9]).set 9 (some (.ref a))) X (conv d).vals :=
      eu_if (b := d.isW) (et_test (ev_is (ev_op (x := .str d.tag) (y := .str "write") (ev_op (ev_var (hx _)) ev_c (DV.tag hv)) ev_c (rv_eq rfl)) (by rw [wd])))
        (fun hb => by
          cases d with
          | wr c x => exact eu_tup (vs := [.str "write", .int 0, .int 1]) (ea_cons ev_c (ea_cons ev_c (ea_cons ev_c ea_nil))) (by simp)
          | rd c => cases hb
          | rs => cases hb)
        (fun hb => by
          cases d with
          | wr c x => cases hb
          | rd c => exact eu_tup (vs := [.str "rest"]) (ea_cons ev_c ea_nil) (by simp)
          | rs => exact eu_tup (vs := [.str "rest"]) (ea_cons ev_c ea_nil) (by simp))
    refine ev X (Ex.refl X) _ fun t Y nt eY ht => ?_
    have hb2 := eY _ _ hb
    have b2 : Bt [L] Y (upd Y L (.lst (bs ++ [.ref t]))) := (Bt.refl Y).set (by simp)
    have l2 : ∀ q ∈ [L], ∃ us, Y q = some (.lst us) := by simp [hb2]
    refine ⟨bs, hb2, by show bs.length < 2 ^ 24; omega, bs ++ [.ref t], upd_same, ?_, (eX.trans eY).mut hL, by rw [List.length_append, hn]; rfl⟩
    rw [conv_at hd]
    exact (pv_buts b2 l2 (hB.mono eY)).append (.cons ⟨t, rfl, t_but b2 l2 (SqT.of ht)⟩ .nil)
  · rintro X ⟨bs, hb, hB, eX, hn⟩
    rw [hlen, List.take_length] at hB
    exact gn (k L bs X hL eX hb hB)
theorem q_conv {K : PySem.W.Frag} {i : Nat} {tz : TS} {D : Ends} {σ : L2.St} {H : Hp} {p : Addr} {us : List V} {ds : List Deed} (hi : σ[i]? = some (some (.ref p))) (hl : SqL K H p us) (hP : PV K H us ds) (hz : ds.length ≤ 40) (hw : ∀ x, wipe ((wipe σ [9]).set 9 (some x)) [9] = wipe σ [9]) (hx : ∀ x, ((wipe σ [9]).set 9 (some x))[9]? = some (some x))
    (k : ∀ p' us' H', H p' = none → Ex H H' → H' p' = some (.lst us') → PV K H' us' (ds.map conv) → tz D (σ.set i (some (.ref p'))) H') :
    tSeq (tAsg (tLc (iList K (tVar i)) (gName 9) tYes (tIf (tTest (tOp rEq (tOp (rIxT K) (tVar 9) (tC (.int 0))) (tC (.str "write")))) (tTup (tCons (tC (.str "write")) (tCons (tC (.int 0)) (tCons (tC (.int 1)) tNil)))) (tTup (tCons (tC (.str "rest")) tNil))) [9]) (gName i)) tz D σ H :=
  s_conv (D := { D with nx := tz D }) hi hl hP hz hw hx k
theorem eqv_list_w (a b : List Nat) : PyData.eqv (.list (wD a)) (.list (wD b)) = decide (a = b) := by simp only [PyData.eqv, eqvA_w]
end Db

namespace Zen
open PySem PySem.Spec PyProof.Rows L2
/-! enumerate of a text -/
def IteS (x : Str) : It :=
  ⟨fun i _ => i < x.cps.size, fun i H v H' => ∃ T c, v = .ref T ∧ H T = none ∧ H' = L2.upd H T (.tup [.int (i : Nat), .str ⟨#[c]⟩]) ∧ x.cps[i]? = some c, fun i _ => i = x.cps.size⟩
theorem draws_str {prog : Program} {w : World} {A : Around} (hh : A.handled = none) (it : Addr) (x : Str) (t : Tok) (ty : String) (hty : ty = "str_ascii_iterator" ∨ ty = "str_iterator") :
    Draws prog w A it [it] x.cps.size (fun i v => ∃ c u, x.cps[i]? = some c ∧ v = .str ⟨#[c]⟩ u) (fun i h => h.IsStrIter it ty x t i) := by
  rcases hty with rfl | rfl
  · exact Draws.strAscii hh it x t
  · exact Draws.strWide hh it x t
theorem turn_enumS {P : Program} {w : World} {K : PySem.W.Frag} {elts : List Expr} {kk : Nat} {tpos : Pos} (x : Str) (t : Tok) (ty : String) (hty : ty = "str_ascii_iterator" ∨ ty = "str_iterator") (e it : Addr) :
    Turn P w K (.Tuple elts kk tpos) (IteS x) [e, it] e (fun i h => (∃ old, IsEnum h e it ((i : Nat) : Int) old) ∧ h.IsStrIter it ty x t i ∧ e ≠ it) where
  mem := by simp
  obj := fun i h st b hb => by
    obtain ⟨⟨old, he⟩, ⟨o, ho, hc, hd⟩, _⟩ := st
    have e' : b = e ∨ b = it := by simpa using hb
    rcases e' with z | z
    · rw [z]; exact ⟨_, he, fun v q => nomatch q⟩
    · rw [z]; exact ⟨o, ho, fun v q => by rw [hd] at q; cases q⟩
  keep := fun i h h' st k => let ⟨⟨old, he⟩, ⟨o, ho, r⟩, hne⟩ := st; ⟨⟨old, k e (by simp) _ he⟩, ⟨o, k it (by simp) o ho, r⟩, hne⟩
  item := by
    intro X hP hw hK hc i pins s σ H E I hf st hg
    subst hP hw hK
    obtain ⟨⟨old, he⟩, hit, hne⟩ := st
    have hel : e < s.heap.objs.size := Heap.lt_size he
    have hil : it < s.heap.objs.size := by obtain ⟨_, q, _⟩ := hit; exact Heap.lt_size q
    refine wpAny_pyNext_enum_itemD (draws_str (prog := X.prog) (w := X.w) (A := X.A.in1) (I.ok.hd hc) it x t ty hty) he hit hg hne (by simpa using hne) fun v h' tk hv ho hit' hT hsz hk => ?_
    obtain ⟨c, u, hcx, rfl⟩ := hv
    refine ⟨_, rfl, wpAny_letOwnedTupleGo_enum (s := { s with heap := h', toks := tk + 1 }) ho fun h'' he' sb => ?_⟩
    have hT2 : h''.get? s.heap.objs.size = some { cls := .type "tuple", data := .seq #[.int i tk, .str ⟨#[c]⟩ u] } := (sb.2 _ (Nat.ne_of_gt hel)).trans hT
    have new : ObjOk X.prog X.w (L2.upd H s.heap.objs.size (.tup [.int (i : Nat), .str ⟨#[c]⟩])) h'' s.heap.objs.size (.tup [.int (i : Nat), .str ⟨#[c]⟩]) :=
      ⟨by show 2 ≤ sizeLine; decide, [.int i tk, .str ⟨#[c]⟩ u], .cons ⟨_, rfl⟩ (.cons ⟨_, rfl⟩ .nil), ⟨_, hT2, rfl, _, rfl⟩⟩
    have I1 : Inv X pins σ (L2.upd H s.heap.objs.size (.tup [.int (i : Nat), .str ⟨#[c]⟩])) { s with heap := h'', toks := tk + 1 } :=
      I.turnedNew (ch := [e, it]) (fun b ob hb q => (sb.2 b (fun z => hb (by simp [z]))).trans (hk b ob (fun z => hb (by simp [z])) (fun z => hb (by simp [z])) q)) hf (Nat.le_refl _) new
    refine ⟨.ref s.heap.objs.size, _, I1, rfl, ⟨_, c, rfl, I.hok.fresh (Nat.le_refl _), rfl, hcx⟩, ⟨⟨.str ⟨#[c]⟩ u, ?_⟩, ?_, hne⟩, fun b hb => ?_⟩
    · have e1 : ((i + 1 : Nat) : Int) = (i : Int) + 1 := by omega
      rw [e1]; exact he'
    · obtain ⟨o, ho2, r⟩ := hit'
      exact ⟨o, (sb.2 it (Ne.symm hne)).trans ho2, r⟩
    · have hb' : b < s.heap.objs.size := by
        have e' : b = e ∨ b = it := by simpa using hb
        rcases e' with z | z
        · rw [z]; exact hel
        · rw [z]; exact hil
      rw [upd_ne (Nat.ne_of_lt hb')]
      exact (hf b hb).1
  done := by
    intro X hP hw hK hc i pins s σ H E I hf st hg
    subst hP hw hK
    obtain ⟨⟨old, he⟩, hit, hne⟩ := st
    obtain ⟨f0, f1, f2, f3, f4, f5⟩ := hf it (by simp)
    cases hg
    exact wpAny_pyNext_enum_endD (draws_str (prog := X.prog) (w := X.w) (A := X.A.in1) (I.ok.hd hc) it x t ty hty) he hit fun h' eb => ⟨rfl, I.turned (t' := s.toks) (fun b o hb q => eb b o hb q) f0 f1 f3 f4 f5⟩
  self := fun A i s Q E st h => let ⟨⟨_, he⟩, _⟩ := st; wpAny_pyIter_enum he h

def iEnumS (ta : TA) : TI := fun σ H R => ta σ H fun vs H1 => ∃ x, vs = [.str x] ∧ R (IteS x) H1
theorem ty_iter (x : Str) : strIterType x = "str_ascii_iterator" ∨ strIterType x = "str_iterator" := by
  unfold strIterType
  split
  · exact .inl rfl
  · exact .inr rfl
theorem pi_enumS {X : Cx} {e : Expr} {ta : TA} {p pos tpos : Pos} {elts : List Expr} {kk : Nat} (hg : Gl X "enumerate") (hm : X.mg "enumerate" = none) (ha : PA X [e] ta) (hs : starEach [e] X.env = [(false, eval e X.env)] := by rfl) :
    PI X (.Tuple elts kk tpos) (.Call (.Name "enumerate" p) [e] [] pos) (iEnumS ta) := by
  refine ⟨fun pins s σ H R I h => ?_⟩
  refine Call_ (ld_blt I hg hm boot_enumerate (PyProof.Rows.callWith_type1 (thn (ha.run pos pins s σ H _ I h) fun us s1 ⟨vs, H1, I1, r1, q1⟩ => ?_) hs rfl))
  obtain ⟨x, ex, q⟩ := q1
  subst ex
  cases r1 with
  | cons r rr =>
    cases rr
    obtain ⟨t, rfl⟩ := r
    refine call_enumerate_str fun h' he hit hsz hk => wpAny_pyIter_enum he ?_
    have I2 : Inv X pins σ H1 { s1 with heap := h' } := I1.kept (t' := s1.toks) hk
    refine ⟨s1.heap.objs.size + 1, [s1.heap.objs.size + 1, s1.heap.objs.size], _, _, H1, rfl, I2, turn_enumS x t (strIterType x) (ty_iter x) (s1.heap.objs.size + 1) s1.heap.objs.size, ⟨⟨.none, he⟩, hit, Nat.succ_ne_self _⟩, fun b hb => ?_, q⟩
    have e' : b = s1.heap.objs.size + 1 ∨ b = s1.heap.objs.size := by simpa using hb
    have hle : s1.heap.objs.size ≤ b := by
      rcases e' with z | z
      · rw [z]; exact Nat.le_add_right _ _
      · rw [z]; exact Nat.le_refl _
    exact I1.fpOk hle (I1.hok.fresh hle)
theorem walk_enumS {x : Str} : Walk (IteS x) x.cps.size (fun _ => True) (YPair (fun i => some (.int (i : Nat))) (fun i => x.cps[i]?.map fun c => .str ⟨#[c]⟩)) := by
  refine ⟨fun i _ hi _ => hi, fun _ _ => rfl, fun i H v H' _ q y => ?_⟩
  obtain ⟨T, c, h1, h2, h3, h4⟩ := y
  exact ⟨T, .int (i : Nat), _, h1, h2, h3, rfl, by show x.cps[i]?.map _ = _; rw [h4]; rfl⟩
end Zen
namespace Zen
open PySem PySem.Spec PyProof.Rows L2
/-! a text times a number -/
theorem reps_one (c : Nat) : ∀ (k : Nat) (acc : Array Nat), (List.replicate k #[c]).foldl (· ++ ·) acc = acc ++ (List.replicate k c).toArray
  | 0, acc => by simp
  | k + 1, acc => by
    rw [List.replicate_succ, List.foldl_cons, reps_one c k]
    apply Array.ext'
    simp [List.replicate_succ]
theorem op_mulS {X : Cx} : OpR X (binaryOp .Mult) (fun x y H Q => ∃ (c n : Nat), x = .str ⟨#[c]⟩ ∧ y = .int n ∧ n ≤ 100000 ∧ Q (.str ⟨(List.replicate n c).toArray⟩) H) := by
  intro pins s σ H x y v u Q I rx ry h
  obtain ⟨c, n, rfl, rfl, hz, q⟩ := h
  obtain ⟨t, rfl⟩ := rx
  obtain ⟨t', rfl⟩ := ry
  have hl : (⟨#[c]⟩ : Str).length = 1 := rfl
  obtain ⟨m1, m2, m3⟩ := mulOk_of (x := ⟨#[c]⟩) (n := (n : Int)) 1 100000 (by rw [hl]; exact Nat.le_refl _) (by omega) (by omega) (by decide) (by decide)
  refine P.mul_str m1 m2 m3 ?_
  by_cases h1 : (n : Int) < 1
  · rw [if_pos h1]
    have e : n = 0 := by omega
    subst e
    exact ⟨by decide, ⟨.str Str.empty, H, I.tok _, ⟨_, rfl⟩, q⟩⟩
  · rw [if_neg h1]
    by_cases h2 : ((n : Int) == 1 || (⟨#[c]⟩ : Str).length == 0) = true
    · rw [if_pos h2]
      have e : n = 1 := by
        rw [hl] at h2
        simp at h2
        omega
      subst e
      exact ⟨.str ⟨#[c]⟩, H, I, ⟨_, rfl⟩, q⟩
    · rw [if_neg h2]
      have e : (⟨(List.replicate (n : Int).toNat (⟨#[c]⟩ : Str).cps).foldl (· ++ ·) #[]⟩ : Str) = ⟨(List.replicate n c).toArray⟩ := by
        have z := reps_one c n #[]
        rw [Int.toNat_natCast]
        show (⟨(List.replicate n #[c]).foldl (· ++ ·) #[]⟩ : Str) = _
        rw [z]
        simp
      rw [e]
      refine ⟨?_, ⟨.str ⟨(List.replicate n c).toArray⟩, H, I.tok _, ⟨_, rfl⟩, q⟩⟩
      show (⟨(List.replicate n c).toArray⟩ : Str).length ≤ sizeLine
      unfold Str.length
      simp
      exact Nat.le_trans hz (by decide)
end Zen

namespace Db
open PySem L2 Evl StX
/-! ### orders: false for l, true for r -/
def sgn (b : Bool) : Nat := if b then 114 else 108
def oS (o : List Bool) : Str := ⟨(o.map sgn).toArray⟩
theorem oS_l : ("l" : Str) = oS [false] := by decide +kernel
theorem oS_r : ("r" : Str) = oS [true] := by decide +kernel
theorem oS_nil : ("" : Str) = oS [] := by decide +kernel
theorem oS_app (a b : List Bool) : oS a ++ oS b = oS (a ++ b) := by
  show Str.append _ _ = _
  unfold Str.append oS
  simp
theorem oS_len (a : List Bool) : (oS a).length = a.length := by
  unfold oS Str.length
  simp
theorem oS_size (a : List Bool) : (oS a).cps.size = a.length := by
  unfold oS
  simp
theorem oS_at (a : List Bool) (i : Nat) : (oS a).cps[i]? = a[i]?.map sgn := by
  unfold oS
  simp
theorem oS_one (b : Bool) : (⟨#[sgn b]⟩ : Str) = oS [b] := rfl
theorem sgn_inj {a b : Bool} (h : sgn a = sgn b) : a = b := by
  revert h
  cases a <;> cases b <;> decide
theorem oS_inj {a b : List Bool} (h : oS a = oS b) : a = b := by
  unfold oS at h
  injection h with h
  injection h with h
  exact (List.map_inj_right fun _ _ => sgn_inj).mp h
theorem oS_is (a b : List Bool) : decide (V.str (oS a) = V.str (oS b)) = decide (a = b) :=
  decide_eq_decide.mpr ⟨fun h => oS_inj (V.str.inj h), fun h => by rw [h]⟩
theorem cnt_oS (a : List Bool) (b : Bool) : PyProof.Rows.cnt (sgn b) (a.map sgn) = (a.count b : Int) := by
  induction a with
  | nil => rfl
  | cons x r ih =>
    rw [List.map_cons, PyProof.Rows.cnt_cons, ih, List.count_cons]
    by_cases h : x = b
    · subst h
      simp
      omega
    · have h2 : ¬ sgn x = sgn b := fun z => h (sgn_inj z)
      simp [h, h2]
theorem oS_count (a : List Bool) (b : Bool) : Txt.count (oS a) (oS [b]) = (a.count b : Int) := by
  have h := PyProof.Rows.count_cnt (oS a) (sgn b)
  have e : (oS a).cps.toList = a.map sgn := by unfold oS; simp
  rw [e, cnt_oS] at h
  exact h
theorem oS_cut (a : List Bool) (k : Nat) : cutS (oS a) none (some (k : Int)) = oS (a.take k) := by
  unfold cutS
  have e : (oS a).cps.toList = a.map sgn := by unfold oS; simp
  have e1 : HT.sIx (oS a).length 0 none = 0 := HT.sIx_none _ _
  have e2 : HT.sIx (oS a).length (oS a).length (some (k : Int)) = min k (oS a).length := HT.sIx_nat _ _ _
  rw [e, e1, e2, oS_len, List.drop_zero, Nat.sub_zero]
  unfold oS
  rw [List.map_take, ← List.length_map (f := sgn) (as := a), ← List.take_eq_take_min]
theorem cnt_both : ∀ o : List Bool, o.count false + o.count true = o.length
  | [] => rfl
  | b :: o => by
    have h := cnt_both o
    cases b
    · rw [List.count_cons_self, List.count_cons_of_ne (by decide), List.length_cons]; omega
    · rw [List.count_cons_self, List.count_cons_of_ne (by decide), List.length_cons]; omega
/-- one deed is done -/
def oneB (S : Sts) (b : Bool) : Sts :=
  if b then { S with ws := wrl S.ws (S.r.headD .rs), r := S.r.tail, os := S.os ++ rdl S.ws (S.r.headD .rs) }
  else { S with ws := wrl S.ws (S.l.headD .rs), l := S.l.tail, ss := S.ss ++ rdl S.ws (S.l.headD .rs) }
/-- one by one in an order -/
def fol (o : List Bool) (S : Sts) : Sts := o.foldl oneB S
theorem fol_nil (S : Sts) : fol [] S = S := rfl
theorem fol_cons (b : Bool) (o : List Bool) (S : Sts) : fol (b :: o) S = fol o (oneB S b) := rfl
theorem fol_app (o u : List Bool) (S : Sts) : fol (o ++ u) S = fol u (fol o S) := List.foldl_append
theorem fol_take {o : List Bool} {k : Nat} {b : Bool} (h : o[k]? = some b) (S : Sts) : fol (o.take (k + 1)) S = oneB (fol (o.take k) S) b := by
  rw [List.take_add_one, h, fol_app]
  rfl
theorem fol_l : ∀ (o : List Bool) (S : Sts), (fol o S).l = S.l.drop (o.count false)
  | [], S => rfl
  | b :: o, S => by
    rw [fol_cons, fol_l o]
    cases b with
    | false =>
      show S.l.tail.drop _ = _
      rw [List.count_cons_self, ← List.drop_one, List.drop_drop, Nat.add_comm]
    | true =>
      show S.l.drop _ = _
      rw [List.count_cons_of_ne (by decide)]
theorem fol_r : ∀ (o : List Bool) (S : Sts), (fol o S).r = S.r.drop (o.count true)
  | [], S => rfl
  | b :: o, S => by
    rw [fol_cons, fol_r o]
    cases b with
    | true =>
      show S.r.tail.drop _ = _
      rw [List.count_cons_self, ← List.drop_one, List.drop_drop, Nat.add_comm]
    | false =>
      show S.r.drop _ = _
      rw [List.count_cons_of_ne (by decide)]
/-- what stays through deeds one by one -/
structure Fit1 (c m : Nat) (S : Sts) : Prop where
  len : S.ws.length = c
  small : ∀ x ∈ S.ws, x < 3
  okl : ∀ d ∈ S.l, d.ok c
  okr : ∀ d ∈ S.r, d.ok c
  ss : S.ss.length ≤ m
  os : S.os.length ≤ m
theorem Fit1.one {c m : Nat} {S : Sts} {b : Bool} (F : Fit1 c m S) : Fit1 c (m + 1) (oneB S b) := by
  have h1 := F.ss
  have h2 := F.os
  cases b with
  | false =>
    refine ⟨(wrl_length _ _).trans F.len, wrl_small F.small (ok_headD F.okl), fun d hd => F.okl d (mem_tail hd), F.okr, ?_, by show S.os.length ≤ m + 1; omega⟩
    show (S.ss ++ _).length ≤ m + 1
    have := rdl_length S.ws (S.l.headD .rs)
    rw [List.length_append]; omega
  | true =>
    refine ⟨(wrl_length _ _).trans F.len, wrl_small F.small (ok_headD F.okr), F.okl, fun d hd => F.okr d (mem_tail hd), by show S.ss.length ≤ m + 1; omega, ?_⟩
    show (S.os ++ _).length ≤ m + 1
    have := rdl_length S.ws (S.r.headD .rs)
    rw [List.length_append]; omega
theorem Fit1.begin0 {c : Nat} {ws : List Nat} {l r : List Deed} (h1 : ws.length = c) (h2 : ∀ x ∈ ws, x < 3) (h3 : ∀ d ∈ l, d.ok c) (h4 : ∀ d ∈ r, d.ok c) : Fit1 c 0 (begin0 ws l r) := ⟨h1, h2, h3, h4, Nat.le_refl _, Nat.le_refl _⟩
theorem Fit1.fol {c : Nat} : ∀ (o : List Bool) (m : Nat) (S : Sts), Fit1 c m S → Fit1 c (m + o.length) (Db.fol o S)
  | [], _, _, F => F
  | b :: o, m, S, F => by
    have h := Fit1.fol o _ _ (F.one (b := b))
    rw [fol_cons, List.length_cons, show m + (o.length + 1) = m + 1 + o.length by omega]
    exact h
/-- what ordered tells: three tuples -/
def Told3 (K : PySem.W.Frag) (H : Hp) (v : V) (S : Sts) : Prop := ∃ t s o m : Addr, v = .ref t ∧ SqT K H t [.ref s, .ref o, .ref m] ∧ SqT K H s (S.ss.map wV) ∧ SqT K H o (S.os.map wV) ∧ SqT K H m (S.ws.map wV)
theorem Told3.mono {K : PySem.W.Frag} {H H' : Hp} {v : V} {S : Sts} (e : Ex H H') (h : Told3 K H v S) : Told3 K H' v S := by
  obtain ⟨t, s, o, m, h1, h2, h3, h4, h5⟩ := h
  exact ⟨t, s, o, m, h1, ex_t e h2, ex_t e h3, ex_t e h4, ex_t e h5⟩
def datQ (S : Sts) : PyData := .tuple [.tuple (wD S.ss), .tuple (wD S.os), .tuple (wD S.ws)]
theorem Told3.dp {K : PySem.W.Frag} {H : Hp} {v : V} {S : Sts} (h : Told3 K H v S) : Dp K H v (datQ S) := by
  obtain ⟨t, s, o, m, rfl, h2, h3, h4, h5⟩ := h
  exact .tup h2 (.cons (.tup h3 (dpa_w _)) (.cons (.tup h4 (dpa_w _)) (.cons (.tup h5 (dpa_w _)) .nil)))
theorem eqv_q (S U : Sts) : PyData.eqv (datQ S) (datQ U) = decide (t3 S = t3 U) := by
  have e : decide (t3 S = t3 U) = same3 S U := by
    rw [Bool.eq_iff_iff, decide_eq_true_iff, same3_iff]
  rw [e]
  unfold datQ same3
  simp only [PyData.eqv, PyData.eqvAll, eqvA_w, Bool.and_true]
theorem sh_q (S : Sts) : Sh 2 (datQ S) := sh_tup fun d hd => by
  simp only [List.mem_cons, List.not_mem_nil, or_false] at hd
  rcases hd with rfl | rfl | rfl <;> exact sh_wT _
theorem nice_q {c m : Nat} {S : Sts} (F : Fit1 c m S) (hc : c ≤ 4) (hm : m ≤ 1000) : Nice 2 (datQ S) := by
  have h1 := F.ss
  have h2 := F.os
  have h3 := F.len
  refine .tup (by simp) fun d hd => ?_
  simp only [List.mem_cons, List.not_mem_nil, or_false] at hd
  rcases hd with rfl | rfl | rfl <;> exact nice_wT (by omega)
/-! one program behind the other, by the rule new -/
theorem fol_left : ∀ (ds es : List Deed) (ws ss os : List Nat) (n m : Nat), t3 (out .new ⟨ws, ds, List.replicate ds.length .rs ++ es, ss, os, n⟩) = t3 (fol (List.replicate ds.length false ++ List.replicate es.length true) ⟨ws, ds, es, ss, os, m⟩)
  | [], [], ws, ss, os, n, m => by
    show t3 (out .new ⟨ws, [], [], ss, os, n⟩) = _
    rw [out_done ⟨rfl, rfl⟩]
    rfl
  | [], e :: es, ws, ss, os, n, m => by
    have nd : ¬ (Sts.mk ws [] (e :: es) ss os n).done := fun z => nomatch z.2
    have h := fol_left [] es (wrl ws e) ss (os ++ rdl ws e) (n + 1) m
    show t3 (out .new ⟨ws, [], e :: es, ss, os, n⟩) = _
    rw [← out_one nd]
    have w : waits .new (Sts.mk ws [] (e :: es) ss os n) = false := rfl
    have e1 : one .new (Sts.mk ws [] (e :: es) ss os n) = ⟨wrl ws e, [], es, ss, os ++ rdl ws e, n + 1⟩ := by
      unfold one
      rw [w]
      show after _ (beat .new ws .rs e) false = _
      have e2 : beat .new ws .rs e = (wrl ws e, [], rdl (wrl ws e) e) := rfl
      rw [e2, rdl_wrl]
      simp [after]
    rw [e1]
    exact h
  | d :: ds, es, ws, ss, os, n, m => by
    have nd : ¬ (Sts.mk ws (d :: ds) (.rs :: (List.replicate ds.length .rs ++ es)) ss os n).done := fun z => nomatch z.1
    have h := fol_left ds es (wrl ws d) (ss ++ rdl ws d) os (n + 1) m
    show t3 (out .new ⟨ws, d :: ds, .rs :: (List.replicate ds.length .rs ++ es), ss, os, n⟩) = _
    rw [← out_one nd]
    have w : waits .new (Sts.mk ws (d :: ds) (.rs :: (List.replicate ds.length .rs ++ es)) ss os n) = false := rfl
    have e1 : one .new (Sts.mk ws (d :: ds) (.rs :: (List.replicate ds.length .rs ++ es)) ss os n) = ⟨wrl ws d, ds, List.replicate ds.length .rs ++ es, ss ++ rdl ws d, os, n + 1⟩ := by
      unfold one
      rw [w]
      show after _ (beat .new ws d .rs) false = _
      have e2 : beat .new ws d .rs = (wrl ws d, rdl (wrl ws d) d, []) := rfl
      rw [e2, rdl_wrl]
      simp [after]
    rw [e1]
    exact h
theorem oS_rep (b : Bool) (n : Nat) : (⟨(List.replicate n (sgn b)).toArray⟩ : Str) = oS (List.replicate n b) := by
  unfold oS
  rw [List.map_replicate]
theorem rv_mulS {H : Hp} {b : Bool} {n : Nat} (h : n ≤ 100000) : RV (fun x y H Q => ∃ (c n : Nat), x = V.str ⟨#[c]⟩ ∧ y = V.int n ∧ n ≤ 100000 ∧ Q (.str ⟨(List.replicate n c).toArray⟩) H) (.str (oS [b])) (.int n) H (.str (oS (List.replicate n b))) := fun H1 _ Q q =>
  ⟨sgn b, n, rfl, rfl, h, by rw [oS_rep]; exact q H1 (Ex.refl H1)⟩
/-- the written signs of the orders' file -/
structure TxO (mg : Str → Option Value) (t1 t2 : Tok) : Prop where
  g_LEFT : mg "LEFT" = some (.str "l" t1)
  g_RIGHT : mg "RIGHT" = some (.str "r" t2)
theorem txo_mk {K : PySem.W.Frag} {h : Heap} {mg : Str → Option Value} {t1 t2 : Tok} (X : K.In h) (G : h.Ns mainGlobals mg) (a1 : PySem.W.nsIn K mainGlobals "LEFT" = some (some (.str "l" t1))) (a2 : PySem.W.nsIn K mainGlobals "RIGHT" = some (some (.str "r" t2))) : TxO mg t1 t2 :=
  ⟨PySem.W.mg_of X G a1, PySem.W.mg_of X G a2⟩
section
variable {K : PySem.W.Frag} {σ : L2.St} {H : Hp} {to te : TE}
theorem ev_m1 {r : V → List V → Hp → VK → Prop} {a : Str} {y z : V} (h1 : Ev to σ H (.str a)) (h2 : Ev te σ H y) (hr : ∀ H1, Ex H H1 → ∀ Q : VK, (∀ H2, Ex H1 H2 → Q z H2) → r (.str a) [y] H1 Q) : Ev (tM1 r to te) σ H z := fun H1 e Q q =>
  h1 H1 e _ fun H2 e2 => ⟨⟨a, rfl⟩, h2 H2 (e.trans e2) _ fun H3 e3 => hr H3 ((e.trans e2).trans e3) Q fun H4 e4 => q H4 ((e2.trans e3).trans e4)⟩
theorem ev_countO {o : List Bool} {b : Bool} {n : Nat} (h1 : Ev to σ H (.str (oS o))) (h2 : Ev te σ H (.str (oS [b]))) (h : o.count b = n) :
    Ev (tM1 (fun x xs H Q => ∃ a b, x = .str a ∧ xs = [.str b] ∧ Q (.int (Txt.count a b)) H) to te) σ H (.int n) :=
  ev_m1 h1 h2 fun H1 _ Q q => ⟨_, _, rfl, rfl, by rw [oS_count, h]; exact q H1 (Ex.refl H1)⟩
theorem rc_lenO {o : List Bool} (h : o.length ≤ 100000) : RC (fun xs H Q => ∃ x n, xs = [x] ∧ LenV K x H n ∧ Q (.int n) H) [.str (oS o)] H (.int o.length) := fun H1 _ Q q => ⟨_, o.length, rfl, ⟨sz_of (by rw [oS_len]; exact h), (oS_len o).symm⟩, q H1 (Ex.refl H1)⟩
end
section
variable {K : PySem.W.Frag} {σ : L2.St} {H : Hp} {ta te tb : TE}
/-- a cell of a new tuple -/
theorem ev_ixNewT {xs : List V} {v : V} {i : Int} (h : EvU te σ H xs) (hb : Ev tb σ H (.int i)) (ha : atI xs i = some v) : Ev (tOp (rIxT K) te tb) σ H v := fun H1 e Q q => h H1 e _ fun p H2 hp e2 hx => hb H2 (e.trans e2) _ fun H3 e3 => ⟨p, _, i, _, rfl, rfl, SqT.of (e3 _ _ hx), ha, q H3 (e2.trans e3)⟩
theorem ev_slO {tl th : TO} {o : List Bool} {k : Nat} (h : Ev te σ H (.str (oS o))) (h1 : EvO tl σ H none) (h2 : EvO th σ H (some (k : Int))) (hz : o.length ≤ 100000) : Ev (tSl rSlS te tl th) σ H (.str (oS (o.take k))) := fun H1 e Q q =>
  h H1 e _ fun H2 e2 => h1 H2 (e.trans e2) _ fun H3 e3 => h2 H3 ((e.trans e2).trans e3) _ fun H4 e4 => ⟨_, rfl, sz_of (by rw [oS_len]; exact hz), by rw [oS_cut]; exact q H4 ((e2.trans e3).trans e4)⟩
theorem rv_ixO {o : List Bool} {i : Nat} {b : Bool} (h : o.length ≤ 100000) (ha : o[i]? = some b) : RV rIxS (.str (oS o)) (.int i) H (.str (oS [b])) :=
  rv_ixS (by rw [oS_len]; exact h) (atI_nat (by unfold oS; rw [List.toList_toArray, List.getElem?_map, ha]; rfl))
theorem rc_intB {b : Bool} : RC (fun xs H Q => (∃ i, xs = [V.int i] ∧ Q (.int i) H) ∨ ∃ k, xs = [V.bl k] ∧ Q (.int (if k then 1 else 0)) H) [.bl b] H (.int (if b then 1 else 0)) := fun H1 _ _ q => .inr ⟨b, rfl, q H1 (Ex.refl H1)⟩
end
section
variable {K : PySem.W.Frag} {σ : L2.St} {H : Hp} {ta te tb tw : TE} {D : Ends} {tz : TS}
/-- if the deed in a slot is a read, what stands is put behind a list -/
theorem q_ro {i : Nat} {w rr : Addr} {x : V} {d : Deed} {ws rs : List Nat} (hx : σ[i]? = some (some x)) (dv : DV K H x d) (hw : H w = some (.lst (ws.map wV))) (hr : H rr = some (.lst (rs.map wV))) (nwr : w ≠ rr) (ho : d.ok ws.length) (hz : rs.length ≤ 1000)
    (ht : ∀ H1, Ex H H1 → Ev te σ H1 (.ref rr)) (hwv : ∀ H1, Ex H H1 → Ev tw σ H1 (.ref w)) (k : ∀ H', Bt [rr] H H' → H' w = some (.lst (ws.map wV)) → H' rr = some (.lst ((rs ++ rdl ws d).map wV)) → tz D σ H') :
    tSeq (tIfS (tTest (tOp rEq (tOp (rIxT K) (tVar i) (tC (.int 0))) (tC (.str "read")))) (tDrop (tBM K "list" rAppend te (tCons (tOp (rIxL K) tw (tOp (rIxT K) (tVar i) (tC (.int 1)))) tNil))) tNext) tz D σ H := by
  obtain ⟨a, rfl, h1⟩ := dv
  refine q_when (b := decide (V.str d.tag = V.str "read")) (et_test (ev_op (ev_op (ev_var hx) ev_c (DV.tag h1)) ev_c (rv_eq rfl))) (fun hb H1 f1 => ?_) (fun hb H1 f1 => ?_)
  · cases d with
    | wr c x => exact absurd hb (by show ¬ decide (V.str "write" = V.str "read") = true; decide +kernel)
    | rs => exact absurd hb (by show ¬ decide (V.str "rest" = V.str "read") = true; decide +kernel)
    | rd c =>
      have g1 := ex_t f1 h1
      have gw := f1 _ _ hw
      have gs := f1 _ _ hr
      have hc : c < ws.length := ho
      have hxx : (ws.map wV)[c]? = some (wV (ws.getD c 0)) := by rw [List.getElem?_map, List.getD_eq_getElem?_getD, List.getElem?_eq_getElem hc]; rfl
      refine s_app (l := rr) (v := wV (ws.getD c 0)) gs (ht H1 f1) (ev_op (hwv H1 f1) (ev_op (ev_var hx) ev_c (rv_ixT g1 rfl)) (rv_ixL (SqL.of gw) (atI_nat hxx))) (by rw [List.length_map]; omega) fun H2 f2 => ?_
      refine k _ ((Bt.of_ex (f1.trans f2)).upd (.inl (by simp))) ?_ ?_
      · rw [upd_ne nwr]; exact f2 _ _ gw
      · rw [upd_same, List.map_append]
        rfl
  · refine k _ (Bt.of_ex f1) (f1 _ _ hw) ?_
    cases d with
    | rd c => exact absurd hb (by show ¬ decide (V.str "read" = V.str "read") = false; decide +kernel)
    | wr c x => show H1 rr = some (.lst ((rs ++ []).map wV)); rw [List.append_nil]; exact f1 _ _ hr
    | rs => show H1 rr = some (.lst ((rs ++ []).map wV)); rw [List.append_nil]; exact f1 _ _ hr
end
section
variable {K : PySem.W.Frag} {σ : L2.St} {H : Hp} {ta te tb tw : TE} {D : Ends} {tz : TS}
theorem el_rep {xs : List V} {n : Nat} (h : EvL te σ H xs) (hb : Ev tb σ H (.int n)) (hz : xs.length * n ≤ 100000) (hn : n ≤ 100000) : EvL (tOp rRep te tb) σ H (List.replicate n xs).flatten := fun H1 e Q q =>
  h H1 e _ fun p H2 hp e2 hx => hb H2 (e.trans e2) _ fun H3 e3 => ⟨p, n, xs, rfl, rfl, e3 _ _ hx, by omega, by omega, by rw [Int.toNat_natCast]; exact sz_of hz, fun p' hp' => by
    rw [Int.toNat_natCast]
    exact q p' _ (fresh_back (e2.trans e3) hp') ((e2.trans e3).trans (Ex.new hp')) upd_same⟩
theorem el_catN {xs ys : List V} (ha : EvL ta σ H xs) (hb : EvL tb σ H ys) (hz : xs.length + ys.length ≤ 100000) : EvL (tOp rCat ta tb) σ H (xs ++ ys) := fun H1 e Q q =>
  ha H1 e _ fun p H2 hp e2 hx => hb H2 (e.trans e2) _ fun p' H3 hp' e3 hy => ⟨p, p', xs, ys, rfl, rfl, e3 _ _ hx, hy, sz_of hz, fun p2 hp2 => q p2 _ (fresh_back (e2.trans e3) hp2) ((e2.trans e3).trans (Ex.new hp2)) upd_same⟩
/-- a test whose value comes with what is made on the way -/
theorem q_whenX {t : TT} {tu : TS} {R : Hp → Prop} (h : ∀ Q : Bool → Hp → Prop, (∀ H2, R H2 → Q false H2) → t σ H Q) (k : ∀ H2, R H2 → tz D σ H2) : tSeq (tIfS t tu tNext) tz D σ H := h _ fun H2 r => k H2 r
theorem s_whenX {t : TT} {tu : TS} {R : Hp → Prop} (h : ∀ Q : Bool → Hp → Prop, (∀ H2, R H2 → Q false H2) → t σ H Q) (k : ∀ H2, R H2 → D.nx σ H2) : tIfS t tu tNext D σ H := h _ fun H2 r => k H2 r
end
/-- signs, each a text -/
def sV (b : Bool) : V := .str (oS [b])
def sD (o : List Bool) : List PyData := o.map fun b => .str (oS [b])
theorem sD_dp {K : PySem.W.Frag} {H : Hp} : ∀ o : List Bool, DpAll K H (o.map sV) (sD o)
  | [] => .nil
  | b :: r => .cons (.str _) (sD_dp r)
theorem sh_sD (o : List Bool) : Sh 1 (.list (sD o)) := sh_lst fun d hd => by
  obtain ⟨b, _, rfl⟩ := List.mem_map.mp hd
  refine sh_str ?_
  cases b <;> decide +kernel
theorem eqv_sD (o : List Bool) : PyData.eqv (.list (sD o)) (.list []) = decide (o = []) := by
  cases o with
  | nil => simp [sD, PyData.eqv, PyData.eqvAll]
  | cons d r => simp [sD, PyData.eqv, PyData.eqvAll]
theorem reps_flat {α : Type} (x : α) (n : Nat) : (List.replicate n [x]).flatten = List.replicate n x := by
  induction n with
  | zero => rfl
  | succ n ih => rw [List.replicate_succ, List.flatten_cons, ih, List.replicate_succ]; rfl
theorem count_rep (a b : Bool) (n : Nat) : (List.replicate n a).count b = if a = b then n else 0 := by
  rw [List.count_replicate]
  cases a <;> cases b <;> rfl
theorem count_erase {o : List Bool} {i : Nat} {b : Bool} (h : o[i]? = some b) (c : Bool) : (o.eraseIdx i).count c + [b].count c = o.count c := by
  obtain ⟨hi, rfl⟩ := List.getElem?_eq_some_iff.mp h
  rw [List.eraseIdx_eq_take_drop_succ, List.count_append]
  conv => rhs; rw [← List.take_append_drop i o, List.count_append, List.drop_eq_getElem_cons hi]
  rw [List.count_cons (l := o.drop (i + 1)), List.count_singleton]
  omega
theorem PV.rests {K : PySem.W.Frag} {H : Hp} {a : Addr} (h : SqT K H a Deed.rs.vals) : ∀ n : Nat, PV K H (List.replicate n (.ref a)) (List.replicate n .rs)
  | 0 => .nil
  | n + 1 => .cons ⟨a, rfl, h⟩ (PV.rests h n)
theorem map_erase {α β : Type} (f : α → β) : ∀ (l : List α) (i : Nat), (l.map f).eraseIdx i = (l.eraseIdx i).map f
  | [], i => by simp
  | a :: r, 0 => rfl
  | a :: r, i + 1 => by
    have h := map_erase f r i
    simpa using h
end Db

namespace Db
open PySem L2 Evl
def top (i : Nat) : Stmt := PySem.Challenge.pw_doorbeat_k09_long_orders.main.body.getD i (.Pass ⟨0, 0, 0, 0⟩)
abbrev s_is_whole : Stmt := top 11
theorem sc_is_whole : FnScope ["value"] ["value"] (defScope s_is_whole) := ⟨rfl, rfl, rfl, by decide +kernel, rfl, by decide +kernel, by decide +kernel⟩
abbrev s_is_cell : Stmt := top 12
theorem sc_is_cell : FnScope ["value", "cells"] ["value", "cells"] (defScope s_is_cell) := ⟨rfl, rfl, rfl, by decide +kernel, rfl, by decide +kernel, by decide +kernel⟩
abbrev s_is_worth : Stmt := top 13
theorem sc_is_worth : FnScope ["value"] ["value"] (defScope s_is_worth) := ⟨rfl, rfl, rfl, by decide +kernel, rfl, by decide +kernel, by decide +kernel⟩
abbrev s_is_deed : Stmt := top 14
theorem sc_is_deed : FnScope ["deed", "cells"] ["deed", "cells"] (defScope s_is_deed) := ⟨rfl, rfl, rfl, by decide +kernel, rfl, by decide +kernel, by decide +kernel⟩
abbrev s_check_cells : Stmt := top 15
theorem sc_check_cells : FnScope ["cells"] ["cells"] (defScope s_check_cells) := ⟨rfl, rfl, rfl, by decide +kernel, rfl, by decide +kernel, by decide +kernel⟩
abbrev s_check_memory : Stmt := top 16
theorem sc_check_memory : FnScope ["memory", "worth"] ["memory"] (defScope s_check_memory) := ⟨rfl, rfl, rfl, by decide +kernel, rfl, by decide +kernel, by decide +kernel⟩
abbrev s_check_program : Stmt := top 17
theorem sc_check_program : FnScope ["door", "program", "cells", "most", "place", "deed"] ["door", "program", "cells", "most"] (defScope s_check_program) := ⟨rfl, rfl, rfl, by decide +kernel, rfl, by decide +kernel, by decide +kernel⟩
abbrev s_check_programs : Stmt := top 18
theorem sc_check_programs : FnScope ["left", "right", "cells", "most"] ["left", "right", "cells", "most"] (defScope s_check_programs) := ⟨rfl, rfl, rfl, by decide +kernel, rfl, by decide +kernel, by decide +kernel⟩
abbrev s_clash : Stmt := top 19
theorem sc_clash : FnScope ["deed", "other"] ["deed", "other"] (defScope s_clash) := ⟨rfl, rfl, rfl, by decide +kernel, rfl, by decide +kernel, by decide +kernel⟩
abbrev s_read_cell : Stmt := top 21
theorem sc_read_cell : FnScope ["worths", "deed", "seen"] ["worths", "deed", "seen"] (defScope s_read_cell) := ⟨rfl, rfl, rfl, by decide +kernel, rfl, by decide +kernel, by decide +kernel⟩
abbrev s_write_cell : Stmt := top 22
theorem sc_write_cell : FnScope ["worths", "deed"] ["worths", "deed"] (defScope s_write_cell) := ⟨rfl, rfl, rfl, by decide +kernel, rfl, by decide +kernel, by decide +kernel⟩
abbrev s_write_both : Stmt := top 23
theorem sc_write_both : FnScope ["worths", "deed", "other"] ["worths", "deed", "other"] (defScope s_write_both) := ⟨rfl, rfl, rfl, by decide +kernel, rfl, by decide +kernel, by decide +kernel⟩
abbrev s_step_old : Stmt := top 24
theorem sc_step_old : FnScope ["worths", "deed", "other", "seen", "others"] ["worths", "deed", "other", "seen", "others"] (defScope s_step_old) := ⟨rfl, rfl, rfl, by decide +kernel, rfl, by decide +kernel, by decide +kernel⟩
abbrev s_step_new : Stmt := top 25
theorem sc_step_new : FnScope ["worths", "deed", "other", "seen", "others"] ["worths", "deed", "other", "seen", "others"] (defScope s_step_new) := ⟨rfl, rfl, rfl, by decide +kernel, rfl, by decide +kernel, by decide +kernel⟩
abbrev s_step_left : Stmt := top 26
theorem sc_step_left : FnScope ["worths", "deed", "other", "seen", "others"] ["worths", "deed", "other", "seen", "others"] (defScope s_step_left) := ⟨rfl, rfl, rfl, by decide +kernel, rfl, by decide +kernel, by decide +kernel⟩
abbrev s_step_right : Stmt := top 27
theorem sc_step_right : FnScope ["worths", "deed", "other", "seen", "others"] ["worths", "deed", "other", "seen", "others"] (defScope s_step_right) := ⟨rfl, rfl, rfl, by decide +kernel, rfl, by decide +kernel, by decide +kernel⟩
abbrev s_check_rule : Stmt := top 30
theorem sc_check_rule : FnScope ["rule"] ["rule"] (defScope s_check_rule) := ⟨rfl, rfl, rfl, by decide +kernel, rfl, by decide +kernel, by decide +kernel⟩
abbrev s_due : Stmt := top 31
theorem sc_due : FnScope ["program", "place"] ["program", "place"] (defScope s_due) := ⟨rfl, rfl, rfl, by decide +kernel, rfl, by decide +kernel, by decide +kernel⟩
abbrev s_play : Stmt := top 32
theorem sc_play : FnScope ["rule", "memory", "left", "right", "step", "worths", "seen", "others", "beats", "place", "deed", "other"] ["rule", "memory", "left", "right"] (defScope s_play) := ⟨rfl, rfl, rfl, by decide +kernel, rfl, by decide +kernel, by decide +kernel⟩
abbrev s_run : Stmt := top 33
theorem sc_run : FnScope ["rule", "memory", "left", "right"] ["rule", "memory", "left", "right"] (defScope s_run) := ⟨rfl, rfl, rfl, by decide +kernel, rfl, by decide +kernel, by decide +kernel⟩
abbrev s_check_order : Stmt := top 37
theorem sc_check_order : FnScope ["order", "left", "right"] ["order", "left", "right"] (defScope s_check_order) := ⟨rfl, rfl, rfl, by decide +kernel, rfl, by decide +kernel, by decide +kernel⟩
abbrev s_do_deed : Stmt := top 38
theorem sc_do_deed : FnScope ["worths", "deed", "seen"] ["worths", "deed", "seen"] (defScope s_do_deed) := ⟨rfl, rfl, rfl, by decide +kernel, rfl, by decide +kernel, by decide +kernel⟩
abbrev s_follow : Stmt := top 39
theorem sc_follow : FnScope ["memory", "left", "right", "order", "worths", "seen", "others", "place", "done", "door"] ["memory", "left", "right", "order"] (defScope s_follow) := ⟨rfl, rfl, rfl, by decide +kernel, rfl, by decide +kernel, by decide +kernel⟩
abbrev s_ordered : Stmt := top 40
theorem sc_ordered : FnScope ["memory", "left", "right", "order"] ["memory", "left", "right", "order"] (defScope s_ordered) := ⟨rfl, rfl, rfl, by decide +kernel, rfl, by decide +kernel, by decide +kernel⟩
abbrev s_law_mix : Stmt := top 42
theorem sc_law_mix : FnScope ["_law_script", "_law_seed", "_law_mixed", "_law_cell"] ["_law_script", "_law_seed"] (defScope s_law_mix) := ⟨rfl, rfl, rfl, by decide +kernel, rfl, by decide +kernel, by decide +kernel⟩
abbrev s_law_next : Stmt := top 43
theorem sc_law_next : FnScope ["_law_h", "_law_many", "_law_at", "_law_cell"] ["_law_h", "_law_many"] (defScope s_law_next) := ⟨rfl, rfl, rfl, by decide +kernel, rfl, by decide +kernel, by decide +kernel⟩
abbrev s_law_alike : Stmt := top 44
theorem sc_law_alike : FnScope ["_law_found", "_law_due", "_law_k"] ["_law_found", "_law_due"] (defScope s_law_alike) := ⟨rfl, rfl, rfl, by decide +kernel, rfl, by decide +kernel, by decide +kernel⟩
abbrev s_law_deed : Stmt := top 45
theorem sc_law_deed : FnScope ["_law_h", "_law_cells", "_law_cell"] ["_law_h", "_law_cells"] (defScope s_law_deed) := ⟨rfl, rfl, rfl, by decide +kernel, rfl, by decide +kernel, by decide +kernel⟩
abbrev s_law_program : Stmt := top 46
theorem sc_law_program : FnScope ["_law_h", "_law_cells", "_law_most", "_law_k"] ["_law_h", "_law_cells", "_law_most"] (defScope s_law_program) := ⟨rfl, rfl, rfl, by decide +kernel, rfl, by decide +kernel, by decide +kernel⟩
abbrev s_law_memory : Stmt := top 47
theorem sc_law_memory : FnScope ["_law_h", "_law_cells", "_law_k"] ["_law_h", "_law_cells"] (defScope s_law_memory) := ⟨rfl, rfl, rfl, by decide +kernel, rfl, by decide +kernel, by decide +kernel⟩
abbrev s_law_order : Stmt := top 48
theorem sc_law_order : FnScope ["_law_memory_here", "_law_left", "_law_right", "_law_order_here", "_law_seen", "_law_k", "_law_door", "_law_deed_here"] ["_law_memory_here", "_law_left", "_law_right", "_law_order_here"] (defScope s_law_order) := ⟨rfl, rfl, rfl, by decide +kernel, rfl, by decide +kernel, by decide +kernel⟩
abbrev s_law : Stmt := top 49
theorem sc_law : FnScope ["_law_script", "_law_h", "_law_turn", "_law_cells", "_law_memory_here", "_law_left", "_law_right", "_law_signs", "_law_order_here", "_law_seen", "_law_others", "_law_last", "_law_beats"] ["_law_script"] (defScope s_law) := ⟨rfl, rfl, rfl, by decide +kernel, rfl, by decide +kernel, by decide +kernel⟩
local macro_rules | `(tactic| walk_at "sq") => `(tactic| first | assumption | exact SqL.of (by assumption) | exact SqT.of (by assumption))
local macro_rules | `(tactic| walk_at "at") => `(tactic| first | assumption | exact rfl | exact atI_nat (by assumption))
local macro_rules | `(tactic| walk_at "ea") => `(tactic| first
  | (with_reducible exact ea_nil)
  | ((with_reducible apply ea_cons); (· walk_at "ev"); (· walk_at "ea"))
  | assumption)
local macro_rules | `(tactic| walk_at "rc") => `(tactic| first
  | assumption
  | ((apply rc_lenL); (· walk_at "sq"))
  | ((apply rc_lenT); (· walk_at "sq"))
  | ((with_reducible apply rc_isiB); (· first | exact tys_int | exact tys_str | exact tys_bl | exact tys_non | exact tys_tup (by walk_at "sq") | exact tys_lst (by walk_at "sq") | assumption); (· decide +kernel))
  | (exact rc_max))
local macro_rules | `(tactic| walk_at "rv") => `(tactic| first
  | assumption
  | (with_reducible exact rv_I0)
  | ((with_reducible apply rv_eq); (· exact rfl))
  | ((with_reducible apply rv_ne); (· exact rfl))
  | ((with_reducible apply rv_ixT); (· walk_at "sq"); (· walk_at "at"))
  | ((with_reducible apply rv_ixL); (· walk_at "sq"); (· walk_at "at"))
  | ((with_reducible apply rv_I); (· first | assumption | decide | omega | exact Or.inr ⟨by decide, by decide⟩ | exact Or.inl ⟨by decide, by decide⟩ | exact ⟨by decide, by decide, by decide⟩ | exact ⟨by omega, by omega⟩ | exact Or.inl ⟨by omega, by omega⟩ | exact Or.inr ⟨by omega, by omega⟩)))
local macro_rules | `(tactic| walk_at "ev") => `(tactic| first
  | (with_reducible exact ev_c)
  | ((with_reducible apply ev_var); (· exact rfl))
  | assumption
  | ((with_reducible apply ev_op); (· walk_at "ev"); (· walk_at "ev"); (· walk_at "rv"))
  | ((with_reducible apply ev_cb); (· walk_at "ea"); (· walk_at "rc"))
  | ((with_reducible apply ev_call); (· walk_at "ea"); (· assumption))
  | exact ev_c)

section
variable {P : Program} {w : World} {K : PySem.W.Frag} {mg : Str → Option Value} {base : Heap}
def sp_is_whole : Sp := spF 1 fun vs _ v => ∃ i : Int, vs = [.int i] ∧ v = .bl true
theorem sp_is_whole_v {H : Hp} {i : Int} : SpV sp_is_whole [.int i] H (.bl true) := spF_v rfl fun _ _ => ⟨i, rfl, rfl⟩
theorem d_is_whole (T : Nb mg) (h : Has K mg "is_whole" s_is_whole) : Dn P w K mg base CX0 "is_whole" ["value"] 1 sp_is_whole := by
  refine dn_of h (fun f fd F => F.binds fun _ _ _ _ _ _ us hl => match us, hl with | [_], _ => rfl) fun f fd F _ => F.ok sc_is_whole (fun vs H Q E h => h.1) (fun cdv A outer s H vs Q E hr h => ?_)
  obtain ⟨_, v, ⟨i, rfl, rfl⟩, k⟩ := h
  refine ⟨_, (pss_one (ps_ret (pe_and (pe_callB (call_isiK2 K) (by rfl) T.n_isinstance PyProof.Rows.boot_isinstance (pa_cons (pv 0) (pa_cons (pe_bltn (v := .ty "int") rfl T.n_int PyProof.Rows.boot_int rfl) pa_nil))) (pe_one (pe_not (pe_callB (call_isiK2 K) (by rfl) T.n_isinstance PyProof.Rows.boot_isinstance (pa_cons (pv 0) (pa_cons (pe_bltn (v := .ty "bool") rfl T.n_bool PyProof.Rows.boot_bool rfl) pa_nil)))))))), ?_⟩
  exact s_ret (v := .bl true) (ev_is (ev_andV (a := true) (b := true) (by walk_at "ev") (fun _ => ev_is (ev_notV (a := false) (by walk_at "ev")) rfl)) rfl) fun H1 f1 => k H1 f1

def sp_is_cell : Sp := spF 2 fun vs _ v => ∃ i n : Int, vs = [.int i, .int n] ∧ v = .bl (decide (0 ≤ i ∧ i < n))
theorem sp_is_cell_v {H : Hp} {i n : Int} : SpV sp_is_cell [.int i, .int n] H (.bl (decide (0 ≤ i ∧ i < n))) := spF_v rfl fun _ _ => ⟨i, n, rfl, rfl⟩
theorem d_is_cell (D_is_whole : Dn P w K mg base CX0 "is_whole" ["value"] 1 sp_is_whole) (h : Has K mg "is_cell" s_is_cell) : Dn P w K mg base CX0 "is_cell" ["value", "cells"] 2 sp_is_cell := by
  refine dn_of h (fun f fd F => F.binds fun _ _ _ _ _ _ us hl => match us, hl with | [_, _], _ => rfl) fun f fd F _ => F.ok sc_is_cell (fun vs H Q E h => h.1) (fun cdv A outer s H vs Q E hr h => ?_)
  obtain ⟨_, v, ⟨i, n, rfl, rfl⟩, k⟩ := h
  refine ⟨_, (pss_one (ps_ret (pe_and (pe_dn D_is_whole hr (by omega) pass0 (pa_cons (pv 0) pa_nil)) (pe_one (pe_chain op_le op_lt pe_int (pv 0) (pv 1)))))), ?_⟩
  have c := @sp_is_whole_v H i
  exact s_ret (v := .bl (decide (0 ≤ i ∧ i < n))) (ev_is (ev_andV (a := true) (b := decide (0 ≤ i) && decide (i < n)) (by walk_at "ev") (fun _ => ev_chain (by walk_at "ev") (by walk_at "ev") rv_I0 (fun _ => by walk_at "ev") (fun _ => rv_I0))) (by rw [Bool.true_and, ← Bool.decide_and])) fun H1 f1 => k H1 f1

def sp_is_worth : Sp := spF 1 fun vs _ v => ∃ i : Int, vs = [.int i] ∧ v = .bl (decide (0 ≤ i ∧ i < 3))
theorem sp_is_worth_v {H : Hp} {i : Int} : SpV sp_is_worth [.int i] H (.bl (decide (0 ≤ i ∧ i < 3))) := spF_v rfl fun _ _ => ⟨i, rfl, rfl⟩
theorem d_is_worth {aREST aWORTHS : Addr} {t4 t40 : Tok} (G : TxP K mg aREST aWORTHS t4 t40) (D_is_whole : Dn P w K mg base CX0 "is_whole" ["value"] 1 sp_is_whole) (h : Has K mg "is_worth" s_is_worth) : Dn P w K mg base CX0 "is_worth" ["value"] 2 sp_is_worth := by
  refine dn_of h (fun f fd F => F.binds fun _ _ _ _ _ _ us hl => match us, hl with | [_], _ => rfl) fun f fd F _ => F.ok sc_is_worth (fun vs H Q E h => h.1) (fun cdv A outer s H vs Q E hr h => ?_)
  obtain ⟨_, v, ⟨i, rfl, rfl⟩, k⟩ := h
  refine ⟨_, (pss_one (ps_ret (pe_and (pe_dn D_is_whole hr (by omega) pass0 (pa_cons (pv 0) pa_nil)) (pe_one (pe_cmpR (op_in_seqK K) (pv 0) (pe_glob (v := .ref aWORTHS) rfl G.g_WORTHS rfl) (by rfl)))))), ?_⟩
  have c := @sp_is_whole_v H i
  exact s_ret (v := .bl (decide (0 ≤ i ∧ i < 3))) (ev_is (ev_andV (a := true) (b := inV (.int i) [.int 0, .int 1, .int 2]) (by walk_at "ev") (fun _ => ev_op (by walk_at "ev") (by walk_at "ev") (rv_isT (G.WORTHS H) rfl rfl))) (by rw [Bool.true_and, in_worths])) fun H1 f1 => k H1 f1

def sp_is_deed (K : PySem.W.Frag) : Sp := spF 2 fun vs H v => ∃ (a : V) (d : Deed) (n : Nat), vs = [a, .int n] ∧ DV K H a d ∧ d.ok n ∧ v = .bl true
theorem sp_is_deed_v {H : Hp} {a : V} {d : Deed} {n : Nat} (h : DV K H a d) (ho : d.ok n) : SpV (sp_is_deed K) [a, .int n] H (.bl true) := spF_v rfl fun _ f => ⟨a, d, n, rfl, h.mono f, ho, rfl⟩
theorem d_is_deed {aREST aWORTHS : Addr} {t4 t40 : Tok} (T : Nb mg) (G : TxP K mg aREST aWORTHS t4 t40) (D_is_cell : Dn P w K mg base CX0 "is_cell" ["value", "cells"] 2 sp_is_cell) (D_is_worth : Dn P w K mg base CX0 "is_worth" ["value"] 2 sp_is_worth)
    (h : Has K mg "is_deed" s_is_deed) : Dn P w K mg base CX0 "is_deed" ["deed", "cells"] 3 (sp_is_deed K) := by
  refine dn_of h (fun f fd F => F.binds fun _ _ _ _ _ _ us hl => match us, hl with | [_, _], _ => rfl) fun f fd F _ => F.ok sc_is_deed (fun vs H Q E h => h.1) (fun cdv A outer s H vs Q E hr h => ?_)
  obtain ⟨_, v, ⟨_, d, n, rfl, ⟨a, rfl, h1⟩, ho, rfl⟩, k⟩ := h
  refine ⟨_, (pss_cons (ps_if (PW.pt (pw_or (pt_not (pt_val (pe_callB (call_isiK2 K) (by rfl) T.n_isinstance PyProof.Rows.boot_isinstance (pa_cons (pv 0) (pa_cons (pe_bltn (v := .ty "tuple") rfl T.n_tuple PyProof.Rows.boot_tuple rfl) pa_nil))))) (pw_or1 (pt_cmpR op_eq (pe_callB (call_len_seqK K) (by rfl) T.n_len PySem.boot_len (pa_cons (pv 0) pa_nil)) pe_int (nomark _))))) (pss_one (ps_ret pe_bl)) pss_nil)
    (pss_cons (ps_if (pt_cmpR op_eq (pe_ix (ix_tupK K) (pv 0) pe_int (fun _ _ => rfl)) pe_str (nomark _)) (pss_one (ps_ret (pe_and (pe_cmpR op_eq (pe_callB (call_len_seqK K) (by rfl) T.n_len PySem.boot_len (pa_cons (pv 0) pa_nil)) pe_int (nomark _)) (pe_one (pe_dn D_is_cell hr (by omega) pass0 (pa_cons (pe_ix (ix_tupK K) (pv 0) pe_int (fun _ _ => rfl)) (pa_cons (pv 1) pa_nil))))))) pss_nil)
    (pss_cons (ps_if (pt_cmpR op_eq (pe_ix (ix_tupK K) (pv 0) pe_int (fun _ _ => rfl)) pe_str (nomark _)) (pss_one (ps_ret (pe_and (pe_cmpR op_eq (pe_callB (call_len_seqK K) (by rfl) T.n_len PySem.boot_len (pa_cons (pv 0) pa_nil)) pe_int (nomark _)) (pe_and (pe_dn D_is_cell hr (by omega) pass0 (pa_cons (pe_ix (ix_tupK K) (pv 0) pe_int (fun _ _ => rfl)) (pa_cons (pv 1) pa_nil))) (pe_one (pe_dn D_is_worth hr (by omega) pass0 (pa_cons (pe_ix (ix_tupK K) (pv 0) pe_int (fun _ _ => rfl)) pa_nil))))))) pss_nil)
    (pss_one (ps_ret (pe_cmpR (op_eqDK K rfl hr.units) (pv 0) (pe_glob (v := .ref aREST) rfl G.g_REST rfl) (nomark _))))))), ?_⟩
  have hlen : d.vals.length ≠ 0 := by cases d <;> simp [Deed.vals]
  refine q_when (b := false) (et_is (et_or (a := false) (b := decide (V.int (d.vals.length : Int) = V.int 0)) (et_not (a := true) (et_B (by walk_at "ev"))) (fun _ => et_test (ev_op (by walk_at "ev") (by walk_at "ev") (rv_eq rfl))))
    (by rw [Bool.false_or]; exact decide_eq_false fun z => hlen (by have := V.int.inj z; omega))) (fun z => nomatch z) (fun _ H1 f1 => ?_)
  have g1 := ex_t f1 h1
  refine q_when (b := decide (V.str d.tag = V.str "read")) (et_test (ev_op (ev_op (by walk_at "ev") (by walk_at "ev") (DV.tag g1)) (by walk_at "ev") (rv_eq rfl))) (fun hb H2 f2 => ?_) (fun hb H2 f2 => ?_)
  · cases d with
    | wr c w => exact absurd hb (by show ¬ decide (V.str "write" = V.str "read") = true; decide +kernel)
    | rs => exact absurd hb (by show ¬ decide (V.str "rest" = V.str "read") = true; decide +kernel)
    | rd c =>
      have g2 := ex_t f2 g1
      have hc : c < n := ho
      have q := @sp_is_cell_v H2 c n
      exact s_ret (v := .bl true) (ev_is (ev_andV (a := true) (b := decide (0 ≤ (c : Int) ∧ (c : Int) < (n : Int))) (ev_is (ev_op (ev_cb (by walk_at "ea") (rc_lenT g2)) (by walk_at "ev") (rv_eq rfl)) rfl) (fun _ => ev_call (ea_cons (ev_op (by walk_at "ev") (by walk_at "ev") (rv_ixT g2 rfl)) (ea_cons (by walk_at "ev") ea_nil)) q))
        (by rw [decide_eq_true (show 0 ≤ (c : Int) ∧ (c : Int) < (n : Int) by omega)]; rfl)) fun H3 f3 => k H3 ((f1.trans f2).trans f3)
  · have g2 := ex_t f2 g1
    refine q_when (b := decide (V.str d.tag = V.str "write")) (et_test (ev_op (ev_op (by walk_at "ev") (by walk_at "ev") (DV.tag g2)) (by walk_at "ev") (rv_eq rfl))) (fun hb2 H3 f3 => ?_) (fun hb2 H3 f3 => ?_)
    · cases d with
      | rd c => exact absurd hb (by show ¬ decide (V.str "read" = V.str "read") = false; decide +kernel)
      | rs => exact absurd hb2 (by show ¬ decide (V.str "rest" = V.str "write") = true; decide +kernel)
      | wr c w =>
        have g3 := ex_t f3 g2
        obtain ⟨hc, hw⟩ : c < n ∧ w < 3 := ho
        have q := @sp_is_cell_v H3 c n
        have q2 := @sp_is_worth_v H3 w
        exact s_ret (v := .bl true) (ev_is (ev_andV (a := true) (b := decide (0 ≤ (c : Int) ∧ (c : Int) < (n : Int)) && decide (0 ≤ (w : Int) ∧ (w : Int) < 3)) (ev_is (ev_op (ev_cb (by walk_at "ea") (rc_lenT g3)) (by walk_at "ev") (rv_eq rfl)) rfl) (fun _ => ev_andV (ev_call (ea_cons (ev_op (by walk_at "ev") (by walk_at "ev") (rv_ixT g3 rfl)) (ea_cons (by walk_at "ev") ea_nil)) q) (fun _ => ev_call (ea_cons (ev_op (by walk_at "ev") (by walk_at "ev") (rv_ixT g3 rfl)) ea_nil) q2)))
          (by rw [decide_eq_true (show 0 ≤ (c : Int) ∧ (c : Int) < (n : Int) by omega), decide_eq_true (show 0 ≤ (w : Int) ∧ (w : Int) < 3 by omega)]; rfl)) fun H4 f4 => k H4 (((f1.trans f2).trans f3).trans f4)
    · cases d with
      | rd c => exact absurd hb (by show ¬ decide (V.str "read" = V.str "read") = false; decide +kernel)
      | wr c w => exact absurd hb2 (by show ¬ decide (V.str "write" = V.str "write") = false; decide +kernel)
      | rs =>
        have g3 := ex_t f3 g2
        exact s_ret (v := .bl true) (ev_is (ev_op (by walk_at "ev") (by walk_at "ev") (rv_eqD (n := 1) (m := 1) (DV.dp ⟨a, rfl, g3⟩) (DV.dp (d := .rs) ⟨_, rfl, G.REST _⟩) (Deed.sh _) (Deed.sh _) (by decide) (by decide))) (by rw [Deed.eqv_rs]; rfl)) fun H4 f4 => k H4 (((f1.trans f2).trans f3).trans f4)

def sp_check_cells : Sp := spF 1 fun vs _ v => ∃ n : Int, vs = [.int n] ∧ 1 ≤ n ∧ n ≤ 4 ∧ v = .non
theorem sp_check_cells_v {H : Hp} {n : Int} (h1 : 1 ≤ n) (h4 : n ≤ 4) : SpV sp_check_cells [.int n] H .non := spF_v rfl fun _ _ => ⟨n, rfl, h1, h4, rfl⟩
theorem d_check_cells {aREST aWORTHS : Addr} {t4 t40 : Tok} (G : TxP K mg aREST aWORTHS t4 t40) (D_is_whole : Dn P w K mg base CX0 "is_whole" ["value"] 1 sp_is_whole) (h : Has K mg "check_cells" s_check_cells) : Dn P w K mg base CX0 "check_cells" ["cells"] 2 sp_check_cells := by
  refine dn_of h (fun f fd F => F.binds fun _ _ _ _ _ _ us hl => match us, hl with | [_], _ => rfl) fun f fd F _ => F.ok sc_check_cells (fun vs H Q E h => h.1) (fun cdv A outer s H vs Q E hr h => ?_)
  obtain ⟨_, v, ⟨n, rfl, h1, h4, rfl⟩, k⟩ := h
  refine ⟨_, (pss_one (ps_if (PW.pt (pw_or (pt_not (pt_val (pe_dn D_is_whole hr (by omega) pass0 (pa_cons (pv 0) pa_nil)))) (pw_or1 (pt_not (pt_chain op_le op_le pe_int (pv 0) (pe_glob (v := .int 4) rfl G.g_MOST_CELLS ⟨_, rfl⟩)))))) pss_never pss_nil)), ?_⟩
  have c := @sp_is_whole_v H n
  refine s_if (b := false) (et_is (et_or (a := false) (b := false) (et_not (a := true) (et_B (by walk_at "ev"))) (fun _ => et_is (et_not (et_test (ev_chain (a := decide (1 ≤ n)) (b := decide (n ≤ 4)) (by walk_at "ev") (by walk_at "ev") rv_I0 (fun _ => by walk_at "ev") (fun _ => rv_I0)))) (by rw [decide_eq_true h1, decide_eq_true h4]; rfl))) rfl) (fun z => nomatch z) (fun _ H1 f1 => k H1 f1)

def sp_check_memory (K : PySem.W.Frag) : Sp := spF 1 fun vs H v => ∃ (p : Addr) (ws : List Nat), vs = [.ref p] ∧ SqT K H p (ws.map wV) ∧ 1 ≤ ws.length ∧ ws.length ≤ 4 ∧ (∀ x ∈ ws, x < 3) ∧ v = .non
theorem sp_check_memory_v {H : Hp} {p : Addr} {ws : List Nat} (h : SqT K H p (ws.map wV)) (h1 : 1 ≤ ws.length) (h4 : ws.length ≤ 4) (h3 : ∀ x ∈ ws, x < 3) : SpV (sp_check_memory K) [.ref p] H .non := spF_v rfl fun _ f => ⟨p, ws, rfl, ex_t f h, h1, h4, h3, rfl⟩
theorem d_check_memory (T : Nb mg) (D_check_cells : Dn P w K mg base CX0 "check_cells" ["cells"] 2 sp_check_cells) (D_is_worth : Dn P w K mg base CX0 "is_worth" ["value"] 2 sp_is_worth) (h : Has K mg "check_memory" s_check_memory) :
    Dn P w K mg base CX0 "check_memory" ["memory"] 3 (sp_check_memory K) := by
  refine dn_of h (fun f fd F => F.binds fun _ _ _ _ _ _ us hl => match us, hl with | [_], _ => rfl) fun f fd F _ => F.ok sc_check_memory (fun vs H Q E h => h.1) (fun cdv A outer s H vs Q E hr h => ?_)
  obtain ⟨_, v, ⟨p, ws, rfl, h0, h1, h4, h3, rfl⟩, k⟩ := h
  refine ⟨_, (pss_cons (ps_if (pt_not (pt_val (pe_callB (call_isiK2 K) (by rfl) T.n_isinstance PyProof.Rows.boot_isinstance (pa_cons (pv 0) (pa_cons (pe_bltn (v := .ty "tuple") rfl T.n_tuple PyProof.Rows.boot_tuple rfl) pa_nil))))) pss_never pss_nil)
    (pss_cons (ps_expr (pe_dn D_check_cells hr (by omega) pass0 (pa_cons (pe_callB (call_len_seqK K) (by rfl) T.n_len PySem.boot_len (pa_cons (pv 0) pa_nil)) pa_nil)))
    (pss_one (ps_for PassesOwn.never rfl (pi_tup (pv 0)) (pg_name (i := 1) sc_check_memory.nd rfl (Or.inl rfl))
      (pss_one (ps_if (pt_not (pt_val (pe_dn D_is_worth hr (by omega) pass0 (pa_cons (pv 1) pa_nil)))) pss_never pss_nil)))))), ?_⟩
  refine q_when (b := false) (et_is (et_not (a := true) (et_B (by walk_at "ev"))) rfl) (fun z => nomatch z) (fun _ H1 f1 => ?_)
  have g1 := ex_t f1 h0
  have c := @sp_check_cells_v H1 ((ws.map wV).length : Int) (by rw [List.length_map]; omega) (by rw [List.length_map]; omega)
  refine q_drop (v := .non) (by walk_at "ev") fun H2 f2 => ?_
  refine s_forT (a := p) (xs := ws.map wV) (by walk_at "ev") (ex_t f2 g1) (fun _ σ' H' => ∃ v, σ' = [some (.ref p), v] ∧ Ex H H') (fun H3 f3 => ⟨none, rfl, (f1.trans f2).trans f3⟩) (fun i σ' H' _ ⟨_, _, e⟩ => ex_t e h0) ?_ ?_
  · rintro i x σ' H' hi ⟨v, rfl, e⟩
    obtain ⟨n, hn, rfl⟩ : ∃ n, ws[i]? = some n ∧ x = wV n := by
      rw [List.getElem?_map] at hi
      cases q : ws[i]? with
      | none => rw [q] at hi; cases hi
      | some n => rw [q] at hi; exact ⟨n, rfl, (Option.some.inj hi).symm⟩
    have hs := h3 n (List.mem_of_getElem? hn)
    have c := @sp_is_worth_v H' (n : Int)
    refine s_when (b := false) (et_is (et_not (et_B (ev_call (ea_cons (ev_var (v := .int (n : Int)) rfl) ea_nil) c))) (by rw [decide_eq_true (show 0 ≤ (n : Int) ∧ (n : Int) < 3 by omega)]; rfl)) (fun z => nomatch z) (fun _ H3 f3 => ⟨_, rfl, e.trans f3⟩)
  · rintro σ' H' ⟨v, rfl, e⟩
    exact k H' e

def sp_check_program (K : PySem.W.Frag) : Sp := spF 4 fun vs H v => ∃ (door : V) (p : Addr) (n m : Nat) (us : List V) (ds : List Deed), vs = [door, .ref p, .int n, .int m] ∧ SqL K H p us ∧ PV K H us ds ∧ ds.length ≤ m ∧ (∀ d ∈ ds, d.ok n) ∧ v = .non
theorem sp_check_program_v {H : Hp} {door : V} {p : Addr} {n m : Nat} {us : List V} {ds : List Deed} (h1 : SqL K H p us) (h2 : PV K H us ds) (h3 : ds.length ≤ m) (h4 : ∀ d ∈ ds, d.ok n) : SpV (sp_check_program K) [door, .ref p, .int n, .int m] H .non :=
  spF_v rfl fun _ f => ⟨door, p, n, m, us, ds, rfl, ex_l f h1, h2.mono f, h3, h4, rfl⟩
theorem d_check_program {aREST aWORTHS : Addr} {t4 t40 : Tok} (T : Nb mg) (G : TxP K mg aREST aWORTHS t4 t40) (D_is_deed : Dn P w K mg base CX0 "is_deed" ["deed", "cells"] 3 (sp_is_deed K)) (h : Has K mg "check_program" s_check_program) :
    Dn P w K mg base CX0 "check_program" ["door", "program", "cells", "most"] 4 (sp_check_program K) := by
  refine dn_of h (fun f fd F => F.binds fun _ _ _ _ _ _ us hl => match us, hl with | [_, _, _, _], _ => rfl) fun f fd F _ => F.ok sc_check_program (fun vs H Q E h => h.1) (fun cdv A outer s H vs Q E hr h => ?_)
  obtain ⟨_, v, ⟨door, p, n, m, us, ds, rfl, h1, h2, h3, h4, rfl⟩, k⟩ := h
  refine ⟨_, (pss_cons (ps_if (pt_not (pt_val (pe_callB (call_isiK2 K) (by rfl) T.n_isinstance PyProof.Rows.boot_isinstance (pa_cons (pv 1) (pa_cons (pe_bltn (v := .ty "list") rfl T.n_list PyProof.Rows.boot_list rfl) pa_nil))))) pss_never pss_nil)
    (pss_one (ps_for PassesOwn.never rfl (pi_enum (by rfl) T.n_enumerate (pa_cons (pv 1) pa_nil)) (pg_tup rfl (pgs_cons (pg_name (i := 4) sc_check_program.nd rfl (Or.inl rfl)) (pgs_cons (pg_name (i := 5) sc_check_program.nd rfl (Or.inl rfl)) pgs_nil)))
      (pss_one (ps_if (PW.pt (pw_or (pt_cmpR op_eq (pv 4) (pv 3) (nomark _)) (pw_or1 (pt_not (pt_val (pe_dn D_is_deed hr (by omega) pass0 (pa_cons (pv 5) (pa_cons (pv 2) pa_nil)))))))) pss_never pss_nil))))), ?_⟩
  refine q_when (b := false) (et_is (et_not (a := true) (et_B (by walk_at "ev"))) rfl) (fun z => nomatch z) (fun _ H1 f1 => ?_)
  have g1 := ex_l f1 h1
  refine ⟨_, rfl, p, us, rfl, g1, for_it walk_enum (fun _ σ' H' => ∃ v w, σ' = [some door, some (.ref p), some (.int n), some (.int m), v, w] ∧ Ex H H') ⟨none, none, rfl, f1⟩ (fun i σ' H' _ ⟨_, _, _, e⟩ => ex_l e h1) ?_ ?_⟩
  · rintro i x σ' H' H2 hi ⟨v, w, rfl, e⟩ ⟨q, a, b, rfl, hq, rfl, ha, hb⟩
    cases ha
    obtain ⟨d, hd, dv⟩ := h2.get hb
    have e2 := e.trans (Ex.new (o := .tup [.int (i : Int), b]) hq)
    refine ⟨q, _, rfl, SqT.of upd_same, rfl, _, _, rfl, _, _, rfl, rfl, ?_⟩
    have c := sp_is_deed_v (dv.mono e2) (h4 d (List.mem_of_getElem? hd))
    refine s_when (b := false) (et_is (et_or (a := false) (b := false) (et_is (et_test (ev_op (ev_var (v := .int (i : Int)) rfl) (ev_var (v := .int (m : Int)) rfl) (rv_eq rfl))) (decide_eq_false fun z => ?_)) (fun _ => et_is (et_not (et_B (ev_call (ea_cons (ev_var (v := b) rfl) (ea_cons (by walk_at "ev") ea_nil)) c))) rfl)) rfl) (fun z => nomatch z) (fun _ H3 f3 => ⟨_, _, rfl, e2.trans f3⟩)
    have := V.int.inj z
    have := h2.length
    omega
  · rintro σ' H' ⟨v, w, rfl, e⟩
    exact k H' e

def sp_check_programs (K : PySem.W.Frag) : Sp := spF 4 fun vs H v => ∃ (p q : Addr) (n m : Nat) (us ws : List V) (ds es : List Deed), vs = [.ref p, .ref q, .int n, .int m] ∧ SqL K H p us ∧ PV K H us ds ∧ ds.length ≤ m ∧ (∀ d ∈ ds, d.ok n) ∧
  SqL K H q ws ∧ PV K H ws es ∧ es.length ≤ m ∧ (∀ d ∈ es, d.ok n) ∧ v = .non
theorem sp_check_programs_v {H : Hp} {p q : Addr} {n m : Nat} {us ws : List V} {ds es : List Deed} (h1 : SqL K H p us) (h2 : PV K H us ds) (h3 : ds.length ≤ m) (h4 : ∀ d ∈ ds, d.ok n) (h5 : SqL K H q ws) (h6 : PV K H ws es) (h7 : es.length ≤ m) (h8 : ∀ d ∈ es, d.ok n) :
    SpV (sp_check_programs K) [.ref p, .ref q, .int n, .int m] H .non := spF_v rfl fun _ f => ⟨p, q, n, m, us, ws, ds, es, rfl, ex_l f h1, h2.mono f, h3, h4, ex_l f h5, h6.mono f, h7, h8, rfl⟩
theorem o_check_programs (D_check_program : Dn P w K mg base CX0 "check_program" ["door", "program", "cells", "most"] 4 (sp_check_program K)) {f : Addr} {fd : FuncData} (F : FunD K "check_programs" "check_programs" (defArgs s_check_programs) (defBody s_check_programs) (defScope s_check_programs) [.int 40] [] f fd) :
    FnOk P w K mg base CX0 5 f fd ["left", "right", "cells", "most"] (sp_check_programs K) := by
  refine FunD.ok0 F sc_check_programs (fun vs H Q E h => h.1) (fun cdv A outer s H vs Q E hr h => ?_)
  obtain ⟨_, v, ⟨p, q, n, m, us, ws, ds, es, rfl, h1, h2, h3, h4, h5, h6, h7, h8, rfl⟩, k⟩ := h
  refine ⟨_, (pss_cons (ps_expr (pe_dn D_check_program hr (by omega) pass0 (pa_cons pe_int (pa_cons (pv 0) (pa_cons (pv 2) (pa_cons (pv 3) pa_nil))))))
    (pss_one (ps_expr (pe_dn D_check_program hr (by omega) pass0 (pa_cons pe_int (pa_cons (pv 1) (pa_cons (pv 2) (pa_cons (pv 3) pa_nil)))))))), ?_⟩
  have c := sp_check_program_v (door := .int 0) h1 h2 h3 h4
  refine q_drop (v := .non) (by walk_at "ev") fun H1 f1 => ?_
  have c := sp_check_program_v (door := .int 1) (ex_l f1 h5) (h6.mono f1) h7 h8
  exact s_drop (v := .non) (by walk_at "ev") fun H2 f2 => k H2 (f1.trans f2)
/-- with at most forty deeds, not written -/
theorem d_check_programs (D_check_program : Dn P w K mg base CX0 "check_program" ["door", "program", "cells", "most"] 4 (sp_check_program K)) (h : HasD K mg "check_programs" s_check_programs [.int 40]) : Dq P w K mg base CX0 "check_programs" ["left", "right", "cells", "most"] [.int 40] 5 (sp_check_programs K) :=
  dq_of (dvs := [.int 40]) 3 0 h (by simp) rfl (fun T kV doc pm an cdv ct us its h1 h2 => match us, h1, its, h2 with | [_, _, _], _, [_], _ => ⟨_, rfl, rfl⟩) fun f fd F => o_check_programs D_check_program F
/-- with so many deeds, written -/
theorem d_check_programs4 (D_check_program : Dn P w K mg base CX0 "check_program" ["door", "program", "cells", "most"] 4 (sp_check_program K)) (h : HasD K mg "check_programs" s_check_programs [.int 40]) : Dq P w K mg base CX0 "check_programs" ["left", "right", "cells", "most"] [] 5 (sp_check_programs K) :=
  dq_of (dvs := [.int 40]) 4 1 h (by simp) rfl (fun T kV doc pm an cdv ct us its h1 h2 => match us, h1, its, h2 with | [_, _, _, _], _, [_], _ => ⟨_, rfl, rfl⟩) fun f fd F => o_check_programs D_check_program F

def sp_clash (K : PySem.W.Frag) : Sp := spF 2 fun vs H v => ∃ a b d e, vs = [a, b] ∧ DV K H a d ∧ DV K H b e ∧ v = .bl (clashD d e)
theorem sp_clash_v {H : Hp} {a b : V} {d e : Deed} (h1 : DV K H a d) (h2 : DV K H b e) : SpV (sp_clash K) [a, b] H (.bl (clashD d e)) := spF_v rfl fun _ f => ⟨a, b, d, e, rfl, h1.mono f, h2.mono f, rfl⟩
theorem d_clash {aREST aWORTHS : Addr} {t4 t40 : Tok} (G : TxP K mg aREST aWORTHS t4 t40) (h : Has K mg "clash" s_clash) : Dn P w K mg base CX0 "clash" ["deed", "other"] 1 (sp_clash K) := by
  refine dn_of h (fun f fd F => F.binds fun _ _ _ _ _ _ us hl => match us, hl with | [_, _], _ => rfl) fun f fd F _ => F.ok sc_clash (fun vs H Q E h => h.1) (fun cdv A outer s H vs Q E hr h => ?_)
  obtain ⟨_, v, ⟨_, _, d, e, rfl, ⟨a, rfl, h1⟩, ⟨b, rfl, h2⟩, rfl⟩, k⟩ := h
  refine ⟨_, (pss_cons (ps_if (PW.pt (pw_or (pt_cmpR (op_eqDK K rfl hr.units) (pv 0) (pe_glob (v := .ref aREST) rfl G.g_REST rfl) (nomark _)) (pw_or1 (pt_cmpR (op_eqDK K rfl hr.units) (pv 1) (pe_glob (v := .ref aREST) rfl G.g_REST rfl) (nomark _))))) (pss_one (ps_ret pe_bl)) pss_nil)
    (pss_one (ps_ret (pe_and (pe_cmpR op_eq (pe_ix (ix_tupK K) (pv 0) pe_int (fun _ _ => rfl)) (pe_ix (ix_tupK K) (pv 1) pe_int (fun _ _ => rfl)) (nomark _)) (pe_one (pe_or (pe_cmpR op_eq (pe_ix (ix_tupK K) (pv 0) pe_int (fun _ _ => rfl)) pe_str (nomark _)) (pe_one (pe_cmpR op_eq (pe_ix (ix_tupK K) (pv 1) pe_int (fun _ _ => rfl)) pe_str (nomark _))))))))), ?_⟩
  refine q_when (b := decide (d = .rs) || decide (e = .rs)) (et_or (et_is (et_test (ev_op (by walk_at "ev") (by walk_at "ev") (rv_eqD (n := 1) (m := 1) (DV.dp ⟨a, rfl, h1⟩) (DV.dp (d := .rs) ⟨_, rfl, G.REST _⟩) (Deed.sh _) (Deed.sh _) (by decide) (by decide)))) (Deed.eqv_rs d))
    (fun _ => et_is (et_test (ev_op (by walk_at "ev") (by walk_at "ev") (rv_eqD (n := 1) (m := 1) (DV.dp ⟨b, rfl, h2⟩) (DV.dp (d := .rs) ⟨_, rfl, G.REST _⟩) (Deed.sh _) (Deed.sh _) (by decide) (by decide)))) (Deed.eqv_rs e))) (fun hb H1 f1 => ?_) (fun hb H1 f1 => ?_)
  · have hc : clashD d e = false := by
      cases d <;> cases e <;> first | rfl | (simp at hb)
    exact s_ret (v := .bl (clashD d e)) (by rw [hc]; exact ev_c) fun H2 f2 => k H2 (f1.trans f2)
  · obtain ⟨hd, he⟩ : d ≠ .rs ∧ e ≠ .rs := by
      rw [Bool.or_eq_false_iff] at hb
      exact ⟨of_decide_eq_false hb.1, of_decide_eq_false hb.2⟩
    have g1 := ex_t f1 h1
    have g2 := ex_t f1 h2
    obtain ⟨c1, hc1⟩ : ∃ c, d.cell = some c := by cases d <;> first | exact ⟨_, rfl⟩ | exact absurd rfl hd
    obtain ⟨c2, hc2⟩ : ∃ c, e.cell = some c := by cases e <;> first | exact ⟨_, rfl⟩ | exact absurd rfl he
    have i1 : atI d.vals 1 = some (.int (c1 : Int)) := by cases d <;> cases hc1 <;> rfl
    have i2 : atI e.vals 1 = some (.int (c2 : Int)) := by cases e <;> cases hc2 <;> rfl
    have i4 : clashD d e = (decide (c1 = c2) && (d.isW || e.isW)) := by unfold clashD; rw [hc1, hc2]
    have w1 : decide (V.str d.tag = V.str "write") = d.isW := by
      cases d with
      | rs => exact absurd rfl hd
      | rd c => show decide (V.str "read" = V.str "write") = false; decide +kernel
      | wr c w => show decide (V.str "write" = V.str "write") = true; decide +kernel
    have w2 : decide (V.str e.tag = V.str "write") = e.isW := by
      cases e with
      | rs => exact absurd rfl he
      | rd c => show decide (V.str "read" = V.str "write") = false; decide +kernel
      | wr c w => show decide (V.str "write" = V.str "write") = true; decide +kernel
    have q : decide (V.int (c1 : Int) = V.int (c2 : Int)) = decide (c1 = c2) := decide_eq_decide.mpr ⟨fun z => by have := V.int.inj z; omega, fun z => by rw [z]⟩
    exact s_ret (v := .bl (clashD d e)) (ev_is (ev_andV (a := decide (V.int (c1 : Int) = V.int (c2 : Int))) (b := decide (V.str d.tag = V.str "write") || decide (V.str e.tag = V.str "write")) (ev_op (ev_op (by walk_at "ev") (by walk_at "ev") (rv_ixT g1 i1)) (ev_op (by walk_at "ev") (by walk_at "ev") (rv_ixT g2 i2)) (rv_eq rfl))
      (fun _ => ev_orV (ev_op (ev_op (by walk_at "ev") (by walk_at "ev") (DV.tag g1)) (by walk_at "ev") (rv_eq rfl)) (fun _ => ev_op (ev_op (by walk_at "ev") (by walk_at "ev") (DV.tag g2)) (by walk_at "ev") (rv_eq rfl)))) (by rw [i4, w1, w2, q])) fun H2 f2 => k H2 (f1.trans f2)

def sp_read_cell (K : PySem.W.Frag) : Sp := fun vs H Q _ => ∃ (w s : Addr) (a : V) (ws ss : List Nat) (d : Deed), vs = [.ref w, a, .ref s] ∧ H w = some (.lst (ws.map wV)) ∧ H s = some (.lst (ss.map wV)) ∧ DV K H a d ∧ d.ok ws.length ∧ ss.length ≤ 1000 ∧
  ∀ H', Bt [s] H H' → H' s = some (.lst ((ss ++ rdl ws d).map wV)) → Q .non H'
theorem d_read_cell (h : Has K mg "read_cell" s_read_cell) : Dn P w K mg base CX0 "read_cell" ["worths", "deed", "seen"] 1 (sp_read_cell K) := by
  refine dn_of h (fun f fd F => F.binds fun _ _ _ _ _ _ us hl => match us, hl with | [_, _, _], _ => rfl) fun f fd F _ => F.ok sc_read_cell (fun vs H Q E h => ?_) (fun cdv A outer s H vs Q E hr h => ?_)
  · obtain ⟨_, _, _, _, _, _, rfl, _⟩ := h
    rfl
  obtain ⟨w, s, _, ws, ss, d, rfl, hw, hs, ⟨a, rfl, h1⟩, ho, hz, k⟩ := h
  refine ⟨_, (pss_one (ps_if (pt_cmpR op_eq (pe_ix (ix_tupK K) (pv 1) pe_int (fun _ _ => rfl)) pe_str (nomark _)) (pss_one (ps_expr (pe_bm PySem.F.plainAttrs_list PySem.F.slot_list_append PySem.F.type_list_append mt_append (pv 2) (pa_cons (pe_ix (ix_listK K) (pv 0) (pe_ix (ix_tupK K) (pv 1) pe_int (fun _ _ => rfl)) (fun _ _ => rfl)) pa_nil)))) pss_nil)), ?_⟩
  refine s_when (b := decide (V.str d.tag = V.str "read")) (et_test (ev_op (ev_op (by walk_at "ev") (by walk_at "ev") (DV.tag h1)) (by walk_at "ev") (rv_eq rfl))) (fun hb H1 f1 => ?_) (fun hb H1 f1 => ?_)
  · cases d with
    | wr c x => exact absurd hb (by show ¬ decide (V.str "write" = V.str "read") = true; decide +kernel)
    | rs => exact absurd hb (by show ¬ decide (V.str "rest" = V.str "read") = true; decide +kernel)
    | rd c =>
      have g1 := ex_t f1 h1
      have gw := f1 _ _ hw
      have gs := f1 _ _ hs
      have hc : c < ws.length := ho
      have hx : (ws.map wV)[c]? = some (wV (ws.getD c 0)) := by rw [List.getElem?_map, List.getD_eq_getElem?_getD, List.getElem?_eq_getElem hc]; rfl
      refine s_app (l := s) (v := wV (ws.getD c 0)) gs (by walk_at "ev") (ev_op (by walk_at "ev") (ev_op (by walk_at "ev") (by walk_at "ev") (rv_ixT g1 rfl)) (rv_ixL (SqL.of gw) (atI_nat hx))) (by rw [List.length_map]; omega) fun H2 f2 => ?_
      refine k _ ((Bt.of_ex (f1.trans f2)).upd (.inl (by simp))) ?_
      rw [upd_same, List.map_append]
      rfl
  · refine k _ (Bt.of_ex f1) ?_
    cases d with
    | rd c => exact absurd hb (by show ¬ decide (V.str "read" = V.str "read") = false; decide +kernel)
    | wr c x => show H1 s = some (.lst ((ss ++ []).map wV)); rw [List.append_nil]; exact f1 _ _ hs
    | rs => show H1 s = some (.lst ((ss ++ []).map wV)); rw [List.append_nil]; exact f1 _ _ hs

def sp_write_cell (K : PySem.W.Frag) : Sp := fun vs H Q _ => ∃ (w : Addr) (a : V) (ws : List Nat) (d : Deed), vs = [.ref w, a] ∧ H w = some (.lst (ws.map wV)) ∧ DV K H a d ∧ d.ok ws.length ∧
  ∀ H', Bt [w] H H' → H' w = some (.lst ((wrl ws d).map wV)) → Q .non H'
theorem d_write_cell (h : Has K mg "write_cell" s_write_cell) : Dn P w K mg base CX0 "write_cell" ["worths", "deed"] 1 (sp_write_cell K) := by
  refine dn_of h (fun f fd F => F.binds fun _ _ _ _ _ _ us hl => match us, hl with | [_, _], _ => rfl) fun f fd F _ => F.ok sc_write_cell (fun vs H Q E h => ?_) (fun cdv A outer s H vs Q E hr h => ?_)
  · obtain ⟨_, _, _, _, rfl, _⟩ := h
    rfl
  obtain ⟨w, _, ws, d, rfl, hw, ⟨a, rfl, h1⟩, ho, k⟩ := h
  refine ⟨_, (pss_one (ps_if (pt_cmpR op_eq (pe_ix (ix_tupK K) (pv 1) pe_int (fun _ _ => rfl)) pe_str (nomark _)) (pss_one (ps_asg (pe_ix (ix_tupK K) (pv 1) pe_int (fun _ _ => rfl)) (pg_sub (pv 0) (pe_ix (ix_tupK K) (pv 1) pe_int (fun _ _ => rfl)) set_list))) pss_nil)), ?_⟩
  refine s_when (b := decide (V.str d.tag = V.str "write")) (et_test (ev_op (ev_op (by walk_at "ev") (by walk_at "ev") (DV.tag h1)) (by walk_at "ev") (rv_eq rfl))) (fun hb H1 f1 => ?_) (fun hb H1 f1 => ?_)
  · cases d with
    | rd c => exact absurd hb (by show ¬ decide (V.str "read" = V.str "write") = true; decide +kernel)
    | rs => exact absurd hb (by show ¬ decide (V.str "rest" = V.str "write") = true; decide +kernel)
    | wr c x =>
      have g1 := ex_t f1 h1
      have gw := f1 _ _ hw
      obtain ⟨hc, hx⟩ : c < ws.length ∧ x < 3 := ho
      refine s_setL (l := w) (v := wV x) (j := c) gw (ev_op (by walk_at "ev") (by walk_at "ev") (rv_ixT g1 rfl)) (by walk_at "ev") (ev_op (by walk_at "ev") (by walk_at "ev") (rv_ixT g1 rfl)) (by rw [List.length_map]; exact hc) fun H2 f2 => ?_
      refine k _ ((Bt.of_ex (f1.trans f2)).upd (.inl (by simp))) ?_
      rw [upd_same, wrl, List.map_set]
  · refine k _ (Bt.of_ex f1) ?_
    cases d with
    | wr c x => exact absurd hb (by show ¬ decide (V.str "write" = V.str "write") = false; decide +kernel)
    | rd c => exact f1 _ _ hw
    | rs => exact f1 _ _ hw

def sp_write_both (K : PySem.W.Frag) : Sp := fun vs H Q _ => ∃ (w : Addr) (a b : V) (ws : List Nat) (d e : Deed), vs = [.ref w, a, b] ∧ H w = some (.lst (ws.map wV)) ∧ DV K H a d ∧ DV K H b e ∧ d.ok ws.length ∧ e.ok ws.length ∧
  ∀ H', Bt [w] H H' → H' w = some (.lst ((wrl (wrl ws e) d).map wV)) → Q .non H'
theorem d_write_both (D_write_cell : Dn P w K mg base CX0 "write_cell" ["worths", "deed"] 1 (sp_write_cell K)) (h : Has K mg "write_both" s_write_both) : Dn P w K mg base CX0 "write_both" ["worths", "deed", "other"] 2 (sp_write_both K) := by
  refine dn_of h (fun f fd F => F.binds fun _ _ _ _ _ _ us hl => match us, hl with | [_, _, _], _ => rfl) fun f fd F _ => F.ok sc_write_both (fun vs H Q E h => ?_) (fun cdv A outer s H vs Q E hr h => ?_)
  · obtain ⟨_, _, _, _, _, _, rfl, _⟩ := h
    rfl
  obtain ⟨w, a, b, ws, d, e, rfl, hw, h1, h2, o1, o2, k⟩ := h
  refine ⟨_, (pss_cons (ps_expr (pe_dn D_write_cell hr (by omega) pass0 (pa_cons (pv 0) (pa_cons (pv 2) pa_nil))))
    (pss_one (ps_expr (pe_dn D_write_cell hr (by omega) pass0 (pa_cons (pv 0) (pa_cons (pv 1) pa_nil)))))), ?_⟩
  refine ⟨_, rfl, _, rfl, w, b, ws, e, rfl, hw, h2, o2, fun H1 b1 w1 => ?_⟩
  refine ⟨_, rfl, _, rfl, w, a, wrl ws e, d, rfl, w1, dv_buts b1 (by simp [hw]) h1, by rw [wrl_length]; exact o1, fun H2 b2 w2 => ?_⟩
  exact k H2 (b1.trans b2) w2

/-- a beat by a rule is done -/
def sp_step (K : PySem.W.Frag) (r : Rule) : Sp := fun vs H Q _ => ∃ (w s o : Addr) (a b : V) (ws ss os : List Nat) (d e : Deed), vs = [.ref w, a, b, .ref s, .ref o] ∧ H w = some (.lst (ws.map wV)) ∧ H s = some (.lst (ss.map wV)) ∧ H o = some (.lst (os.map wV)) ∧
  w ≠ s ∧ w ≠ o ∧ s ≠ o ∧ DV K H a d ∧ DV K H b e ∧ d.ok ws.length ∧ e.ok ws.length ∧ ss.length ≤ 1000 ∧ os.length ≤ 1000 ∧
  ∀ H', Bt [w, s, o] H H' → H' w = some (.lst ((beat r ws d e).1.map wV)) → H' s = some (.lst ((ss ++ (beat r ws d e).2.1).map wV)) → H' o = some (.lst ((os ++ (beat r ws d e).2.2).map wV)) → Q .non H'

theorem d_step_old (D_read_cell : Dn P w K mg base CX0 "read_cell" ["worths", "deed", "seen"] 1 (sp_read_cell K)) (D_write_cell : Dn P w K mg base CX0 "write_cell" ["worths", "deed"] 1 (sp_write_cell K))
    (D_write_both : Dn P w K mg base CX0 "write_both" ["worths", "deed", "other"] 2 (sp_write_both K)) (h : Has K mg "step_old" s_step_old) : Dn P w K mg base CX0 "step_old" ["worths", "deed", "other", "seen", "others"] 3 (sp_step K .old) := by
  refine dn_of h (fun f fd F => F.binds fun _ _ _ _ _ _ us hl => match us, hl with | [_, _, _, _, _], _ => rfl) fun f fd F _ => F.ok sc_step_old (fun vs H Q E h => ?_) (fun cdv A outer s H vs Q E hr h => ?_)
  · obtain ⟨_, _, _, _, _, _, _, _, _, _, rfl, _⟩ := h
    rfl
  obtain ⟨w, s, o, a, b, ws, ss, os, d, e, rfl, hw, hs, ho, nws, nwo, nso, h1, h2, o1, o2, z1, z2, k⟩ := h
  refine ⟨_, (pss_cons (ps_expr (pe_dn D_read_cell hr (by omega) pass0 (pa_cons (pv 0) (pa_cons (pv 1) (pa_cons (pv 3) pa_nil)))))
    (pss_cons (ps_expr (pe_dn D_read_cell hr (by omega) pass0 (pa_cons (pv 0) (pa_cons (pv 2) (pa_cons (pv 4) pa_nil)))))
    (pss_one (ps_expr (pe_dn D_write_both hr (by omega) pass0 (pa_cons (pv 0) (pa_cons (pv 1) (pa_cons (pv 2) pa_nil)))))))), ?_⟩
  refine ⟨_, rfl, _, rfl, _, rfl, w, s, a, ws, ss, d, rfl, hw, hs, h1, o1, z1, fun H1 b1 s1 => ?_⟩
  have w1 := b1 w _ (by simp [nws]) hw
  have q1 := b1 o _ (by simp [nso.symm]) ho
  have d2 := dv_buts b1 (by simp [hs]) h2
  refine ⟨_, rfl, _, rfl, _, rfl, w, o, b, ws, os, e, rfl, w1, q1, d2, o2, z2, fun H2 b2 q2 => ?_⟩
  have w2 := b2 w _ (by simp [nwo]) w1
  have s2 := b2 s _ (by simp [nso]) s1
  refine ⟨_, rfl, _, rfl, _, rfl, w, a, b, ws, d, e, rfl, w2, dv_buts b2 (by simp [q1]) (dv_buts b1 (by simp [hs]) h1), dv_buts b2 (by simp [q1]) d2, o1, o2, fun H3 b3 w3 => ?_⟩
  exact k H3 (((b1.mono (by simp)).trans (b2.mono (by simp))).trans (b3.mono (by simp))) w3 (b3 s _ (by simp [nws.symm]) s2) (b3 o _ (by simp [nwo.symm]) q2)

theorem d_step_new (D_read_cell : Dn P w K mg base CX0 "read_cell" ["worths", "deed", "seen"] 1 (sp_read_cell K)) (D_write_cell : Dn P w K mg base CX0 "write_cell" ["worths", "deed"] 1 (sp_write_cell K))
    (D_write_both : Dn P w K mg base CX0 "write_both" ["worths", "deed", "other"] 2 (sp_write_both K)) (h : Has K mg "step_new" s_step_new) : Dn P w K mg base CX0 "step_new" ["worths", "deed", "other", "seen", "others"] 3 (sp_step K .new) := by
  refine dn_of h (fun f fd F => F.binds fun _ _ _ _ _ _ us hl => match us, hl with | [_, _, _, _, _], _ => rfl) fun f fd F _ => F.ok sc_step_new (fun vs H Q E h => ?_) (fun cdv A outer s H vs Q E hr h => ?_)
  · obtain ⟨_, _, _, _, _, _, _, _, _, _, rfl, _⟩ := h
    rfl
  obtain ⟨w, s, o, a, b, ws, ss, os, d, e, rfl, hw, hs, ho, nws, nwo, nso, h1, h2, o1, o2, z1, z2, k⟩ := h
  refine ⟨_, (pss_cons (ps_expr (pe_dn D_write_both hr (by omega) pass0 (pa_cons (pv 0) (pa_cons (pv 1) (pa_cons (pv 2) pa_nil)))))
    (pss_cons (ps_expr (pe_dn D_read_cell hr (by omega) pass0 (pa_cons (pv 0) (pa_cons (pv 1) (pa_cons (pv 3) pa_nil)))))
    (pss_one (ps_expr (pe_dn D_read_cell hr (by omega) pass0 (pa_cons (pv 0) (pa_cons (pv 2) (pa_cons (pv 4) pa_nil)))))))), ?_⟩
  refine ⟨_, rfl, _, rfl, _, rfl, w, a, b, ws, d, e, rfl, hw, h1, h2, o1, o2, fun H1 b1 w1 => ?_⟩
  have s1 := b1 s _ (by simp [nws.symm]) hs
  have q1 := b1 o _ (by simp [nwo.symm]) ho
  have d1 := dv_buts b1 (by simp [hw]) h1
  have d2 := dv_buts b1 (by simp [hw]) h2
  refine ⟨_, rfl, _, rfl, _, rfl, w, s, a, _, ss, d, rfl, w1, s1, d1, by rw [wrl_length, wrl_length]; exact o1, z1, fun H2 b2 s2 => ?_⟩
  have w2 := b2 w _ (by simp [nws]) w1
  have q2 := b2 o _ (by simp [nso.symm]) q1
  refine ⟨_, rfl, _, rfl, _, rfl, w, o, b, _, os, e, rfl, w2, q2, dv_buts b2 (by simp [s1]) d2, by rw [wrl_length, wrl_length]; exact o2, z2, fun H3 b3 q3 => ?_⟩
  exact k H3 (((b1.mono (by simp)).trans (b2.mono (by simp))).trans (b3.mono (by simp))) (b3 w _ (by simp [nwo]) w2) (b3 s _ (by simp [nso]) s2) q3

theorem d_step_left (D_read_cell : Dn P w K mg base CX0 "read_cell" ["worths", "deed", "seen"] 1 (sp_read_cell K)) (D_write_cell : Dn P w K mg base CX0 "write_cell" ["worths", "deed"] 1 (sp_write_cell K))
    (D_write_both : Dn P w K mg base CX0 "write_both" ["worths", "deed", "other"] 2 (sp_write_both K)) (h : Has K mg "step_left" s_step_left) : Dn P w K mg base CX0 "step_left" ["worths", "deed", "other", "seen", "others"] 3 (sp_step K .left) := by
  refine dn_of h (fun f fd F => F.binds fun _ _ _ _ _ _ us hl => match us, hl with | [_, _, _, _, _], _ => rfl) fun f fd F _ => F.ok sc_step_left (fun vs H Q E h => ?_) (fun cdv A outer s H vs Q E hr h => ?_)
  · obtain ⟨_, _, _, _, _, _, _, _, _, _, rfl, _⟩ := h
    rfl
  obtain ⟨w, s, o, a, b, ws, ss, os, d, e, rfl, hw, hs, ho, nws, nwo, nso, h1, h2, o1, o2, z1, z2, k⟩ := h
  refine ⟨_, (pss_cons (ps_expr (pe_dn D_read_cell hr (by omega) pass0 (pa_cons (pv 0) (pa_cons (pv 1) (pa_cons (pv 3) pa_nil)))))
    (pss_cons (ps_expr (pe_dn D_write_cell hr (by omega) pass0 (pa_cons (pv 0) (pa_cons (pv 1) pa_nil))))
    (pss_cons (ps_expr (pe_dn D_read_cell hr (by omega) pass0 (pa_cons (pv 0) (pa_cons (pv 2) (pa_cons (pv 4) pa_nil)))))
    (pss_one (ps_expr (pe_dn D_write_cell hr (by omega) pass0 (pa_cons (pv 0) (pa_cons (pv 2) pa_nil)))))))), ?_⟩
  refine ⟨_, rfl, _, rfl, _, rfl, w, s, a, ws, ss, d, rfl, hw, hs, h1, o1, z1, fun H1 b1 s1 => ?_⟩
  have w1 := b1 w _ (by simp [nws]) hw
  have q1 := b1 o _ (by simp [nso.symm]) ho
  have e1 := dv_buts b1 (by simp [hs]) h1
  have e2 := dv_buts b1 (by simp [hs]) h2
  refine ⟨_, rfl, _, rfl, w, a, ws, d, rfl, w1, e1, o1, fun H2 b2 w2 => ?_⟩
  have s2 := b2 s _ (by simp [nws.symm]) s1
  have q2 := b2 o _ (by simp [nwo.symm]) q1
  have f2 := dv_buts b2 (by simp [w1]) e2
  refine ⟨_, rfl, _, rfl, _, rfl, w, o, b, _, os, e, rfl, w2, q2, f2, by rw [wrl_length]; exact o2, z2, fun H3 b3 q3 => ?_⟩
  have w3 := b3 w _ (by simp [nwo]) w2
  have s3 := b3 s _ (by simp [nso]) s2
  refine ⟨_, rfl, _, rfl, w, b, _, e, rfl, w3, dv_buts b3 (by simp [q2]) f2, by rw [wrl_length]; exact o2, fun H4 b4 w4 => ?_⟩
  exact k H4 ((((b1.mono (by simp)).trans (b2.mono (by simp))).trans (b3.mono (by simp))).trans (b4.mono (by simp))) w4 (b4 s _ (by simp [nws.symm]) s3) (b4 o _ (by simp [nwo.symm]) q3)

theorem d_step_right (D_step_left : Dn P w K mg base CX0 "step_left" ["worths", "deed", "other", "seen", "others"] 3 (sp_step K .left)) (h : Has K mg "step_right" s_step_right) : Dn P w K mg base CX0 "step_right" ["worths", "deed", "other", "seen", "others"] 4 (sp_step K .right) := by
  refine dn_of h (fun f fd F => F.binds fun _ _ _ _ _ _ us hl => match us, hl with | [_, _, _, _, _], _ => rfl) fun f fd F _ => F.ok sc_step_right (fun vs H Q E h => ?_) (fun cdv A outer s H vs Q E hr h => ?_)
  · obtain ⟨_, _, _, _, _, _, _, _, _, _, rfl, _⟩ := h
    rfl
  obtain ⟨w, s, o, a, b, ws, ss, os, d, e, rfl, hw, hs, ho, nws, nwo, nso, h1, h2, o1, o2, z1, z2, k⟩ := h
  refine ⟨_, (pss_one (ps_expr (pe_dn D_step_left hr (by omega) pass0 (pa_cons (pv 0) (pa_cons (pv 2) (pa_cons (pv 1) (pa_cons (pv 4) (pa_cons (pv 3) pa_nil)))))))), ?_⟩
  refine ⟨_, rfl, _, rfl, _, rfl, _, rfl, _, rfl, w, o, s, b, a, ws, os, ss, e, d, rfl, hw, ho, hs, nwo, nws, nso.symm, h2, h1, o2, o1, z2, z1, fun H1 b1 w1 q1 s1 => ?_⟩
  exact k H1 (b1.mono (by simp)) w1 s1 q1

def sp_check_rule : Sp := spF 1 fun vs _ v => ∃ r : Rule, vs = [.str r.name] ∧ v = .non
theorem sp_check_rule_v {H : Hp} {r : Rule} : SpV sp_check_rule [.str r.name] H .non := spF_v rfl fun _ _ => ⟨r, rfl, rfl⟩
theorem d_check_rule {aRULES aSTEPS : Addr} (R : TxR K mg w aRULES aSTEPS) (h : Has K mg "check_rule" s_check_rule) : Dn P w K mg base CX0 "check_rule" ["rule"] 1 sp_check_rule := by
  refine dn_of h (fun f fd F => F.binds fun _ _ _ _ _ _ us hl => match us, hl with | [_], _ => rfl) fun f fd F _ => F.ok sc_check_rule (fun vs H Q E h => h.1) (fun cdv A outer s H vs Q E hr h => ?_)
  obtain ⟨_, v, ⟨r, rfl, rfl⟩, k⟩ := h
  refine ⟨_, (pss_one (ps_if (pt_cmpR (op_notIn_seqK K) (pv 0) (pe_glob (v := .ref aRULES) rfl R.g_RULES rfl) (by rfl)) pss_never pss_nil)), ?_⟩
  refine s_if (b := false) (et_test (ev_is (ev_op (by walk_at "ev") (by walk_at "ev") (rv_niT (R.RULES H) rfl (by decide +kernel))) (by rw [in_rules]; rfl))) (fun z => nomatch z) (fun _ H1 f1 => k H1 f1)

def sp_due (K : PySem.W.Frag) : Sp := fun vs H Q _ => ∃ (p : Addr) (us : List V) (ds : List Deed) (i : Nat), vs = [.ref p, .int i] ∧ SqL K H p us ∧ PV K H us ds ∧ ∀ (v : V) (H' : Hp), Ex H H' → DV K H' v (ds.getD i .rs) → Q v H'
theorem d_due {aREST aWORTHS : Addr} {t4 t40 : Tok} (T : Nb mg) (G : TxP K mg aREST aWORTHS t4 t40) (h : Has K mg "due" s_due) : Dn P w K mg base CX0 "due" ["program", "place"] 1 (sp_due K) := by
  refine dn_of h (fun f fd F => F.binds fun _ _ _ _ _ _ us hl => match us, hl with | [_, _], _ => rfl) fun f fd F _ => F.ok sc_due (fun vs H Q E h => ?_) (fun cdv A outer s H vs Q E hr h => ?_)
  · obtain ⟨_, _, _, _, rfl, _⟩ := h
    rfl
  obtain ⟨p, us, ds, i, rfl, h1, h2, k⟩ := h
  refine ⟨_, (pss_cons (ps_if (pt_cmpR op_lt (pv 1) (pe_callB (call_len_seqK K) (by rfl) T.n_len PySem.boot_len (pa_cons (pv 0) pa_nil)) (nomark _)) (pss_one (ps_ret (pe_ix (ix_listK K) (pv 0) (pv 1) (fun _ _ => rfl)))) pss_nil)
    (pss_one (ps_ret (pe_glob (v := .ref aREST) rfl G.g_REST rfl)))), ?_⟩
  have hl := h2.length
  refine q_when (b := decide ((i : Int) < (us.length : Int))) (et_test (by walk_at "ev")) (fun hb H1 f1 => ?_) (fun hb H1 f1 => ?_)
  · have hi : i < us.length := by have := of_decide_eq_true hb; omega
    obtain ⟨d, hd, dv⟩ := h2.get (List.getElem?_eq_getElem hi)
    refine s_ret (v := us[i]) (ev_op (by walk_at "ev") (by walk_at "ev") (rv_ixL (ex_l f1 h1) (atI_nat (List.getElem?_eq_getElem hi)))) fun H2 f2 => k _ H2 (f1.trans f2) ?_
    rw [List.getD_eq_getElem?_getD, hd]
    exact dv.mono (f1.trans f2)
  · have hi : ¬ i < us.length := by have := of_decide_eq_false hb; omega
    refine s_ret (v := .ref aREST) (by walk_at "ev") fun H2 f2 => k _ H2 (f1.trans f2) ?_
    rw [List.getD_eq_getElem?_getD, List.getElem?_eq_none_iff.mpr (by omega)]
    exact ⟨aREST, rfl, G.REST _⟩

/-- what run tells: two new lists, a new tuple, a number -/
def Told (K : PySem.W.Frag) (H H' : Hp) (v : V) (S : Sts) : Prop := ∃ t s o m : Addr, v = .ref t ∧ H' t = some (.tup [.ref s, .ref o, .ref m, .int S.n]) ∧ H' s = some (.lst (S.ss.map wV)) ∧ H' o = some (.lst (S.os.map wV)) ∧ SqT K H' m (S.ws.map wV) ∧
  H s = none ∧ H o = none ∧ s ≠ o ∧ Ex H H'
theorem Told.back {K : PySem.W.Frag} {H0 H H' : Hp} {v : V} {S : Sts} (f : Ex H0 H) (h : Told K H H' v S) : Told K H0 H' v S := by
  obtain ⟨t, s, o, m, a1, a2, a3, a4, a5, a6, a7, a8, a9⟩ := h
  exact ⟨t, s, o, m, a1, a2, a3, a4, a5, fresh_back f a6, fresh_back f a7, a8, f.trans a9⟩
def sp_play (K : PySem.W.Frag) : Sp := fun vs H Q _ => ∃ (r : Rule) (m p q : Addr) (ws : List Nat) (us xs : List V) (ds es : List Deed), vs = [.str r.name, .ref m, .ref p, .ref q] ∧ SqT K H m (ws.map wV) ∧ (∀ x ∈ ws, x < 3) ∧ SqL K H p us ∧ PV K H us ds ∧ ds.length ≤ 40 ∧ (∀ d ∈ ds, d.ok ws.length) ∧
  SqL K H q xs ∧ PV K H xs es ∧ es.length ≤ 40 ∧ (∀ d ∈ es, d.ok ws.length) ∧ ∀ (v : V) (H' : Hp), Told K H H' v (out r (begin0 ws ds es)) → Q v H'
theorem d_play {aREST aWORTHS : Addr} {t4 t40 : Tok} {aRULES aSTEPS : Addr} (T : Nb mg) (G : TxP K mg aREST aWORTHS t4 t40) (R : TxR K mg w aRULES aSTEPS) (D_due : Dn P w K mg base CX0 "due" ["program", "place"] 1 (sp_due K)) (D_clash : Dn P w K mg base CX0 "clash" ["deed", "other"] 1 (sp_clash K))
    (D_old : Dn P w K mg base CX0 "step_old" ["worths", "deed", "other", "seen", "others"] 3 (sp_step K .old)) (D_new : Dn P w K mg base CX0 "step_new" ["worths", "deed", "other", "seen", "others"] 3 (sp_step K .new))
    (D_left : Dn P w K mg base CX0 "step_left" ["worths", "deed", "other", "seen", "others"] 3 (sp_step K .left)) (D_right : Dn P w K mg base CX0 "step_right" ["worths", "deed", "other", "seen", "others"] 4 (sp_step K .right))
    (h : Has K mg "play" s_play) : Dn P w K mg base CX0 "play" ["rule", "memory", "left", "right"] 5 (sp_play K) := by
  refine dn_of h (fun f fd F => F.binds fun _ _ _ _ _ _ us hl => match us, hl with | [_, _, _, _], _ => rfl) fun f fd F _ => F.ok sc_play (fun vs H Q E h => ?_) (fun cdv A outer s H vs Q E hr h => ?_)
  · obtain ⟨_, _, _, _, _, _, _, _, _, rfl, _⟩ := h
    rfl
  obtain ⟨r, m, p, q, ws, us, xs, ds, es, rfl, hm, hw3, hp, hP, hl40, hok1, hq, hX, hr40, hok2, k⟩ := h
  have D_step : Dn P w K mg base CX0 r.step ["worths", "deed", "other", "seen", "others"] 4 (sp_step K (if r = .wait then .left else r)) := by
    cases r with
    | old => exact D_old.up (by omega)
    | new => exact D_new.up (by omega)
    | left => exact D_left.up (by omega)
    | right => exact D_right
    | wait => exact D_left.up (by omega)
  obtain ⟨fs, ms, kd⟩ := R.STEPS r
  obtain ⟨fs', fds, F_step, ms', k_step, b_step⟩ := D_step.ex
  have efs : fs' = fs := by
    have z := ms'.symm.trans ms
    injection z with z
    injection z
  subst efs
  refine ⟨_, (pss_cons (ps_set (i := 4) sc_play.nd rfl (Or.inl rfl) (pe_ix ix_kdict (pe_glob (v := .ref aSTEPS) rfl R.g_STEPS rfl) (pv 0) (fun _ _ => rfl)))
    (pss_cons (ps_set (i := 5) sc_play.nd rfl (Or.inl rfl) (pe_callTy (call_list_ofK K) (by rfl) T.n_list PyProof.Rows.boot_list (pa_cons (pv 1) pa_nil)))
    (pss_cons (ps_set (i := 6) sc_play.nd rfl (Or.inl rfl) (pe_lst pa_nil))
    (pss_cons (ps_set (i := 7) sc_play.nd rfl (Or.inl rfl) (pe_lst pa_nil))
    (pss_cons (ps_set (i := 8) sc_play.nd rfl (Or.inl rfl) pe_int)
    (pss_cons (ps_set (i := 9) sc_play.nd rfl (Or.inl rfl) pe_int)
    (pss_cons (ps_while PassesOwn.never (PW.pt (pw_or (pt_cmpR op_lt (pv 8) (pe_callB (call_len_seqK K) (by rfl) T.n_len PySem.boot_len (pa_cons (pv 2) pa_nil)) (nomark _)) (pw_or1 (pt_cmpR op_lt (pv 9) (pe_callB (call_len_seqK K) (by rfl) T.n_len PySem.boot_len (pa_cons (pv 3) pa_nil)) (nomark _)))))
      (pss_cons (ps_set (i := 10) sc_play.nd rfl (Or.inl rfl) (pe_dn D_due hr (by omega) pass0 (pa_cons (pv 2) (pa_cons (pv 8) pa_nil))))
      (pss_cons (ps_set (i := 11) sc_play.nd rfl (Or.inl rfl) (pe_dn D_due hr (by omega) pass0 (pa_cons (pv 3) (pa_cons (pv 9) pa_nil))))
      (pss_cons (ps_if (PW.pt (pw_and (pt_cmpR op_eq (pv 0) pe_str (nomark _)) (pw_and1 (pt_val (pe_dn D_clash hr (by omega) pass0 (pa_cons (pv 10) (pa_cons (pv 11) pa_nil))))))) (pss_one (ps_set (i := 11) sc_play.nd rfl (Or.inl rfl) (pe_glob (v := .ref aREST) rfl G.g_REST rfl))) (pss_one (ps_aug (i := 9) sc_play.nd rfl (Or.inl rfl) pe_int ip_add)))
      (pss_cons (ps_expr (pe_callL (i := 4) F_step (hr.mono (by omega)) rfl (Or.inl rfl) k_step b_step .nil pass0 (pa_cons (pv 5) (pa_cons (pv 10) (pa_cons (pv 11) (pa_cons (pv 6) (pa_cons (pv 7) pa_nil)))))))
      (pss_one (ps_aug (i := 8) sc_play.nd rfl (Or.inl rfl) pe_int ip_add)))))))
    (pss_one (ps_ret (pe_tup (pa_cons (pv 6) (pa_cons (pv 7) (pa_cons (pe_callTy call_tuple_of (by rfl) T.n_tuple PyProof.Rows.boot_tuple (pa_cons (pv 5) pa_nil)) (pa_cons (pv 8) pa_nil)))))))))))))), ?_⟩
  have hPl := hP.length
  have hXl := hX.length
  refine q_asg (v := .ref fs') (ev_op (by walk_at "ev") (by walk_at "ev") (rv_val fun H1 f1 Q q => ⟨_, _, _, rfl, rfl, kd, q⟩)) fun H1 f1 => ?_
  refine q_asgL (xs := ws.map wV) (fun H2 f2 Q q => ⟨_, rfl, m, _, rfl, .inr (ex_t (f1.trans f2) hm), fun l hl => q l _ hl (Ex.new hl) upd_same⟩) fun w' H2 nw f2 hw => ?_
  refine q_asgL (xs := []) (el_lst ea_nil (by decide)) fun s' H3 ns f3 hs => ?_
  refine q_asgL (xs := []) (el_lst ea_nil (by decide)) fun o' H4 no f4 ho => ?_
  refine q_asg (v := .int 0) (by walk_at "ev") fun H5 f5 => ?_
  refine q_asg (v := .int 0) (by walk_at "ev") fun H6 f6 => ?_
  have f16 := ((((f1.trans f2).trans f3).trans f4).trans f5).trans f6
  have nws : w' ≠ s' := ne_of_none hw ns
  have nwo : w' ≠ o' := ne_of_none (f3 _ _ hw) no
  have nso : s' ≠ o' := ne_of_none hs no
  have nw0 : H w' = none := fresh_back f1 nw
  have ns0 : H s' = none := fresh_back (f1.trans f2) ns
  have no0 : H o' = none := fresh_back ((f1.trans f2).trans f3) no
  have hfit := Fit.begin0 (c := ws.length) (l := ds) (r := es) rfl hw3 hok1 hok2
  refine q_while (fun mm σ' H' => ∃ (S : Sts) (i j : Nat) (d e : Option V), mm = S.meas ∧ σ' = [some (.str r.name), some (.ref m), some (.ref p), some (.ref q), some (.ref fs'), some (.ref w'), some (.ref s'), some (.ref o'), some (.int i), some (.int j), d, e] ∧
      H' w' = some (.lst (S.ws.map wV)) ∧ H' s' = some (.lst (S.ss.map wV)) ∧ H' o' = some (.lst (S.os.map wV)) ∧ Ex H H' ∧ S.l = ds.drop i ∧ S.r = es.drop j ∧ S.n = i ∧ Fit ws.length (ds.length + es.length) S ∧ out r S = out r (begin0 ws ds es)) (begin0 ws ds es).meas
    ⟨begin0 ws ds es, 0, 0, none, none, rfl, rfl, (f6 _ _ (f5 _ _ (f4 _ _ (f3 _ _ hw)))), f6 _ _ (f5 _ _ (f4 _ _ hs)), f6 _ _ (f5 _ _ ho), f16, rfl, rfl, rfl, hfit, rfl⟩ ?_
  rintro mm σ' H' ⟨S, i, j, d0, e0, rfl, rfl, gw, gs, go, ge, hl, hrr, hn, fit, ho⟩
  refine ⟨decide ((i : Int) < (us.length : Int)) || decide ((j : Int) < (xs.length : Int)), et_or (et_test (ev_op (by walk_at "ev") (ev_cb (ea_cons (ev_var (v := .ref p) rfl) ea_nil) (rc_lenL (ex_l ge hp))) rv_I0)) (fun _ => et_test (ev_op (by walk_at "ev") (ev_cb (ea_cons (ev_var (v := .ref q) rfl) ea_nil) (rc_lenL (ex_l ge hq))) rv_I0)), fun hb H7 f7 => ?_, fun hb H7 f7 => ?_⟩
  · -- a beat
    have nd : ¬ S.done := by
      rintro ⟨z1, z2⟩
      rw [hl] at z1
      rw [hrr] at z2
      have y1 := congrArg List.length z1
      have y2 := congrArg List.length z2
      rw [List.length_drop] at y1 y2
      simp only [List.length_nil] at y1 y2
      rw [Bool.or_eq_true] at hb
      rcases hb with hb | hb
      · have := of_decide_eq_true hb; omega
      · have := of_decide_eq_true hb; omega
    have less := one_less (r := r) nd
    have fit1 := fit.one (r := r) nd
    have out1 := (out_one (r := r) nd).trans ho
    refine ⟨fun σ2 H2 => ∃ (S2 : Sts) (i j : Nat) (d e : Option V), S2.meas < S.meas ∧ σ2 = [some (.str r.name), some (.ref m), some (.ref p), some (.ref q), some (.ref fs'), some (.ref w'), some (.ref s'), some (.ref o'), some (.int i), some (.int j), d, e] ∧
      H2 w' = some (.lst (S2.ws.map wV)) ∧ H2 s' = some (.lst (S2.ss.map wV)) ∧ H2 o' = some (.lst (S2.os.map wV)) ∧ Ex H H2 ∧ S2.l = ds.drop i ∧ S2.r = es.drop j ∧ S2.n = i ∧ Fit ws.length (ds.length + es.length) S2 ∧ out r S2 = out r (begin0 ws ds es), ?_, ?_⟩
    · rintro σ2 H2 ⟨S2, i2, j2, d2, e2, q1, q2, q3, q4, q5, q6, q7, q8, q9, q10, q11⟩
      exact ⟨S2.meas, q1, S2, i2, j2, d2, e2, rfl, q2, q3, q4, q5, q6, q7, q8, q9, q10, q11⟩
    have ge7 := ge.trans f7
    -- both deeds
    refine ⟨_, rfl, _, rfl, p, us, ds, i, rfl, ex_l ge7 hp, hP.mono ge7, fun vd H8 f8 dv => ?_⟩
    have ge8 := ge7.trans f8
    refine ⟨_, rfl, _, rfl, q, xs, es, j, rfl, ex_l ge8 hq, hX.mono ge8, fun ve H9 f9 ev => ?_⟩
    have ge9 := ge8.trans f9
    have dv := dv.mono f9
    have ehl : S.l.headD .rs = ds.getD i .rs := by rw [hl]; exact headD_drop ds i
    have ehr : S.r.headD .rs = es.getD j .rs := by rw [hrr]; exact headD_drop es j
    rw [← ehl] at dv
    rw [← ehr] at ev
    have etl : S.l.tail = ds.drop (i + 1) := by rw [hl, List.tail_drop]
    have etr : S.r.tail = es.drop (j + 1) := by rw [hrr, List.tail_drop]
    have h9 := (f7.trans f8).trans f9
    have gw9 := h9 _ _ gw
    have gs9 := h9 _ _ gs
    have go9 := h9 _ _ go
    have okd := ok_headD fit.okl
    have oke := ok_headD fit.okr
    rw [← fit.len] at okd oke
    have zs := fit.ss
    have zo := fit.os
    have cl := sp_clash_v dv ev
    have wd : decide (V.str r.name = V.str "wait") = decide (r = .wait) := by cases r <;> decide +kernel
    refine gn ?_
    dsimp only
    refine q_if (b := waits r S) (et_and (a := decide (r = .wait)) (et_is (et_test (ev_op (x := .str r.name) (y := .str "wait") (by walk_at "ev") (by walk_at "ev") (rv_eq rfl))) wd) (fun _ => et_B (ev_call (ea_cons (ev_var (v := vd) rfl) (ea_cons (ev_var (v := ve) rfl) ea_nil)) cl))) (fun hb2 H10 f10 => ?_) (fun hb2 H10 f10 => ?_)
    · -- the right door waits
      have hrw : r = .wait := by
        unfold waits at hb2
        rw [Bool.and_eq_true] at hb2
        exact of_decide_eq_true hb2.1
      refine s_asg (v := .ref aREST) (by walk_at "ev") fun H11 f11 => ?_
      have f911 := f10.trans f11
      refine ⟨rfl, _, rfl, _, rfl, _, rfl, _, rfl, _, rfl, w', s', o', vd, .ref aREST, S.ws, S.ss, S.os, S.l.headD .rs, .rs, rfl, f911 _ _ gw9, f911 _ _ gs9, f911 _ _ go9, nws, nwo, nso, dv.mono f911, ⟨aREST, rfl, G.REST _⟩, okd, True.intro, by omega, by omega, fun H12 b12 w12 s12 o12 => ?_⟩
      refine s_aug (a := i) (b := 1) rfl ev_c fun H13 f13 => ?_
      have e1 : one r S = after S (beat .left S.ws (S.l.headD .rs) .rs) true := if_pos hb2
      rw [e1] at less fit1 out1
      have e2 : (if r = Rule.wait then Rule.left else r) = .left := if_pos hrw
      rw [e2] at w12 s12 o12
      exact ⟨_, i + 1, j, _, _, less, rfl, f13 _ _ w12, f13 _ _ s12, f13 _ _ o12, ((Bt.of_ex (ge9.trans f911)).trans (b12)).ex_back f13 (by simp [nw0, ns0, no0]), etl, hrr, (by show S.n + 1 = i + 1; omega), fit1, out1⟩
    · refine s_aug (a := j) (b := 1) rfl ev_c fun H11 f11 => ?_
      have f911 := f10.trans f11
      refine ⟨rfl, _, rfl, _, rfl, _, rfl, _, rfl, _, rfl, w', s', o', vd, ve, S.ws, S.ss, S.os, S.l.headD .rs, S.r.headD .rs, rfl, f911 _ _ gw9, f911 _ _ gs9, f911 _ _ go9, nws, nwo, nso, dv.mono f911, ev.mono f911, okd, oke, by omega, by omega, fun H12 b12 w12 s12 o12 => ?_⟩
      refine s_aug (a := i) (b := 1) rfl ev_c fun H13 f13 => ?_
      have e1 : one r S = after S (beat r S.ws (S.l.headD .rs) (S.r.headD .rs)) false := if_neg (by rw [hb2]; exact Bool.false_ne_true)
      rw [e1] at less fit1 out1
      have e2 : ∀ d e, beat (if r = Rule.wait then Rule.left else r) S.ws d e = beat r S.ws d e := by
        intro d e
        cases r <;> rfl
      rw [e2] at w12 s12 o12
      exact ⟨_, i + 1, j + 1, _, _, less, rfl, f13 _ _ w12, f13 _ _ s12, f13 _ _ o12, ((Bt.of_ex (ge9.trans f911)).trans (b12)).ex_back f13 (by simp [nw0, ns0, no0]), etl, etr, (by show S.n + 1 = i + 1; omega), fit1, out1⟩
  · -- all is done
    have hd : S.done := by
      rw [Bool.or_eq_false_iff] at hb
      have y1 := of_decide_eq_false hb.1
      have y2 := of_decide_eq_false hb.2
      exact ⟨by rw [hl]; exact List.drop_of_length_le (by omega), by rw [hrr]; exact List.drop_of_length_le (by omega)⟩
    rw [out_done hd] at ho
    have f7e := ge.trans f7
    refine ⟨_, rfl, _, rfl, _, rfl, w', _, rfl, .inl ⟨SqL.of (f7 _ _ gw), fun m' nm => ?_⟩⟩
    refine ⟨_, rfl, by show 4 ≤ sizeLine; decide, fun t' nt => ?_⟩
    have g1 := Ex.new (o := .tup (S.ws.map wV)) nm
    have g2 := Ex.new (o := .tup [.ref s', .ref o', .ref m', .int i]) nt
    refine k _ _ ⟨t', s', o', m', rfl, ?_, ?_, ?_, ?_, ns0, no0, nso, (f7e.trans g1).trans g2⟩
    · rw [← ho, hn]; exact upd_same
    · rw [← ho]; exact g2 _ _ (g1 _ _ (f7 _ _ gs))
    · rw [← ho]; exact g2 _ _ (g1 _ _ (f7 _ _ go))
    · rw [← ho]; exact SqT.of (g2 _ _ upd_same)

def sp_run (K : PySem.W.Frag) : Sp := fun vs H Q _ => ∃ (r : Rule) (m p q : Addr) (ws : List Nat) (us xs : List V) (ds es : List Deed), vs = [.str r.name, .ref m, .ref p, .ref q] ∧ SqT K H m (ws.map wV) ∧ 1 ≤ ws.length ∧ ws.length ≤ 4 ∧ (∀ x ∈ ws, x < 3) ∧ SqL K H p us ∧ PV K H us ds ∧ ds.length ≤ 40 ∧ (∀ d ∈ ds, d.ok ws.length) ∧
  SqL K H q xs ∧ PV K H xs es ∧ es.length ≤ 40 ∧ (∀ d ∈ es, d.ok ws.length) ∧ ∀ (v : V) (H' : Hp), Told K H H' v (out r (begin0 ws ds es)) → Q v H'
theorem d_run (T : Nb mg) (D_check_rule : Dn P w K mg base CX0 "check_rule" ["rule"] 1 sp_check_rule) (D_check_memory : Dn P w K mg base CX0 "check_memory" ["memory"] 3 (sp_check_memory K)) (D_check_programs : Dq P w K mg base CX0 "check_programs" ["left", "right", "cells", "most"] [.int 40] 5 (sp_check_programs K))
    (D_play : Dn P w K mg base CX0 "play" ["rule", "memory", "left", "right"] 5 (sp_play K)) (h : Has K mg "run" s_run) : Dn P w K mg base CX0 "run" ["rule", "memory", "left", "right"] 6 (sp_run K) := by
  refine dn_of h (fun f fd F => F.binds fun _ _ _ _ _ _ us hl => match us, hl with | [_, _, _, _], _ => rfl) fun f fd F _ => F.ok sc_run (fun vs H Q E h => ?_) (fun cdv A outer s H vs Q E hr h => ?_)
  · obtain ⟨_, _, _, _, _, _, _, _, _, rfl, _⟩ := h
    rfl
  obtain ⟨r, m, p, q, ws, us, xs, ds, es, rfl, hm, hw1, hw4, hw3, hp, hP, hl40, hok1, hq, hX, hr40, hok2, k⟩ := h
  refine ⟨_, (pss_cons (ps_expr (pe_dn D_check_rule hr (by omega) pass0 (pa_cons (pv 0) pa_nil)))
    (pss_cons (ps_expr (pe_dn D_check_memory hr (by omega) pass0 (pa_cons (pv 1) pa_nil)))
    (pss_cons (ps_expr (pe_dq D_check_programs hr (by omega) pass0 (pa_cons (pv 2) (pa_cons (pv 3) (pa_cons (pe_callB (call_len_seqK K) (by rfl) T.n_len PySem.boot_len (pa_cons (pv 1) pa_nil)) pa_nil)))))
    (pss_one (ps_ret (pe_dn D_play hr (by omega) pass0 (pa_cons (pv 0) (pa_cons (pv 1) (pa_cons (pv 2) (pa_cons (pv 3) pa_nil)))))))))), ?_⟩
  have c := @sp_check_rule_v H r
  refine q_drop (v := .non) (by walk_at "ev") fun H1 f1 => ?_
  have c := sp_check_memory_v (ex_t f1 hm) hw1 hw4 hw3
  refine q_drop (v := .non) (by walk_at "ev") fun H2 f2 => ?_
  have f12 := f1.trans f2
  have c := sp_check_programs_v (n := ws.length) (m := 40) (ex_l f12 hp) (hP.mono f12) hl40 hok1 (ex_l f12 hq) (hX.mono f12) hr40 hok2
  refine q_drop (v := .non) (ev_call (ea_cons (by walk_at "ev") (ea_cons (by walk_at "ev") (ea_cons (ev_is (ev_cb (ea_cons (ev_var (v := .ref m) rfl) ea_nil) (rc_lenT (ex_t f12 hm))) (by rw [List.length_map])) ea_nil))) (dvs := [.int 40]) c) fun H3 f3 => ?_
  have f13 := f12.trans f3
  refine ⟨_, rfl, _, rfl, _, rfl, _, rfl, r, m, p, q, ws, us, xs, ds, es, rfl, ex_t f13 hm, hw3, ex_l f13 hp, hP.mono f13, hl40, hok1, ex_l f13 hq, hX.mono f13, hr40, hok2, fun v H' t => k v H' (t.back f13)⟩

/-- an order of so many deeds -/
def sp_check_order (K : PySem.W.Frag) : Sp := spF 3 fun vs H v => ∃ (p q : Addr) (us xs : List V) (o : List Bool), vs = [.str (oS o), .ref p, .ref q] ∧ SqL K H p us ∧ SqL K H q xs ∧ o.count false = us.length ∧ o.count true = xs.length ∧ us.length ≤ 1000 ∧ xs.length ≤ 1000 ∧ v = .non
theorem sp_check_order_v {H : Hp} {p q : Addr} {us xs : List V} {o : List Bool} (h1 : SqL K H p us) (h2 : SqL K H q xs) (h3 : o.count false = us.length) (h4 : o.count true = xs.length) (h5 : us.length ≤ 1000) (h6 : xs.length ≤ 1000) : SpV (sp_check_order K) [.str (oS o), .ref p, .ref q] H .non :=
  spF_v rfl fun _ f => ⟨p, q, us, xs, o, rfl, ex_l f h1, ex_l f h2, h3, h4, h5, h6, rfl⟩
theorem d_check_order {t1 t2 : Tok} (T : Nb mg) (O : TxO mg t1 t2) (h : Has K mg "check_order" s_check_order) : Dn P w K mg base CX0 "check_order" ["order", "left", "right"] 1 (sp_check_order K) := by
  refine dn_of h (fun f fd F => F.binds fun _ _ _ _ _ _ us hl => match us, hl with | [_, _, _], _ => rfl) fun f fd F _ => F.ok sc_check_order (fun vs H Q E h => h.1) (fun cdv A outer s H vs Q E hr h => ?_)
  obtain ⟨_, v, ⟨p, q, us, xs, o, rfl, h1, h2, h3, h4, h5, h6, rfl⟩, k⟩ := h
  refine ⟨_, (pss_cons (ps_if (PW.pt (pw_or (pt_not (pt_val (pe_callB (call_isiK2 K) (by rfl) T.n_isinstance PyProof.Rows.boot_isinstance (pa_cons (pv 0) (pa_cons (pe_bltn (v := .ty "str") rfl T.n_str PyProof.Rows.boot_str rfl) pa_nil))))) (pw_or1 (pt_cmpR op_ne (pe_callB call_len (by rfl) T.n_len PySem.boot_len (pa_cons (pv 0) pa_nil)) (pe_op op_add (pe_callB (call_len_seqK K) (by rfl) T.n_len PySem.boot_len (pa_cons (pv 1) pa_nil)) (pe_callB (call_len_seqK K) (by rfl) T.n_len PySem.boot_len (pa_cons (pv 2) pa_nil))) (nomark _))))) pss_never pss_nil)
    (pss_one (ps_if (PW.pt (pw_or (pt_cmpR op_ne (pe_m1 PySem.F.slot_str_count PySem.F.type_str_count mt_count (pv 0) (pe_glob (v := .str "l") rfl O.g_LEFT ⟨_, rfl⟩)) (pe_callB (call_len_seqK K) (by rfl) T.n_len PySem.boot_len (pa_cons (pv 1) pa_nil)) (nomark _)) (pw_or1 (pt_cmpR op_ne (pe_m1 PySem.F.slot_str_count PySem.F.type_str_count mt_count (pv 0) (pe_glob (v := .str "r") rfl O.g_RIGHT ⟨_, rfl⟩)) (pe_callB (call_len_seqK K) (by rfl) T.n_len PySem.boot_len (pa_cons (pv 2) pa_nil)) (nomark _))))) pss_never pss_nil))), ?_⟩
  have hl : o.length = us.length + xs.length := by
    have z := cnt_both o
    omega
  refine q_when (b := false) (et_is (et_or (a := false) (b := false) (et_is (et_not (a := true) (et_B (by walk_at "ev"))) rfl) (fun _ => et_is (et_test (ev_op (x := .int o.length) (y := .int (us.length + xs.length)) (ev_cb (ea_cons (ev_var (v := .str (oS o)) rfl) ea_nil) (rc_lenO (by omega))) (ev_op (ev_cb (ea_cons (ev_var (v := .ref p) rfl) ea_nil) (rc_lenL h1)) (ev_cb (ea_cons (ev_var (v := .ref q) rfl) ea_nil) (rc_lenL h2)) rv_I0) (rv_ne rfl))) (by rw [hl]; simp))) rfl) (fun z => nomatch z) (fun _ H1 f1 => ?_)
  have g1 := ex_l f1 h1
  have g2 := ex_l f1 h2
  refine s_when (b := false) (et_is (et_or (a := false) (b := false) (et_is (et_test (ev_op (x := .int us.length) (y := .int us.length) (ev_countO (b := false) (ev_var (v := .str (oS o)) rfl) (by rw [← oS_l]; exact ev_c) h3) (ev_cb (ea_cons (ev_var (v := .ref p) rfl) ea_nil) (rc_lenL g1)) (rv_ne rfl))) (by simp))
    (fun _ => et_is (et_test (ev_op (x := .int xs.length) (y := .int xs.length) (ev_countO (b := true) (ev_var (v := .str (oS o)) rfl) (by rw [← oS_r]; exact ev_c) h4) (ev_cb (ea_cons (ev_var (v := .ref q) rfl) ea_nil) (rc_lenL g2)) (rv_ne rfl))) (by simp))) rfl) (fun z => nomatch z) (fun _ H2 f2 => k H2 (f1.trans f2))

/-- one deed by itself -/
def sp_do_deed (K : PySem.W.Frag) : Sp := fun vs H Q _ => ∃ (w s : Addr) (a : V) (ws ss : List Nat) (d : Deed), vs = [.ref w, a, .ref s] ∧ H w = some (.lst (ws.map wV)) ∧ H s = some (.lst (ss.map wV)) ∧ w ≠ s ∧ DV K H a d ∧ d.ok ws.length ∧ ss.length ≤ 1000 ∧
  ∀ H', Bt [w, s] H H' → H' w = some (.lst ((wrl ws d).map wV)) → H' s = some (.lst ((ss ++ rdl ws d).map wV)) → Q .non H'
theorem d_do_deed (D_read_cell : Dn P w K mg base CX0 "read_cell" ["worths", "deed", "seen"] 1 (sp_read_cell K)) (D_write_cell : Dn P w K mg base CX0 "write_cell" ["worths", "deed"] 1 (sp_write_cell K)) (h : Has K mg "do_deed" s_do_deed) : Dn P w K mg base CX0 "do_deed" ["worths", "deed", "seen"] 2 (sp_do_deed K) := by
  refine dn_of h (fun f fd F => F.binds fun _ _ _ _ _ _ us hl => match us, hl with | [_, _, _], _ => rfl) fun f fd F _ => F.ok sc_do_deed (fun vs H Q E h => ?_) (fun cdv A outer s H vs Q E hr h => ?_)
  · obtain ⟨_, _, _, _, _, _, rfl, _⟩ := h
    rfl
  obtain ⟨w, s, a, ws, ss, d, rfl, hw, hs, nws, h1, o1, z1, k⟩ := h
  refine ⟨_, (pss_cons (ps_expr (pe_dn D_read_cell hr (by omega) pass0 (pa_cons (pv 0) (pa_cons (pv 1) (pa_cons (pv 2) pa_nil)))))
    (pss_one (ps_expr (pe_dn D_write_cell hr (by omega) pass0 (pa_cons (pv 0) (pa_cons (pv 1) pa_nil)))))), ?_⟩
  refine ⟨_, rfl, _, rfl, _, rfl, w, s, a, ws, ss, d, rfl, hw, hs, h1, o1, z1, fun H1 b1 s1 => ?_⟩
  have w1 := b1 w _ (by simp [nws]) hw
  have e1 := dv_buts b1 (by simp [hs]) h1
  refine ⟨_, rfl, _, rfl, w, a, ws, d, rfl, w1, e1, o1, fun H2 b2 w2 => ?_⟩
  have s2 := b2 s _ (by simp [nws.symm]) s1
  exact k H2 ((b1.mono (by simp)).trans (b2.mono (by simp))) w2 s2

/-- deeds one by one, in an order -/
def sp_follow (K : PySem.W.Frag) : Sp := fun vs H Q _ => ∃ (m p q : Addr) (ws : List Nat) (us xs : List V) (ds es : List Deed) (o : List Bool), vs = [.ref m, .ref p, .ref q, .str (oS o)] ∧ SqT K H m (ws.map wV) ∧ (∀ x ∈ ws, x < 3) ∧ SqL K H p us ∧ PV K H us ds ∧ ds.length ≤ 40 ∧ (∀ d ∈ ds, d.ok ws.length) ∧
  SqL K H q xs ∧ PV K H xs es ∧ es.length ≤ 40 ∧ (∀ d ∈ es, d.ok ws.length) ∧ o.count false = ds.length ∧ o.count true = es.length ∧ ∀ (v : V) (H' : Hp), Told3 K H' v (fol o (begin0 ws ds es)) → Ex H H' → Q v H'
theorem d_follow {t1 t2 : Tok} (T : Nb mg) (O : TxO mg t1 t2) (D_do_deed : Dn P w K mg base CX0 "do_deed" ["worths", "deed", "seen"] 2 (sp_do_deed K)) (h : Has K mg "follow" s_follow) : Dn P w K mg base CX0 "follow" ["memory", "left", "right", "order"] 3 (sp_follow K) := by
  refine dn_of h (fun f fd F => F.binds fun _ _ _ _ _ _ us hl => match us, hl with | [_, _, _, _], _ => rfl) fun f fd F _ => F.ok sc_follow (fun vs H Q E h => ?_) (fun cdv A outer s H vs Q E hr h => ?_)
  · obtain ⟨_, _, _, _, _, _, _, _, _, rfl, _⟩ := h
    rfl
  obtain ⟨m, p, q, ws, us, xs, ds, es, o, rfl, hm, hw3, hp, hP, hl40, hok1, hq, hX, hr40, hok2, c1, c2, k⟩ := h
  refine ⟨_, (pss_cons (ps_set (i := 4) sc_follow.nd rfl (Or.inl rfl) (pe_callTy (call_list_ofK K) (by rfl) T.n_list PyProof.Rows.boot_list (pa_cons (pv 0) pa_nil)))
    (pss_cons (ps_set (i := 5) sc_follow.nd rfl (Or.inl rfl) (pe_lst pa_nil))
    (pss_cons (ps_set (i := 6) sc_follow.nd rfl (Or.inl rfl) (pe_lst pa_nil))
    (pss_cons (ps_set (i := 7) sc_follow.nd rfl (Or.inl rfl) pe_int)
    (pss_cons (ps_for PassesOwn.never rfl (Zen.pi_enumS (by rfl) T.n_enumerate (pa_cons (pv 3) pa_nil)) (pg_tup rfl (pgs_cons (pg_name (i := 8) sc_follow.nd rfl (Or.inl rfl)) (pgs_cons (pg_name (i := 9) sc_follow.nd rfl (Or.inl rfl)) pgs_nil)))
      (pss_one (ps_if (pt_cmpR op_eq (pv 9) (pe_glob (v := .str "l") rfl O.g_LEFT ⟨_, rfl⟩) (nomark _)) (pss_cons (ps_expr (pe_dn D_do_deed hr (by omega) pass0 (pa_cons (pv 4) (pa_cons (pe_ix (ix_listK K) (pv 1) (pv 7) (fun _ _ => rfl)) (pa_cons (pv 5) pa_nil)))))
        (pss_one (ps_aug (i := 7) sc_follow.nd rfl (Or.inl rfl) pe_int ip_add))) (pss_one (ps_expr (pe_dn D_do_deed hr (by omega) pass0 (pa_cons (pv 4) (pa_cons (pe_ix (ix_listK K) (pv 2) (pe_op op_sub (pv 8) (pv 7)) (fun _ _ => rfl)) (pa_cons (pv 6) pa_nil)))))))))
    (pss_one (ps_ret (pe_tup (pa_cons (pe_callTy call_tuple_of (by rfl) T.n_tuple PyProof.Rows.boot_tuple (pa_cons (pv 5) pa_nil)) (pa_cons (pe_callTy call_tuple_of (by rfl) T.n_tuple PyProof.Rows.boot_tuple (pa_cons (pv 6) pa_nil)) (pa_cons (pe_callTy call_tuple_of (by rfl) T.n_tuple PyProof.Rows.boot_tuple (pa_cons (pv 4) pa_nil)) pa_nil))))))))))), ?_⟩
  have hPl := hP.length
  have hXl := hX.length
  have hol : o.length = ds.length + es.length := by
    have z := cnt_both o
    omega
  refine q_asgL (xs := ws.map wV) (fun H2 f2 Q q => ⟨_, rfl, m, _, rfl, .inr (ex_t f2 hm), fun l hl => q l _ hl (Ex.new hl) upd_same⟩) fun w' H2 nw f2 hw => ?_
  refine q_asgL (xs := []) (el_lst ea_nil (by decide)) fun s' H3 ns f3 hs => ?_
  refine q_asgL (xs := []) (el_lst ea_nil (by decide)) fun o' H4 no f4 ho => ?_
  refine q_asg (v := .int 0) (by walk_at "ev") fun H5 f5 => ?_
  have f15 := ((f2.trans f3).trans f4).trans f5
  have nws : w' ≠ s' := ne_of_none hw ns
  have nwo : w' ≠ o' := ne_of_none (f3 _ _ hw) no
  have nso : s' ≠ o' := ne_of_none hs no
  have nw0 : H w' = none := nw
  have ns0 : H s' = none := fresh_back f2 ns
  have no0 : H o' = none := fresh_back (f2.trans f3) no
  have fit0 := Fit1.begin0 (c := ws.length) (l := ds) (r := es) rfl hw3 hok1 hok2
  refine ⟨_, rfl, oS o, rfl, for_it Zen.walk_enumS (fun i σ' H' => ∃ (v8 v9 : Option V), σ' = [some (.ref m), some (.ref p), some (.ref q), some (.str (oS o)), some (.ref w'), some (.ref s'), some (.ref o'), some (.int ((o.take i).count false : Nat)), v8, v9] ∧
      H' w' = some (.lst ((fol (o.take i) (begin0 ws ds es)).ws.map wV)) ∧ H' s' = some (.lst ((fol (o.take i) (begin0 ws ds es)).ss.map wV)) ∧ H' o' = some (.lst ((fol (o.take i) (begin0 ws ds es)).os.map wV)) ∧ Ex H H')
    ⟨none, none, rfl, f5 _ _ (f4 _ _ (f3 _ _ hw)), f5 _ _ (f4 _ _ hs), f5 _ _ ho, f15⟩ (fun _ _ _ _ _ => True.intro) ?_ ?_⟩
  · rintro i x σ' H' H6 hi ⟨v8, v9, rfl, gw, gs, go, ge⟩ ⟨t, a, b, rfl, nt, rfl, ha, hb⟩
    rw [oS_size] at hi
    cases ha
    obtain ⟨bb, hbb⟩ : ∃ bb, o[i]? = some bb := ⟨o[i], by simp [hi]⟩
    have eb : b = .str (oS [bb]) := by
      have z : ((oS o).cps[i]?.map fun c => V.str ⟨#[c]⟩) = some b := hb
      rw [oS_at, hbb] at z
      exact (Option.some.inj z).symm
    subst eb
    have x1 := Ex.new (o := .tup [.int (i : Nat), .str (oS [bb])]) nt
    refine ⟨t, _, rfl, SqT.of upd_same, rfl, _, _, rfl, _, _, rfl, rfl, ?_⟩
    generalize upd H' t (.tup [.int (i : Nat), .str (oS [bb])]) = H7 at x1 ⊢
    dsimp only
    have fit := Fit1.fol (o.take i) _ _ fit0
    have ll := fol_l (o.take i) (begin0 ws ds es)
    have lr := fol_r (o.take i) (begin0 ws ds es)
    have tk := fol_take hbb (begin0 ws ds es)
    have cS : (o.take (i + 1)) = o.take i ++ [bb] := by rw [List.take_add_one, hbb]; rfl
    have cl : (o.take i).length = i := by rw [List.length_take]; omega
    have cc := cnt_both (o.take i)
    have cA := cnt_both (o.take (i + 1))
    have cB : ∀ c, (o.take (i + 1)).count c ≤ o.count c := fun c => (List.take_sublist _ _).count_le _
    have z1 := fit.ss
    have z2 := fit.os
    have ge7 := ge.trans x1
    have es1 : decide (V.str (oS [bb]) = V.str "l") = decide (bb = false) := by rw [oS_l, oS_is]; cases bb <;> decide
    refine s_if (b := decide (bb = false)) (et_is (et_test (ev_op (x := .str (oS [bb])) (y := .str "l") (ev_var (i := 9) (v := .str (oS [bb])) rfl) ev_c (rv_eq rfl))) es1) (fun hb1 H8 f8 => ?_) (fun hb1 H8 f8 => ?_)
    · have ebb : bb = false := of_decide_eq_true hb1
      subst ebb
      have cF := cB false
      rw [cS, List.count_append] at cF
      have cF1 : [false].count false = 1 := rfl
      have hlt : (o.take i).count false < us.length := by omega
      obtain ⟨d, hd, dv⟩ := (hP.mono (ge7.trans f8)).get (List.getElem?_eq_getElem hlt)
      have ehd : (fol (o.take i) (begin0 ws ds es)).l.headD .rs = d := by
        rw [ll]
        show (ds.drop _).headD .rs = d
        rw [headD_drop, List.getD_eq_getElem?_getD, hd]
        rfl
      have okd := ok_headD fit.okl
      rw [← fit.len, ehd] at okd
      have f78 := x1.trans f8
      refine ⟨_, rfl, _, rfl, _, rfl, p, us, _, us[(o.take i).count false], rfl, rfl, ex_l (ge7.trans f8) hp, atI_nat (List.getElem?_eq_getElem hlt), _, rfl, w', s', us[(o.take i).count false], _, _, d, rfl, f78 _ _ gw, f78 _ _ gs, nws, dv, okd, by omega, fun H9 b9 w9 s9 => ?_⟩
      refine s_aug (a := ((o.take i).count false : Nat)) (b := 1) rfl ev_c fun H10 f10 => ?_
      have o9 := b9 o' _ (by simp [nwo.symm, nso.symm]) (f78 _ _ go)
      have eN : (((o.take i).count false : Nat) : Int) + 1 = ((o.take (i + 1)).count false : Nat) := by
        rw [cS, List.count_append, cF1]
        omega
      refine ⟨some (.int (i : Nat)), some (.str (oS [false])), by rw [← eN]; rfl, ?_, ?_, ?_, ((Bt.of_ex (ge7.trans f8)).trans b9).ex_back f10 (by simp [nw0, ns0])⟩
      · rw [tk]; unfold oneB; rw [if_neg Bool.false_ne_true, ehd]; exact f10 _ _ w9
      · rw [tk]; unfold oneB; rw [if_neg Bool.false_ne_true, ehd]; exact f10 _ _ s9
      · rw [tk]; unfold oneB; rw [if_neg Bool.false_ne_true]; exact f10 _ _ o9
    · have ebb : bb = true := by
        cases bb with
        | true => rfl
        | false => cases hb1
      subst ebb
      have cT := cB true
      rw [cS, List.count_append] at cT
      have cT1 : [true].count true = 1 := rfl
      have hlt : (o.take i).count true < xs.length := by omega
      obtain ⟨d, hd, dv⟩ := (hX.mono (ge7.trans f8)).get (List.getElem?_eq_getElem hlt)
      have ehd : (fol (o.take i) (begin0 ws ds es)).r.headD .rs = d := by
        rw [lr]
        show (es.drop _).headD .rs = d
        rw [headD_drop, List.getD_eq_getElem?_getD, hd]
        rfl
      have okd := ok_headD fit.okr
      rw [← fit.len, ehd] at okd
      have f78 := x1.trans f8
      have eI : ((i : Nat) : Int) - ((o.take i).count false : Nat) = ((o.take i).count true : Nat) := by omega
      refine ⟨_, rfl, _, rfl, _, rfl, _, rfl, _, _, rfl, rfl, q, xs, _, xs[(o.take i).count true], rfl, rfl, ex_l (ge7.trans f8) hq, by rw [eI]; exact atI_nat (List.getElem?_eq_getElem hlt), _, rfl, w', o', xs[(o.take i).count true], _, _, d, rfl, f78 _ _ gw, f78 _ _ go, nwo, dv, okd, by omega, fun H9 b9 w9 o9 => ?_⟩
      have s9 := b9 s' _ (by simp [nws.symm, nso]) (f78 _ _ gs)
      have eN : (o.take (i + 1)).count false = (o.take i).count false := by
        rw [cS, List.count_append]
        rfl
      refine ⟨some (.int (i : Nat)), some (.str (oS [true])), by rw [eN]; rfl, ?_, ?_, ?_, ((Bt.of_ex (ge7.trans f8)).trans b9).ex (by simp [nw0, no0])⟩
      · rw [tk]; unfold oneB; rw [if_pos rfl, ehd]; exact w9
      · rw [tk]; unfold oneB; rw [if_pos rfl]; exact s9
      · rw [tk]; unfold oneB; rw [if_pos rfl, ehd]; exact o9
  · rintro σ' H' ⟨v8, v9, rfl, gw, gs, go, ge⟩
    rw [oS_size, List.take_length] at gw gs go
    refine ⟨_, rfl, s', _, rfl, .inl ⟨SqL.of gs, fun a na => ?_⟩⟩
    have g1 := Ex.new (o := .tup ((fol o (begin0 ws ds es)).ss.map wV)) na
    refine ⟨_, rfl, o', _, rfl, .inl ⟨SqL.of (g1 _ _ go), fun b nb => ?_⟩⟩
    have g2 := Ex.new (o := .tup ((fol o (begin0 ws ds es)).os.map wV)) nb
    refine ⟨_, rfl, w', _, rfl, .inl ⟨SqL.of (g2 _ _ (g1 _ _ gw)), fun c nc => ?_⟩⟩
    have g3 := Ex.new (o := .tup ((fol o (begin0 ws ds es)).ws.map wV)) nc
    refine ⟨by show 3 ≤ sizeLine; decide, fun t nt => ?_⟩
    have g4 := Ex.new (o := .tup [.ref a, .ref b, .ref c]) nt
    exact k _ _ ⟨t, a, b, c, rfl, SqT.of upd_same, SqT.of (g4 _ _ (g3 _ _ (g2 _ _ upd_same))), SqT.of (g4 _ _ (g3 _ _ upd_same)), SqT.of (g4 _ _ upd_same)⟩ ((((ge.trans g1).trans g2).trans g3).trans g4)

def sp_ordered (K : PySem.W.Frag) : Sp := fun vs H Q _ => ∃ (m p q : Addr) (ws : List Nat) (us xs : List V) (ds es : List Deed) (o : List Bool), vs = [.ref m, .ref p, .ref q, .str (oS o)] ∧ SqT K H m (ws.map wV) ∧ 1 ≤ ws.length ∧ ws.length ≤ 4 ∧ (∀ x ∈ ws, x < 3) ∧ SqL K H p us ∧ PV K H us ds ∧ ds.length ≤ 40 ∧ (∀ d ∈ ds, d.ok ws.length) ∧
  SqL K H q xs ∧ PV K H xs es ∧ es.length ≤ 40 ∧ (∀ d ∈ es, d.ok ws.length) ∧ o.count false = ds.length ∧ o.count true = es.length ∧ ∀ (v : V) (H' : Hp), Told3 K H' v (fol o (begin0 ws ds es)) → Ex H H' → Q v H'
theorem d_ordered (T : Nb mg) (D_check_memory : Dn P w K mg base CX0 "check_memory" ["memory"] 3 (sp_check_memory K)) (D_check_programs : Dq P w K mg base CX0 "check_programs" ["left", "right", "cells", "most"] [.int 40] 5 (sp_check_programs K))
    (D_check_order : Dn P w K mg base CX0 "check_order" ["order", "left", "right"] 1 (sp_check_order K)) (D_follow : Dn P w K mg base CX0 "follow" ["memory", "left", "right", "order"] 3 (sp_follow K)) (h : Has K mg "ordered" s_ordered) : Dn P w K mg base CX0 "ordered" ["memory", "left", "right", "order"] 6 (sp_ordered K) := by
  refine dn_of h (fun f fd F => F.binds fun _ _ _ _ _ _ us hl => match us, hl with | [_, _, _, _], _ => rfl) fun f fd F _ => F.ok sc_ordered (fun vs H Q E h => ?_) (fun cdv A outer s H vs Q E hr h => ?_)
  · obtain ⟨_, _, _, _, _, _, _, _, _, rfl, _⟩ := h
    rfl
  obtain ⟨m, p, q, ws, us, xs, ds, es, o, rfl, hm, hw1, hw4, hw3, hp, hP, hl40, hok1, hq, hX, hr40, hok2, c1, c2, k⟩ := h
  refine ⟨_, (pss_cons (ps_expr (pe_dn D_check_memory hr (by omega) pass0 (pa_cons (pv 0) pa_nil)))
    (pss_cons (ps_expr (pe_dq D_check_programs hr (by omega) pass0 (pa_cons (pv 1) (pa_cons (pv 2) (pa_cons (pe_callB (call_len_seqK K) (by rfl) T.n_len PySem.boot_len (pa_cons (pv 0) pa_nil)) pa_nil)))))
    (pss_cons (ps_expr (pe_dn D_check_order hr (by omega) pass0 (pa_cons (pv 3) (pa_cons (pv 1) (pa_cons (pv 2) pa_nil)))))
    (pss_one (ps_ret (pe_dn D_follow hr (by omega) pass0 (pa_cons (pv 0) (pa_cons (pv 1) (pa_cons (pv 2) (pa_cons (pv 3) pa_nil)))))))))), ?_⟩
  have lu := hP.length
  have lx := hX.length
  have c := sp_check_memory_v hm hw1 hw4 hw3
  refine q_drop (v := .non) (by walk_at "ev") fun H2 f2 => ?_
  have c := sp_check_programs_v (n := ws.length) (m := 40) (ex_l f2 hp) (hP.mono f2) hl40 hok1 (ex_l f2 hq) (hX.mono f2) hr40 hok2
  refine q_drop (v := .non) (ev_call (ea_cons (by walk_at "ev") (ea_cons (by walk_at "ev") (ea_cons (ev_is (ev_cb (ea_cons (ev_var (v := .ref m) rfl) ea_nil) (rc_lenT (ex_t f2 hm))) (by rw [List.length_map])) ea_nil))) (dvs := [.int 40]) c) fun H3 f3 => ?_
  have f13 := f2.trans f3
  have c := sp_check_order_v (o := o) (ex_l f13 hp) (ex_l f13 hq) (by omega) (by omega) (by omega) (by omega)
  refine q_drop (v := .non) (by walk_at "ev") fun H4 f4 => ?_
  have f14 := f13.trans f4
  exact ⟨_, rfl, _, rfl, _, rfl, _, rfl, m, p, q, ws, us, xs, ds, es, o, rfl, ex_t f14 hm, hw3, ex_l f14 hp, hP.mono f14, hl40, hok1, ex_l f14 hq, hX.mono f14, hr40, hok2, c1, c2, fun v H' t f => k v H' t (f14.trans f)⟩

def sp_law_order (K : PySem.W.Frag) : Sp := sp_follow K
theorem d_law_order (T : Nb mg) (h : Has K mg "_law_order" s_law_order) : Dn P w K mg base CX0 "_law_order" ["_law_memory_here", "_law_left", "_law_right", "_law_order_here"] 1 (sp_law_order K) := by
  refine dn_of h (fun f fd F => F.binds fun _ _ _ _ _ _ us hl => match us, hl with | [_, _, _, _], _ => rfl) fun f fd F _ => F.ok sc_law_order (fun vs H Q E h => ?_) (fun cdv A outer s H vs Q E hr h => ?_)
  · obtain ⟨_, _, _, _, _, _, _, _, _, rfl, _⟩ := h
    rfl
  obtain ⟨m, p, q, ws, us, xs, ds, es, o, rfl, hm, hw3, hp, hP, hl40, hok1, hq, hX, hr40, hok2, c1, c2, k⟩ := h
  refine ⟨_, (pss_cons (ps_set (i := 0) sc_law_order.nd rfl (Or.inl rfl) (pe_callTy (call_list_ofK K) (by rfl) T.n_list PyProof.Rows.boot_list (pa_cons (pv 0) pa_nil)))
    (pss_cons (ps_set (i := 4) sc_law_order.nd rfl (Or.inl rfl) (pe_tup (pa_cons (pe_lst pa_nil) (pa_cons (pe_lst pa_nil) pa_nil))))
    (pss_cons (ps_for PassesOwn.never rfl (pi_range1 rfl T.n_range (pa_cons (pe_callB call_len (by rfl) T.n_len PySem.boot_len (pa_cons (pv 3) pa_nil)) pa_nil)) (pg_name (i := 5) sc_law_order.nd rfl (Or.inl rfl))
      (pss_cons (ps_set (i := 6) sc_law_order.nd rfl (Or.inl rfl) (pe_callTy call_int1 (by rfl) T.n_int PyProof.Rows.boot_int (pa_cons (pe_cmpR op_eq (pe_ix ix_str (pv 3) (pv 5) (fun _ _ => rfl)) pe_str (nomark _)) pa_nil)))
      (pss_cons (ps_set (i := 7) sc_law_order.nd rfl (Or.inl rfl) (pe_ix (ix_listK K) (pe_ix (ix_tupK K) (pe_tup (pa_cons (pv 1) (pa_cons (pv 2) pa_nil))) (pv 6) (fun _ _ => rfl)) (pe_m1 PySem.F.slot_str_count PySem.F.type_str_count mt_count (pe_slice sl_str (pv 3) po_none (po_some (pv 5))) (pe_ix ix_str (pv 3) (pv 5) (fun _ _ => rfl))) (fun _ _ => rfl)))
      (pss_cons (ps_if (pt_cmpR op_eq (pe_ix (ix_tupK K) (pv 7) pe_int (fun _ _ => rfl)) pe_str (nomark _)) (pss_one (ps_expr (pe_bm PySem.F.plainAttrs_list PySem.F.slot_list_append PySem.F.type_list_append mt_append (pe_ix (ix_tupK K) (pv 4) (pv 6) (fun _ _ => rfl)) (pa_cons (pe_ix (ix_listK K) (pv 0) (pe_ix (ix_tupK K) (pv 7) pe_int (fun _ _ => rfl)) (fun _ _ => rfl)) pa_nil)))) pss_nil)
      (pss_one (ps_if (pt_cmpR op_eq (pe_ix (ix_tupK K) (pv 7) pe_int (fun _ _ => rfl)) pe_str (nomark _)) (pss_one (ps_asg (pe_ix (ix_tupK K) (pv 7) pe_int (fun _ _ => rfl)) (pg_sub (pv 0) (pe_ix (ix_tupK K) (pv 7) pe_int (fun _ _ => rfl)) set_list))) pss_nil))))))
    (pss_one (ps_ret (pe_tup (pa_cons (pe_callTy call_tuple_of (by rfl) T.n_tuple PyProof.Rows.boot_tuple (pa_cons (pe_ix (ix_tupK K) (pv 4) pe_int (fun _ _ => rfl)) pa_nil)) (pa_cons (pe_callTy call_tuple_of (by rfl) T.n_tuple PyProof.Rows.boot_tuple (pa_cons (pe_ix (ix_tupK K) (pv 4) pe_int (fun _ _ => rfl)) pa_nil)) (pa_cons (pe_callTy call_tuple_of (by rfl) T.n_tuple PyProof.Rows.boot_tuple (pa_cons (pv 0) pa_nil)) pa_nil))))))))), ?_⟩
  have hPl := hP.length
  have hXl := hX.length
  have hol : o.length = ds.length + es.length := by
    have z := cnt_both o
    omega
  refine q_asgL (xs := ws.map wV) (fun H2 f2 Q q => ⟨_, rfl, m, _, rfl, .inr (ex_t f2 hm), fun l hl => q l _ hl (Ex.new hl) upd_same⟩) fun w' H2 nw f2 hw => ?_
  refine ⟨by show 0 ≤ sizeLine; decide, fun s' ns => ⟨by show 0 ≤ sizeLine; decide, fun o' no => ⟨by show 2 ≤ sizeLine; decide, fun st nst => ?_⟩⟩⟩
  refine gn ?_
  dsimp only
  have g1 := Ex.new (o := .lst []) ns
  have g2 := Ex.new (o := .lst []) no
  have g3 := Ex.new (o := .tup [.ref s', .ref o']) nst
  have hs3 : (upd (upd (upd H2 s' (.lst [])) o' (.lst [])) st (.tup [.ref s', .ref o'])) s' = some (.lst []) := g3 _ _ (g2 _ _ upd_same)
  have ho3 : (upd (upd (upd H2 s' (.lst [])) o' (.lst [])) st (.tup [.ref s', .ref o'])) o' = some (.lst []) := g3 _ _ upd_same
  have ht3 : (upd (upd (upd H2 s' (.lst [])) o' (.lst [])) st (.tup [.ref s', .ref o'])) st = some (.tup [.ref s', .ref o']) := upd_same
  have f3 : Ex H2 (upd (upd (upd H2 s' (.lst [])) o' (.lst [])) st (.tup [.ref s', .ref o'])) := (g1.trans g2).trans g3
  have nws : w' ≠ s' := ne_of_none hw ns
  have nwo : w' ≠ o' := ne_of_none (g1 _ _ hw) no
  have nso : s' ≠ o' := ne_of_none upd_same no
  have nw0 : H w' = none := nw
  have ns0 : H s' = none := fresh_back f2 ns
  have no0 : H o' = none := fresh_back (f2.trans g1) no
  generalize upd (upd (upd H2 s' (.lst [])) o' (.lst [])) st (.tup [.ref s', .ref o']) = H3 at f3 hs3 ho3 ht3 ⊢
  have f13 := f2.trans f3
  have fit0 := Fit1.begin0 (c := ws.length) (l := ds) (r := es) rfl hw3 hok1 hok2
  refine q_forR1 (n := (o.length : Int)) (ea_cons (ev_cb (ea_cons (ev_var (v := .str (oS o)) rfl) ea_nil) (rc_lenO (by omega))) ea_nil) (by omega) (fun i σ' H' => ∃ (v5 v6 v7 : Option V), σ' = [some (.ref w'), some (.ref p), some (.ref q), some (.str (oS o)), some (.ref st), v5, v6, v7] ∧
      H' w' = some (.lst ((fol (o.take i) (begin0 ws ds es)).ws.map wV)) ∧ H' s' = some (.lst ((fol (o.take i) (begin0 ws ds es)).ss.map wV)) ∧ H' o' = some (.lst ((fol (o.take i) (begin0 ws ds es)).os.map wV)) ∧ H' st = some (.tup [.ref s', .ref o']) ∧ Ex H H')
    (fun H4 f4 => ⟨none, none, none, rfl, f4 _ _ (f3 _ _ hw), f4 _ _ hs3, f4 _ _ ho3, f4 _ _ ht3, f13.trans f4⟩) ?_ ?_
  · rintro i σ' H' hi ⟨v5, v6, v7, rfl, gw, gs, go, gt, ge⟩
    have hi : i < o.length := by omega
    obtain ⟨bb, hbb⟩ : ∃ bb, o[i]? = some bb := ⟨o[i], by simp [hi]⟩
    have fit := Fit1.fol (o.take i) _ _ fit0
    have ll := fol_l (o.take i) (begin0 ws ds es)
    have lr := fol_r (o.take i) (begin0 ws ds es)
    have tk := fol_take hbb (begin0 ws ds es)
    have cS : (o.take (i + 1)) = o.take i ++ [bb] := by rw [List.take_add_one, hbb]; rfl
    have cl : (o.take i).length = i := by rw [List.length_take]; omega
    have z1 := fit.ss
    have z2 := fit.os
    have es1 : decide (V.str (oS [bb]) = V.str "r") = bb := by rw [oS_r, oS_is]; cases bb <;> decide
    refine q_asg (v := .int (if bb then 1 else 0)) (ev_cb (ea_cons (ev_is (ev_op (x := .str (oS [bb])) (y := .str "r") (ev_op (ev_var (v := .str (oS o)) rfl) (ev_var (v := .int (i : Nat)) rfl) (rv_ixO (by omega) hbb)) ev_c (rv_eq rfl)) (by rw [es1])) ea_nil) rc_intB) fun H5 f5 => ?_
    have cB : (o.take (i + 1)).count bb ≤ o.count bb := (List.take_sublist _ _).count_le _
    rw [cS, List.count_append, List.count_singleton_self] at cB
    -- the deed
    obtain ⟨pp, ps, dl, hps, hPs, hcn, hhd, hatp⟩ : ∃ (pp : Addr) (ps : List V) (dl : List Deed), SqL K H pp ps ∧ PV K H ps dl ∧ o.count bb = dl.length ∧ (if bb then (fol (o.take i) (begin0 ws ds es)).r.headD .rs else (fol (o.take i) (begin0 ws ds es)).l.headD .rs) = dl.getD ((o.take i).count bb) .rs ∧ atI ([.ref p, .ref q] : List V) (if bb then 1 else 0) = some (.ref pp) := by
      cases bb with
      | true => exact ⟨q, xs, es, hq, hX, c2, by rw [if_pos rfl, lr]; exact headD_drop es _, rfl⟩
      | false => exact ⟨p, us, ds, hp, hP, c1, by rw [if_neg Bool.false_ne_true, ll]; exact headD_drop ds _, rfl⟩
    have lps := hPs.length
    have hlt : (o.take i).count bb < ps.length := by omega
    have ge5 := ge.trans f5
    obtain ⟨d, hd, dv⟩ := (hPs.mono ge5).get (List.getElem?_eq_getElem hlt)
    rw [List.getD_eq_getElem?_getD, hd] at hhd
    replace hhd : (if bb then (fol (o.take i) (begin0 ws ds es)).r.headD .rs else (fol (o.take i) (begin0 ws ds es)).l.headD .rs) = d := hhd
    refine q_asg (v := ps[(o.take i).count bb]) (ev_op (x := .ref pp) (y := .int ((o.take i).count bb : Nat)) (ev_ixNewT (xs := [.ref p, .ref q]) (i := if bb then 1 else 0) (eu_tup (ea_cons (ev_var (v := .ref p) rfl) (ea_cons (ev_var (v := .ref q) rfl) ea_nil)) (by simp)) (ev_var rfl) hatp)
      (ev_countO (o := o.take i) (b := bb) (ev_slO (ev_var (v := .str (oS o)) rfl) eo_none (eo_some (ev_var (v := .int (i : Nat)) rfl)) (by omega)) (ev_op (ev_var (v := .str (oS o)) rfl) (ev_var (v := .int (i : Nat)) rfl) (rv_ixO (by omega) hbb)) rfl) (rv_ixL (ex_l ge5 hps) (atI_nat (List.getElem?_eq_getElem hlt)))) fun H6 f6 => ?_
    have okd : d.ok ws.length := by
      rw [← hhd]
      cases bb with
      | true => exact ok_headD fit.okr
      | false => exact ok_headD fit.okl
    have f56 := f5.trans f6
    have ge6 := ge.trans f56
    generalize ps[(o.take i).count bb] = vd at dv ⊢
    have dv := dv.mono f6
    -- is it a read
    have hS := fit.len
    generalize fol (o.take i) (begin0 ws ds es) = S at *
    rw [← hS] at okd
    obtain ⟨rr, hrr, hat2, hz⟩ : ∃ rr : Addr, H6 rr = some (.lst ((if bb then S.os else S.ss).map wV)) ∧ atI ([.ref s', .ref o'] : List V) (if bb then 1 else 0) = some (.ref rr) ∧ rr = (if bb then o' else s') := by
      cases bb with
      | true => exact ⟨o', f56 _ _ go, rfl, rfl⟩
      | false => exact ⟨s', f56 _ _ gs, rfl, rfl⟩
    have zl : (if bb then S.os else S.ss).length ≤ 100 := by
      cases bb with
      | true => show S.os.length ≤ 100; omega
      | false => show S.ss.length ≤ 100; omega
    have nwr : w' ≠ rr := by rw [hz]; cases bb <;> assumption
    refine q_ro (K := K) (i := 7) (w := w') (rr := rr) (ws := S.ws) (rs := if bb then S.os else S.ss) (te := tOp (rIxT K) (tVar 4) (tVar 6)) (tw := tVar 0) rfl dv (f56 _ _ gw) hrr nwr okd (by omega) (fun H7 f7 => ev_op (ev_var (v := .ref st) rfl) (ev_var (v := .int (if bb then 1 else 0)) rfl) (rv_ixT (SqT.of (f7 _ _ (f56 _ _ gt))) hat2)) (fun H7 f7 => ev_var rfl) fun H7 b7 w7 r7 => ?_
    have dv7 := dv_buts b7 (by simp [hrr]) dv
    refine wr_body (K := K) (i := 7) (j := 0) (p := w') (x := vd) (dd := d) (u := S.ws) rfl rfl dv7 w7 okd fun H8 b8 w8 => ?_
    have r8 := b8 rr _ (by simp [nwr.symm]) r7
    have bb8 : Bt [w', rr] H' H8 := ((Bt.of_ex f56).trans (b7.mono (by simp))).trans (b8.mono (by simp))
    have nstw : st ≠ w' := ne_of gt gw (by intro z; cases z)
    have nsts : st ≠ s' := ne_of gt gs (by intro z; cases z)
    have nsto : st ≠ o' := ne_of gt go (by intro z; cases z)
    have ex8 : Ex H H8 := ((Bt.of_ex ge).trans bb8).ex (by rw [hz]; cases bb <;> simp [nw0, ns0, no0])
    refine ⟨_, _, _, rfl, ?_, ?_, ?_, bb8 _ _ (by rw [hz]; cases bb <;> simp [nstw, nsts, nsto]) gt, ex8⟩
    · rw [tk, w8]
      cases bb with
      | true => show _ = some (HO.lst ((wrl S.ws (S.r.headD .rs)).map wV)); rw [if_pos rfl] at hhd; rw [hhd]
      | false => show _ = some (HO.lst ((wrl S.ws (S.l.headD .rs)).map wV)); rw [if_neg Bool.false_ne_true] at hhd; rw [hhd]
    · rw [tk]
      cases bb with
      | true => show _ = some (HO.lst (S.ss.map wV)); exact bb8 _ _ (by rw [hz]; simp [nws.symm, nso]) gs
      | false =>
        show _ = some (HO.lst ((S.ss ++ rdl S.ws (S.l.headD .rs)).map wV))
        rw [if_neg Bool.false_ne_true] at hhd
        rw [hhd]
        have e : rr = s' := hz
        rw [← e]
        exact r8
    · rw [tk]
      cases bb with
      | true =>
        show _ = some (HO.lst ((S.os ++ rdl S.ws (S.r.headD .rs)).map wV))
        rw [if_pos rfl] at hhd
        rw [hhd]
        have e : rr = o' := hz
        rw [← e]
        exact r8
      | false => show _ = some (HO.lst (S.os.map wV)); exact bb8 _ _ (by rw [hz]; simp [nwo.symm, nso.symm]) go
  · rintro σ' H' ⟨v5, v6, v7, rfl, gw, gs, go, gt, ge⟩
    rw [Int.toNat_natCast, List.take_length] at gw gs go
    refine ⟨_, rfl, st, _, 0, _, rfl, rfl, SqT.of gt, rfl, s', _, rfl, .inl ⟨SqL.of gs, fun a na => ?_⟩⟩
    have g1 := Ex.new (o := .tup ((fol o (begin0 ws ds es)).ss.map wV)) na
    refine ⟨_, rfl, st, _, 1, _, rfl, rfl, SqT.of (g1 _ _ gt), rfl, o', _, rfl, .inl ⟨SqL.of (g1 _ _ go), fun b nb => ?_⟩⟩
    have g2 := Ex.new (o := .tup ((fol o (begin0 ws ds es)).os.map wV)) nb
    refine ⟨_, rfl, w', _, rfl, .inl ⟨SqL.of (g2 _ _ (g1 _ _ gw)), fun c nc => ?_⟩⟩
    have g3 := Ex.new (o := .tup ((fol o (begin0 ws ds es)).ws.map wV)) nc
    refine ⟨by show 3 ≤ sizeLine; decide, fun t nt => ?_⟩
    have g4 := Ex.new (o := .tup [.ref a, .ref b, .ref c]) nt
    exact k _ _ ⟨t, a, b, c, rfl, SqT.of upd_same, SqT.of (g4 _ _ (g3 _ _ (g2 _ _ upd_same))), SqT.of (g4 _ _ (g3 _ _ upd_same)), SqT.of (g4 _ _ upd_same)⟩ ((((ge.trans g1).trans g2).trans g3).trans g4)

/-- the i-th of so many draws: a number from 0 on, below m -/
def sp_law_next : Sp := fun vs H Q _ => ∃ (h l : Addr) (m : Int), vs = [.ref h, .int m] ∧ Draw H h l ∧ 0 < m ∧ m < 1073741824 ∧ ∀ (r : Int) (H' : Hp), 0 ≤ r → r < m → Drew H H' h l → Q (.int r) H'
theorem d_law_next (T : Nb mg) (h : Has K mg "_law_next" s_law_next) : Dn P w K mg base CX0 "_law_next" ["_law_h", "_law_many"] 1 sp_law_next := by
  refine dn_of h (fun f fd F => F.binds fun _ _ _ _ _ _ us hl => match us, hl with | [_, _], _ => rfl) fun f fd F _ => F.ok sc_law_next (fun vs H Q E h => ?_) (fun cdv A outer s H vs Q E hr h => ?_)
  · obtain ⟨_, _, _, rfl, _⟩ := h
    rfl
  · obtain ⟨h, l, m, rfl, D, hm, hm2, k⟩ := h
    refine ⟨_, (pss_cons (ps_set (i := 2) sc_law_next.nd rfl (Or.inl rfl) (pe_op op_mod (pe_ix (ix_listK K) (pv 0) pe_int (fun _ _ => rfl)) (pe_callB (call_max2 rfl) (by rfl) T.n_max PyProof.Rows.boot_max (pa_cons pe_int (pa_cons (pe_callB (call_len_seqK K) (by rfl) T.n_len PySem.boot_len (pa_cons (pe_ix (ix_listK K) (pv 0) pe_int (fun _ _ => rfl)) pa_nil)) pa_nil)))))
    (pss_cons (ps_set (i := 3) sc_law_next.nd rfl (Or.inl rfl) (pe_ifExp (pt_cmpR (op_neDK K rfl hr.units) (pe_ix (ix_listK K) (pv 0) pe_int (fun _ _ => rfl)) (pe_lst pa_nil) (nomark _)) (pe_ix (ix_listK K) (pe_ix (ix_listK K) (pv 0) pe_int (fun _ _ => rfl)) (pv 2) (fun _ _ => rfl)) pe_int))
    (pss_cons (ps_if (pt_cmpR op_ge (pv 3) (pe_op op_pow pe_int pe_int) (nomark _)) (pss_cons (ps_asg (pe_op op_fdiv (pv 3) (pv 1)) (pg_sub (pe_ix (ix_listK K) (pv 0) pe_int (fun _ _ => rfl)) (pv 2) set_list))
      (pss_one (ps_ret (pe_op op_mod (pv 3) (pv 1))))) pss_nil)
    (pss_cons (ps_asg (pe_op op_mod (pe_op op_add (pe_op op_add (pe_op op_mul (pe_ix (ix_listK K) (pv 0) pe_int (fun _ _ => rfl)) pe_int) (pe_op op_mul (pv 3) pe_int)) pe_int) pe_int) (pg_sub (pv 0) pe_int set_list))
    (pss_cons (ps_asg (pe_op op_add (pe_ix (ix_listK K) (pv 0) pe_int (fun _ _ => rfl)) pe_int) (pg_sub (pv 0) pe_int set_list))
    (pss_one (ps_ret (pe_op op_mod (pe_op op_fdiv (pe_ix (ix_listK K) (pv 0) pe_int (fun _ _ => rfl)) pe_int) (pv 1))))))))), ?_⟩
    obtain ⟨a, p, ns, e1, e2, e3⟩ := D.st
    have hhl := D.ne
    have hM : (0 : Int) < (if ((ns.map V.int).length : Int) > 1 then ((ns.map V.int).length : Int) else 1) := by split <;> omega
    refine q_asg (v := .int (p % (if ((ns.map V.int).length : Int) > 1 then ((ns.map V.int).length : Int) else 1))) (by walk_at "ev") fun H1 f1 => ?_
    have a0 := Int.emod_nonneg p (Int.ne_of_gt hM)
    have a1 := Int.emod_lt_of_pos p hM
    generalize hat : p % (if ((ns.map V.int).length : Int) > 1 then ((ns.map V.int).length : Int) else 1) = t at *
    have c1 := f1 _ _ e1
    have c2 := f1 _ _ e2
    obtain ⟨c, hc⟩ : ∃ c : Int, Ev (tIf (tTest (tOp (rNeD K) (tOp (rIxL K) (tVar 0) (tC (.int 1))) (tLst tNil))) (tOp (rIxL K) (tOp (rIxL K) (tVar 0) (tC (.int 1))) (tVar 2)) (tC (.int 0))) ((start ["_law_h", "_law_many", "_law_at", "_law_cell"] [.ref h, .int m]).set 2 (some (.int t))) H1 (.int c)
        ∧ (c ≠ 0 → ∃ j : Nat, t = (j : Int) ∧ j < ns.length) := by
      cases ns with
      | nil =>
        refine ⟨0, ev_ifF (et_test (ev_is (ev_opL (xs := []) (by walk_at "ev") (el_lst ea_nil (by decide)) fun p H2 hp f2 => rv_neD (n := 1) (m := 1) (d := .list []) (e := .list []) (.lst (SqL.of (f2 _ _ c2)) .nil) (.lst (SqL.of hp) .nil) (sh_lst fun _ z => nomatch z) (sh_lst fun _ z => nomatch z) (by decide) (by decide)) rfl)) ev_c, fun z => absurd rfl z⟩
      | cons n r =>
        obtain ⟨j, rfl⟩ : ∃ j : Nat, t = (j : Int) := ⟨t.toNat, by omega⟩
        have hj : j < (n :: r).length := by
          have q : ((n :: r).map V.int).length = (n :: r).length := List.length_map ..
          rw [q] at a1
          have q2 : (n :: r).length = r.length + 1 := rfl
          split at a1 <;> omega
        have hx : ((n :: r).map V.int)[j]? = some (.int (n :: r)[j]) := by rw [List.getElem?_map, List.getElem?_eq_getElem hj]; rfl
        refine ⟨(n :: r)[j], ev_ifT (et_test (ev_is (ev_opL (xs := []) (by walk_at "ev") (el_lst ea_nil (by decide)) fun p H2 hp f2 => rv_neD (n := 1) (m := 1) (d := .list ((n :: r).map PyData.int)) (e := .list []) (.lst (SqL.of (f2 _ _ c2)) (dpa_ints _)) (.lst (SqL.of hp) .nil) (sh_ints _) (sh_lst fun _ z => nomatch z) (by decide) (by decide)) rfl)) (by walk_at "ev"), fun _ => ⟨j, rfl, hj⟩⟩
    refine q_asg hc.1 fun H2 f2 => ?_
    have d1 := f2 _ _ c1
    have d2 := f2 _ _ c2
    have f02 := f1.trans f2
    refine q_when (b := decide ((10 : Int) ^ (18 : Int).toNat ≤ c)) (et_test (by walk_at "ev")) (fun hb H3 f3 => ?_) (fun hb H3 f3 => ?_)
    · have hb := of_decide_eq_true hb
      have e18 : (10 : Int) ^ (18 : Int).toNat = 1000000000000000000 := by decide
      rw [e18] at hb
      have e1 := f3 _ _ d1
      have e2 := f3 _ _ d2
      obtain ⟨j, rfl, hj⟩ := hc.2 (by omega)
      refine q_setL (l := l) (v := .int (c / m)) (j := j) e2 (by walk_at "ev") (by walk_at "ev") (by walk_at "ev") (by rw [List.length_map]; exact hj) fun H4 f4 => ?_
      refine s_ret (v := .int (c % m)) (by walk_at "ev") fun H5 f5 => ?_
      have g0 : Bt [h, l] H (upd H4 l (.lst ((ns.map V.int).set j (.int (c / m))))) := (Bt.of_ex ((f02.trans f3).trans f4)).upd (.inl (by simp))
      refine k _ _ (Int.emod_nonneg _ (by omega)) (Int.emod_lt_of_pos _ hm) ⟨Draw.mono f5 ⟨a, p, ns.set j (c / m), ?_, ?_, ?_⟩, g0.trans (Bt.of_ex f5)⟩
      · rw [upd_ne hhl]; exact f4 _ _ e1
      · rw [List.map_set]; exact upd_same
      · rw [List.length_set]; exact e3
    · have e1 := f3 _ _ d1
      have e2 := f3 _ _ d2
      refine q_setL (l := h) (v := .int ((a * 48271 + c * 69621 + 11) % 2147483647)) (j := 0) e1 (by walk_at "ev") (by walk_at "ev") (by walk_at "ev") (by simp) fun H4 f4 => ?_
      have g1 : (upd H4 h (.lst (([.int a, .ref l, .int p] : List V).set 0 (.int ((a * 48271 + c * 69621 + 11) % 2147483647))))) h = some (.lst [.int ((a * 48271 + c * 69621 + 11) % 2147483647), .ref l, .int p]) := upd_same
      refine q_setL (l := h) (v := .int (p + 1)) (j := 2) g1 (by walk_at "ev") (by walk_at "ev") (by walk_at "ev") (by simp) fun H5 f5 => ?_
      have g2 : (upd H5 h (.lst (([.int ((a * 48271 + c * 69621 + 11) % 2147483647), .ref l, .int p] : List V).set 2 (.int (p + 1))))) h = some (.lst [.int ((a * 48271 + c * 69621 + 11) % 2147483647), .ref l, .int (p + 1)]) := upd_same
      refine s_ret (v := .int ((a * 48271 + c * 69621 + 11) % 2147483647 / 7 % m)) (by walk_at "ev") fun H6 f6 => ?_
      refine k _ _ (Int.emod_nonneg _ (by omega)) (Int.emod_lt_of_pos _ hm) ⟨Draw.mono f6 ⟨_, p + 1, ns, g2, ?_, e3⟩, ?_⟩
      · rw [upd_ne hhl.symm]
        refine f5 _ _ ?_
        rw [upd_ne hhl.symm]
        exact f4 _ _ e2
      · have b1 : Bt [h, l] H (upd H4 h (.lst (([.int a, .ref l, .int p] : List V).set 0 (.int ((a * 48271 + c * 69621 + 11) % 2147483647))))) := (Bt.of_ex ((f02.trans f3).trans f4)).upd (.inl (by simp))
        exact ((b1.trans (Bt.of_ex f5)).upd (.inl (by simp))).trans (Bt.of_ex f6)

/-- the draws are laid -/
def sp_law_mix (K : PySem.W.Frag) : Sp := fun vs H Q _ => ∃ (a : Addr) (s : Int) (ns : List Int), vs = [.ref a, .int s] ∧ SqL K H a (ns.map V.int) ∧ ns.length ≤ 63 ∧ ∀ (h l : Addr) (H' : Hp), Ex H H' → Draw H' h l → Q (.ref h) H'
theorem d_law_mix (T : Nb mg) (h : Has K mg "_law_mix" s_law_mix) : Dn P w K mg base CX0 "_law_mix" ["_law_script", "_law_seed"] 1 (sp_law_mix K) := by
  refine dn_of h (fun f fd F => F.binds fun _ _ _ _ _ _ us hl => match us, hl with | [_, _], _ => rfl) fun f fd F _ => F.ok sc_law_mix (fun vs H Q E h => ?_) (fun cdv A outer s H vs Q E hr h => ?_)
  · obtain ⟨_, _, _, rfl, _⟩ := h
    rfl
  · obtain ⟨a, sd, ns, rfl, hS, hn, k⟩ := h
    refine ⟨_, (pss_cons (ps_set (i := 2) sc_law_mix.nd rfl (Or.inl rfl) (pv 1))
    (pss_cons (ps_for PassesOwn.never rfl (pi_list (pv 0)) (pg_name (i := 3) sc_law_mix.nd rfl (Or.inl rfl))
      (pss_one (ps_set (i := 2) sc_law_mix.nd rfl (Or.inl rfl) (pe_op op_mod (pe_op op_add (pe_op op_add (pe_op op_mul (pv 2) pe_int) (pe_op op_mod (pv 3) pe_int)) pe_int) pe_int))))
    (pss_one (ps_ret (pe_lst (pa_cons (pv 2) (pa_cons (pe_callTy (call_list_ofK K) (by rfl) T.n_list PyProof.Rows.boot_list (pa_cons (pv 0) pa_nil)) (pa_cons pe_int pa_nil)))))))), ?_⟩
    refine q_asg (v := .int sd) (by walk_at "ev") fun H1 f1 => ?_
    refine q_forLn (a := a) (xs := ns.map V.int) (by walk_at "ev") (ex_l f1 hS) (fun _ σ' H' => ∃ (z : Int) (v : Option V), σ' = [some (.ref a), some (.int sd), some (.int z), v] ∧ Ex H H')
      (fun H2 f2 => ⟨sd, none, rfl, f1.trans f2⟩) (fun i σ' H' _ ⟨_, _, _, e⟩ => ex_l e hS) ?_ ?_
    · rintro i x σ' H' hi ⟨z, v, rfl, e⟩
      obtain ⟨n, rfl⟩ : ∃ n, x = V.int n := by
        rw [List.getElem?_map] at hi
        cases q : ns[i]? with
        | none => rw [q] at hi; cases hi
        | some n => rw [q] at hi; exact ⟨n, (Option.some.inj hi).symm⟩
      exact s_asg (v := .int ((z * 48271 + n % 2147483629 + 1) % 2147483647)) (by walk_at "ev") fun H2 f2 => ⟨_, _, rfl, e.trans f2⟩
    · rintro σ' H' ⟨z, v, rfl, e⟩
      refine ⟨_, rfl, _, rfl, a, _, rfl, .inl (ex_l e hS), fun l hl => ⟨by show 3 ≤ sizeLine; decide, fun h hh => ?_⟩⟩
      have hlh : l ≠ h := ne_of_none upd_same hh
      refine k h l _ ((e.trans (Ex.new hl)).trans (Ex.new hh)) ⟨z, 0, ns, upd_same, ?_, hn⟩
      rw [upd_ne hlh]
      exact upd_same

/-- a deed at so many cells is drawn -/
def sp_law_deed (K : PySem.W.Frag) : Sp := fun vs H Q _ => ∃ (h l : Addr) (n : Nat), vs = [.ref h, .int n] ∧ Draw H h l ∧ 0 < n ∧ n ≤ 4 ∧ ∀ (v : V) (d : Deed) (H' : Hp), DV K H' v d → d.ok n → Drew H H' h l → Q v H'
theorem d_law_deed (T : Nb mg) (D_law_next : Dn P w K mg base CX0 "_law_next" ["_law_h", "_law_many"] 1 sp_law_next) (h : Has K mg "_law_deed" s_law_deed) : Dn P w K mg base CX0 "_law_deed" ["_law_h", "_law_cells"] 2 (sp_law_deed K) := by
  refine dn_of h (fun f fd F => F.binds fun _ _ _ _ _ _ us hl => match us, hl with | [_, _], _ => rfl) fun f fd F _ => F.ok sc_law_deed (fun vs H Q E h => ?_) (fun cdv A outer s H vs Q E hr h => ?_)
  · obtain ⟨_, _, _, rfl, _⟩ := h
    rfl
  · obtain ⟨h, l, n, rfl, D, hn, hn4, k⟩ := h
    refine ⟨_, (pss_cons (ps_set (i := 2) sc_law_deed.nd rfl (Or.inl rfl) (pe_dn D_law_next hr (by omega) pass0 (pa_cons (pv 0) (pa_cons (pv 1) pa_nil))))
    (pss_one (ps_ret (pe_ix (ix_listK K) (pe_lst (pa_cons (pe_tup (pa_cons pe_str (pa_cons (pv 2) pa_nil))) (pa_cons (pe_tup (pa_cons pe_str (pa_cons (pv 2) (pa_cons (pe_dn D_law_next hr (by omega) pass0 (pa_cons (pv 0) (pa_cons pe_int pa_nil))) pa_nil)))) (pa_cons (pe_tup (pa_cons pe_str (pa_cons (pv 2) pa_nil))) (pa_cons (pe_tup (pa_cons pe_str pa_nil)) pa_nil))))) (pe_op op_fdiv (pe_dn D_law_next hr (by omega) pass0 (pa_cons (pv 0) (pa_cons pe_int pa_nil))) pe_int) (fun _ _ => rfl))))), ?_⟩
    -- the cell
    refine ⟨_, rfl, _, rfl, h, l, n, rfl, D, by omega, by omega, fun c H1 c0 c1 D1 => ?_⟩
    obtain ⟨c, rfl⟩ : ∃ j : Nat, c = (j : Int) := ⟨c.toNat, by omega⟩
    -- the first tuple
    refine ⟨_, rfl, by show 2 ≤ sizeLine; decide, fun p1 n1 => ?_⟩
    have D2 := D1.new (o := .tup [.str "read", .int c]) n1
    -- the second one, its worth
    refine ⟨_, rfl, _, rfl, h, l, 3, rfl, D2.dr, by decide, by decide, fun r H3 r0 r1 D3 => ⟨by show 3 ≤ sizeLine; decide, fun p2 n2 => ?_⟩⟩
    obtain ⟨r, rfl⟩ : ∃ j : Nat, r = (j : Int) := ⟨r.toNat, by omega⟩
    have t1 : SqT K H3 p1 (Deed.rd c).vals := D2.dr.t D3.bt (SqT.of upd_same)
    have D4 := D3.new (o := .tup [.str "write", .int c, .int r]) n2
    -- the third one, the fourth one, the list
    refine ⟨_, rfl, by show 2 ≤ sizeLine; decide, fun p3 n3 => ⟨by show 1 ≤ sizeLine; decide, fun p4 n4 => ⟨by show 4 ≤ sizeLine; decide, fun pl nl => ?_⟩⟩⟩
    have D5 := D4.new (o := .tup [.str "read", .int c]) n3
    have D6 := D5.new (o := .tup [.str "rest"]) n4
    have D7 := D6.new (o := .lst [.ref p1, .ref p2, .ref p3, .ref p4]) nl
    -- which one
    refine ⟨_, rfl, h, l, 7, rfl, D7.dr, by decide, by decide, fun z H8 z0 z1 D8 => ?_⟩
    have e1 : SqT K H8 p1 (Deed.rd c).vals := D7.dr.t D8.bt (ex_t (Ex.new nl) (ex_t (Ex.new n4) (ex_t (Ex.new n3) (ex_t (Ex.new n2) t1))))
    have e2 : SqT K H8 p2 (Deed.wr c r).vals := D7.dr.t D8.bt (ex_t (Ex.new nl) (ex_t (Ex.new n4) (ex_t (Ex.new n3) (SqT.of upd_same))))
    have e3 : SqT K H8 p3 (Deed.rd c).vals := D7.dr.t D8.bt (ex_t (Ex.new nl) (ex_t (Ex.new n4) (SqT.of upd_same)))
    have e4 : SqT K H8 p4 Deed.rs.vals := D7.dr.t D8.bt (ex_t (Ex.new nl) (SqT.of upd_same))
    have hl7 : ¬ pl ∈ [h, l] := by
      obtain ⟨_, _, _, q1, q2, _⟩ := D6.dr.st
      simp only [List.mem_cons, List.not_mem_nil, or_false]
      rintro (rfl | rfl)
      · rw [nl] at q1; cases q1
      · rw [nl] at q2; cases q2
    have el : H8 pl = some (.lst [.ref p1, .ref p2, .ref p3, .ref p4]) := D8.bt _ _ hl7 upd_same
    have DD : Drew H H8 h l := (D2.trans D7).trans D8
    refine ⟨z, 2, rfl, rfl, ⟨by decide, by decide⟩, pl, _, z / 2, ?v, rfl, rfl, SqL.of el, ?w, ?q⟩
    case v => exact if z < 2 then .ref p1 else if z < 4 then .ref p2 else if z < 6 then .ref p3 else .ref p4
    case w =>
      by_cases h2 : z < 2
      · have : z / 2 = 0 := by omega
        rw [this, if_pos h2]; rfl
      · by_cases h4 : z < 4
        · have : z / 2 = 1 := by omega
          rw [this, if_neg h2, if_pos h4]; rfl
        · by_cases h6 : z < 6
          · have : z / 2 = 2 := by omega
            rw [this, if_neg h2, if_neg h4, if_pos h6]; rfl
          · have : z / 2 = 3 := by omega
            rw [this, if_neg h2, if_neg h4, if_neg h6]; rfl
    case q =>
      refine k _ (if z < 2 then .rd c else if z < 4 then .wr c r else if z < 6 then .rd c else .rs) H8 ?_ ?_ DD
      · split
        · exact ⟨p1, rfl, e1⟩
        · split
          · exact ⟨p2, rfl, e2⟩
          · split
            · exact ⟨p3, rfl, e3⟩
            · exact ⟨p4, rfl, e4⟩
      · split
        · show c < n; omega
        · split
          · exact ⟨by omega, by omega⟩
          · split
            · show c < n; omega
            · exact True.intro

/-- a program of up to so many deeds is drawn -/
def sp_law_program (K : PySem.W.Frag) : Sp := fun vs H Q _ => ∃ (h l : Addr) (n m : Nat), vs = [.ref h, .int n, .int m] ∧ Draw H h l ∧ 0 < n ∧ n ≤ 4 ∧ m ≤ 40 ∧
  ∀ (p : Addr) (us : List V) (ds : List Deed) (H' : Hp), H p = none → H' p = some (.lst us) → PV K H' us ds → ds.length ≤ m → (∀ d ∈ ds, d.ok n) → Drew H H' h l → Q (.ref p) H'
theorem d_law_program (T : Nb mg) (D_law_next : Dn P w K mg base CX0 "_law_next" ["_law_h", "_law_many"] 1 sp_law_next) (D_law_deed : Dn P w K mg base CX0 "_law_deed" ["_law_h", "_law_cells"] 2 (sp_law_deed K))
    (h : Has K mg "_law_program" s_law_program) : Dn P w K mg base CX0 "_law_program" ["_law_h", "_law_cells", "_law_most"] 3 (sp_law_program K) := by
  refine dn_of h (fun f fd F => F.binds fun _ _ _ _ _ _ us hl => match us, hl with | [_, _, _], _ => rfl) fun f fd F _ => F.ok sc_law_program (fun vs H Q E h => ?_) (fun cdv A outer s H vs Q E hr h => ?_)
  · obtain ⟨_, _, _, _, rfl, _⟩ := h
    rfl
  · obtain ⟨h, l, n, m, rfl, D, hn, hn4, hm, k⟩ := h
    refine ⟨_, (pss_one (ps_ret (pe_lc (own := [("_law_k", 3)]) rfl sc_law_program.nd (pi_range1 rfl T.n_range (pa_cons (pe_dn D_law_next hr (by omega) pass0 (pa_cons (pv 0) (pa_cons (pe_op op_add (pv 2) pe_int) pa_nil))) pa_nil)) (blkOk_by (own := [("_law_k", 3)]) (N := ["_law_h", "_law_cells", "_law_most", "_law_k"]) (sc := defScope s_law_program) (by decide +kernel)) (fun _ _ _ _ _ => (pg_name (i := 3) sc_law_program.nd rfl (Or.inl rfl))) (fun _ _ _ _ _ => pts_nil) (fun _ _ _ _ _ => (pe_dn D_law_deed hr (by omega) pass0 (pa_cons (pv 0) (pa_cons (pv 1) pa_nil))))))), ?_⟩
    refine ⟨_, rfl, _, rfl, _, _, rfl, rfl, h, l, (m : Int) + 1, rfl, D, by omega, by omega, fun c H1 c0 c1 D1 => ?_⟩
    obtain ⟨c, rfl⟩ : ∃ j : Nat, c = (j : Int) := ⟨c.toNat, by omega⟩
    refine ⟨(c : Int), rfl, by omega, by omega, fun p hp => ?_⟩
    have hp0 : ¬ p ∈ [h, l] := by
      obtain ⟨_, _, _, q1, q2, _⟩ := D1.dr.st
      simp only [List.mem_cons, List.not_mem_nil, or_false]
      rintro (rfl | rfl)
      · rw [hp] at q1; cases q1
      · rw [hp] at q2; cases q2
    refine lc_range (lo := 0) (n := (c : Int).toNat) (fun i H' => ∃ us ds, H' p = some (.lst us) ∧ PV K H' us ds ∧ ds.length = i ∧ (∀ d ∈ ds, d.ok n) ∧ Drew H H' h l)
      ⟨[], [], upd_same, .nil, rfl, (fun _ z => nomatch z), D1.new hp⟩ ?_ ?_
    · rintro i H' hi ⟨us, ds, e1, e2, e3, e4, e5⟩
      refine ⟨rfl, _, rfl, _, rfl, h, l, n, rfl, e5.dr, hn, hn4, fun v d H2 g1 g2 g3 => ⟨us, g3.bt p _ hp0 e1, ?_, us ++ [v], ds ++ [d], upd_same, ?_, ?_, ?_, ?_⟩⟩
      · have q := e2.length
        have q2 : (1000 : Nat) < sizeLine := by decide
        omega
      · have a1 : PV K H2 us ds := e5.dr.pv g3.bt e2
        have a2 := PV.snoc g1 a1
        have b : Bt [p] H2 (upd H2 p (.lst (us ++ [v]))) := (Bt.refl H2).upd (.inl (by simp))
        exact pv_map (fun v d q => dv_but b (g3.bt p _ hp0 e1) q) a2
      · rw [List.length_append, e3]; rfl
      · intro x hx
        rcases List.mem_append.mp hx with hx | hx
        · exact e4 x hx
        · rw [List.mem_singleton.mp hx]; exact g2
      · have g := e5.trans g3
        refine ⟨?_, g.bt.upd (.inr (D1.bt.free hp0 hp))⟩
        obtain ⟨a, p', ns, q1, q2, q3⟩ := g.dr.st
        refine ⟨a, p', ns, ?_, ?_, q3⟩
        · rw [upd_ne (fun z => hp0 (by rw [← z]; simp))]; exact q1
        · rw [upd_ne (fun z => hp0 (by rw [← z]; simp))]; exact q2
    · rintro H' ⟨us, ds, e1, e2, e3, e4, e5⟩
      exact k p us ds H' (D1.bt.free hp0 hp) e1 e2 (by omega) e4 e5

/-- a memory of so many cells is drawn -/
def sp_law_memory (K : PySem.W.Frag) : Sp := fun vs H Q _ => ∃ (h l : Addr) (n : Nat), vs = [.ref h, .int n] ∧ Draw H h l ∧ n ≤ 4 ∧
  ∀ (p : Addr) (ws : List Nat) (H' : Hp), H p = none → H' p = some (.tup (ws.map wV)) → ws.length = n → (∀ x ∈ ws, x < 3) → Drew H H' h l → Q (.ref p) H'
theorem d_law_memory (T : Nb mg) (D_law_next : Dn P w K mg base CX0 "_law_next" ["_law_h", "_law_many"] 1 sp_law_next) (h : Has K mg "_law_memory" s_law_memory) : Dn P w K mg base CX0 "_law_memory" ["_law_h", "_law_cells"] 2 (sp_law_memory K) := by
  refine dn_of h (fun f fd F => F.binds fun _ _ _ _ _ _ us hl => match us, hl with | [_, _], _ => rfl) fun f fd F _ => F.ok sc_law_memory (fun vs H Q E h => ?_) (fun cdv A outer s H vs Q E hr h => ?_)
  · obtain ⟨_, _, _, rfl, _⟩ := h
    rfl
  · obtain ⟨h, l, n, rfl, D, hn4, k⟩ := h
    refine ⟨_, (pss_one (ps_ret (pe_callTy call_tuple_of (by rfl) T.n_tuple PyProof.Rows.boot_tuple (pa_cons (pe_lc (own := [("_law_k", 2)]) rfl sc_law_memory.nd (pi_range1 rfl T.n_range (pa_cons (pv 1) pa_nil)) (blkOk_by (own := [("_law_k", 2)]) (N := ["_law_h", "_law_cells", "_law_k"]) (sc := defScope s_law_memory) (by decide +kernel)) (fun _ _ _ _ _ => (pg_name (i := 2) sc_law_memory.nd rfl (Or.inl rfl))) (fun _ _ _ _ _ => pts_nil) (fun _ _ _ _ _ => (pe_dn D_law_next hr (by omega) pass0 (pa_cons (pv 0) (pa_cons pe_int pa_nil))))) pa_nil)))), ?_⟩
    refine ⟨_, rfl, (n : Int), rfl, by omega, by omega, fun p hp => ?_⟩
    have hp0 : ¬ p ∈ [h, l] := by
      obtain ⟨_, _, _, q1, q2, _⟩ := D.st
      simp only [List.mem_cons, List.not_mem_nil, or_false]
      rintro (rfl | rfl)
      · rw [hp] at q1; cases q1
      · rw [hp] at q2; cases q2
    refine lc_range (lo := 0) (n := (n : Int).toNat) (fun i H' => ∃ ws : List Nat, H' p = some (.lst (ws.map wV)) ∧ ws.length = i ∧ (∀ x ∈ ws, x < 3) ∧ Drew H H' h l)
      ⟨[], upd_same, rfl, (fun _ z => nomatch z), (Drew.refl D).new hp⟩ ?_ ?_
    · rintro i H' hi ⟨ws, e1, e3, e4, e5⟩
      refine ⟨rfl, _, rfl, h, l, 3, rfl, e5.dr, by decide, by decide, fun r H2 r0 r1 g3 => ?_⟩
      obtain ⟨r, rfl⟩ : ∃ j : Nat, r = (j : Int) := ⟨r.toNat, by omega⟩
      refine ⟨ws.map wV, g3.bt p _ hp0 e1, ?_, ws ++ [r], ?_, ?_, ?_, ?_⟩
      · have q2 : (1000 : Nat) < sizeLine := by decide
        rw [List.length_map]
        omega
      · rw [upd_same, List.map_append]
        rfl
      · rw [List.length_append, e3]; rfl
      · intro x hx
        rcases List.mem_append.mp hx with hx | hx
        · exact e4 x hx
        · rw [List.mem_singleton.mp hx]; omega
      · have g := e5.trans g3
        refine ⟨?_, g.bt.upd (.inr hp)⟩
        obtain ⟨a, p', ns, q1, q2, q3⟩ := g.dr.st
        refine ⟨a, p', ns, ?_, ?_, q3⟩
        · rw [upd_ne (fun z => hp0 (by rw [← z]; simp))]; exact q1
        · rw [upd_ne (fun z => hp0 (by rw [← z]; simp))]; exact q2
    · rintro H' ⟨ws, e1, e3, e4, e5⟩
      refine ⟨p, _, rfl, .inl ⟨SqL.of e1, fun t ht => ?_⟩⟩
      exact k t ws _ (e5.bt.free (by
        obtain ⟨_, _, _, q1, q2, _⟩ := e5.dr.st
        simp only [List.mem_cons, List.not_mem_nil, or_false]
        rintro (rfl | rfl)
        · rw [ht] at q1; cases q1
        · rw [ht] at q2; cases q2) ht) upd_same (by omega) e4 (e5.new ht)

/-- two that are the same data are found alike -/
def sp_law_alike (K : PySem.W.Frag) : Nat → Sp
  | 0 => fun _ _ _ _ => False
  | n + 1 => fun vs H Q _ => ∃ (a b : V) (d : PyData), vs = [a, b] ∧ Dp K H a d ∧ Dp K H b d ∧ Nice n d ∧ ∀ H', Ex H H' → Q (.bl true) H'
theorem sp_law_alike_v {n : Nat} {H : Hp} {a b : V} {d : PyData} (h1 : Dp K H a d) (h2 : Dp K H b d) (h3 : Nice n d) : SpV (sp_law_alike K (n + 1)) [a, b] H (.bl true) := fun H1 e Q q _ =>
  ⟨a, b, d, rfl, dp_mono e d a h1, dp_mono e d b h2, h3, q⟩
theorem d_law_alike (T : Nb mg) (h : Has K mg "_law_alike" s_law_alike) : ∀ n, Dn P w K mg base CX0 "_law_alike" ["_law_found", "_law_due"] (n + 1) (sp_law_alike K n)
  | 0 => by
    refine dn_of h (fun f fd F => F.binds fun _ _ _ _ _ _ us hl => match us, hl with | [_, _], _ => rfl) fun f fd F _ => ⟨fun _ _ _ _ z => z.elim, fun _ _ _ _ _ _ _ _ _ _ _ _ _ z => z.elim⟩
  | n + 1 => by
    have D_law_alike := d_law_alike T h n
    refine dn_of h (fun f fd F => F.binds fun _ _ _ _ _ _ us hl => match us, hl with | [_, _], _ => rfl) fun f fd F _ => F.ok sc_law_alike (fun vs H Q E h => ?_) (fun cdv A outer s H vs Q E hr h => ?_)
    · obtain ⟨_, _, _, rfl, _⟩ := h
      rfl
    · obtain ⟨a, b, d, rfl, h1, h2, h3, k⟩ := h
      refine ⟨_, (pss_cons (ps_if (pt_val (pe_callB (call_isiTK K) (by rfl) T.n_isinstance PyProof.Rows.boot_isinstance (pa_cons (pv 1) (pa_cons (pe_tup (pa_cons (pe_bltn (v := .ty "tuple") rfl T.n_tuple PyProof.Rows.boot_tuple rfl) (pa_cons (pe_bltn (v := .ty "list") rfl T.n_list PyProof.Rows.boot_list rfl) pa_nil))) pa_nil)))) (pss_cons (ps_if (PW.pt (pw_or (pt_not (pt_val (pe_callB (call_isiTK K) (by rfl) T.n_isinstance PyProof.Rows.boot_isinstance (pa_cons (pv 0) (pa_cons (pe_tup (pa_cons (pe_bltn (v := .ty "tuple") rfl T.n_tuple PyProof.Rows.boot_tuple rfl) (pa_cons (pe_bltn (v := .ty "list") rfl T.n_list PyProof.Rows.boot_list rfl) pa_nil))) pa_nil))))) (pw_or1 (pt_cmpR op_ne (pe_callB (call_isiK2 K) (by rfl) T.n_isinstance PyProof.Rows.boot_isinstance (pa_cons (pv 0) (pa_cons (pe_bltn (v := .ty "list") rfl T.n_list PyProof.Rows.boot_list rfl) pa_nil))) (pe_callB (call_isiK2 K) (by rfl) T.n_isinstance PyProof.Rows.boot_isinstance (pa_cons (pv 1) (pa_cons (pe_bltn (v := .ty "list") rfl T.n_list PyProof.Rows.boot_list rfl) pa_nil))) (nomark _))))) (pss_one (ps_ret pe_bl)) pss_nil)
      (pss_cons (ps_if (pt_cmpR op_ne (pe_callB (call_len_seqK K) (by rfl) T.n_len PySem.boot_len (pa_cons (pv 0) pa_nil)) (pe_callB (call_len_seqK K) (by rfl) T.n_len PySem.boot_len (pa_cons (pv 1) pa_nil)) (nomark _)) (pss_one (ps_ret pe_bl)) pss_nil)
      (pss_one (ps_ret (pe_cmpR (op_eqDK K rfl hr.units) (pe_lc (own := [("_law_k", 2)]) rfl sc_law_alike.nd (pi_range1 rfl T.n_range (pa_cons (pe_callB (call_len_seqK K) (by rfl) T.n_len PySem.boot_len (pa_cons (pv 1) pa_nil)) pa_nil)) (blkOk_by (own := [("_law_k", 2)]) (N := ["_law_found", "_law_due", "_law_k"]) (sc := defScope s_law_alike) (by decide +kernel)) (fun _ _ _ _ _ => (pg_name (i := 2) sc_law_alike.nd rfl (Or.inl rfl))) (fun _ _ _ _ _ => pts_one (pt_not (pt_val (pe_dn D_law_alike hr (by omega) pass0 (pa_cons (pe_ix (ix_anyK K) (pv 0) (pv 2) (fun _ _ => rfl)) (pa_cons (pe_ix (ix_anyK K) (pv 1) (pv 2) (fun _ _ => rfl)) pa_nil)))))) (fun _ _ _ _ _ => (pv 2))) (pe_lst pa_nil) (nomark _)))))) pss_nil)
    (pss_cons (ps_if (pt_cmpR op_isN (pv 1) pe_non (nomark _)) (pss_one (ps_ret (pe_cmpR op_isN (pv 0) pe_non (nomark _)))) pss_nil)
    (pss_cons (ps_if (pt_val (pe_callB (call_isiK2 K) (by rfl) T.n_isinstance PyProof.Rows.boot_isinstance (pa_cons (pv 1) (pa_cons (pe_bltn (v := .ty "str") rfl T.n_str PyProof.Rows.boot_str rfl) pa_nil)))) (pss_one (ps_ret (pe_and (pe_callB (call_isiK2 K) (by rfl) T.n_isinstance PyProof.Rows.boot_isinstance (pa_cons (pv 0) (pa_cons (pe_bltn (v := .ty "str") rfl T.n_str PyProof.Rows.boot_str rfl) pa_nil))) (pe_one (pe_cmpR op_eq (pv 0) (pv 1) (nomark _)))))) pss_nil)
    (pss_cons (ps_if (PW.pt (pw_or (pt_val (pe_callB (call_isiK2 K) (by rfl) T.n_isinstance PyProof.Rows.boot_isinstance (pa_cons (pv 1) (pa_cons (pe_bltn (v := .ty "bool") rfl T.n_bool PyProof.Rows.boot_bool rfl) pa_nil)))) (pw_or1 (pt_val (pe_callB (call_isiK2 K) (by rfl) T.n_isinstance PyProof.Rows.boot_isinstance (pa_cons (pv 0) (pa_cons (pe_bltn (v := .ty "bool") rfl T.n_bool PyProof.Rows.boot_bool rfl) pa_nil))))))) (pss_one (ps_ret (pe_and (pe_callB (call_isiK2 K) (by rfl) T.n_isinstance PyProof.Rows.boot_isinstance (pa_cons (pv 1) (pa_cons (pe_bltn (v := .ty "bool") rfl T.n_bool PyProof.Rows.boot_bool rfl) pa_nil))) (pe_and (pe_callB (call_isiK2 K) (by rfl) T.n_isinstance PyProof.Rows.boot_isinstance (pa_cons (pv 0) (pa_cons (pe_bltn (v := .ty "bool") rfl T.n_bool PyProof.Rows.boot_bool rfl) pa_nil))) (pe_one (pe_cmpR op_eq (pv 0) (pv 1) (nomark _))))))) pss_nil)
    (pss_one (ps_ret (pe_and (pe_callB (call_isiK2 K) (by rfl) T.n_isinstance PyProof.Rows.boot_isinstance (pa_cons (pv 0) (pa_cons (pe_bltn (v := .ty "int") rfl T.n_int PyProof.Rows.boot_int rfl) pa_nil))) (pe_one (pe_cmpR op_eq (pv 0) (pv 1) (nomark _)))))))))), ?_⟩
      have cs : (∃ (p q : Addr) (xs ys : List V) (ds : List PyData) (ty : String), a = .ref p ∧ b = .ref q ∧ SqA K H p xs ∧ SqA K H q ys ∧ DpAll K H xs ds ∧ DpAll K H ys ds ∧ ds.length ≤ 1000 ∧ (∀ d ∈ ds, ∃ m, m + 1 = n ∧ Nice m d) ∧
          TyS K H a (.type ty) ∧ TyS K H b (.type ty) ∧ (ty = "list" ∨ ty = "tuple")) ∨
          (∃ ty : String, TyS K H a (.type ty) ∧ TyS K H b (.type ty) ∧ kitB ty "tuple" = some false ∧ kitB ty "list" = some false ∧ ((ty = "NoneType" ∧ a = .non ∧ b = .non) ∨ (b ≠ .non ∧ a = b ∧ (ty = "int" ∨ ty = "str" ∨ ty = "bool") ∧ scal a a = true))) := by
        cases h3 with
        | non =>
          cases h1; cases h2
          exact .inr ⟨"NoneType", tys_non, tys_non, by decide +kernel, by decide +kernel, .inl ⟨rfl, rfl, rfl⟩⟩
        | bl x =>
          cases h1; cases h2
          exact .inr ⟨"bool", tys_bl, tys_bl, by decide +kernel, by decide +kernel, .inr ⟨(fun z => by cases z), rfl, .inr (.inr rfl), rfl⟩⟩
        | int x =>
          cases h1; cases h2
          exact .inr ⟨"int", tys_int, tys_int, by decide +kernel, by decide +kernel, .inr ⟨(fun z => by cases z), rfl, .inl rfl, rfl⟩⟩
        | str x =>
          cases h1; cases h2
          exact .inr ⟨"str", tys_str, tys_str, by decide +kernel, by decide +kernel, .inr ⟨(fun z => by cases z), rfl, .inr (.inl rfl), rfl⟩⟩
        | @lst m ds hl hd =>
          cases h1 with
          | lst a1 a2 =>
            cases h2 with
            | lst b1 b2 => exact .inl ⟨_, _, _, _, ds, "list", rfl, rfl, .inl a1, .inl b1, a2, b2, hl, (fun d z => ⟨m, rfl, hd d z⟩), tys_lst a1, tys_lst b1, .inl rfl⟩
        | @tup m ds hl hd =>
          cases h1 with
          | tup a1 a2 =>
            cases h2 with
            | tup b1 b2 => exact .inl ⟨_, _, _, _, ds, "tuple", rfl, rfl, .inr a1, .inr b1, a2, b2, hl, (fun d z => ⟨m, rfl, hd d z⟩), tys_tup a1, tys_tup b1, .inr rfl⟩
      rcases cs with ⟨p, q, xs, ys, ds, ty, ea, eb, ha, hb, h4, h5, h6, h7, ta, tb, hty⟩ | ⟨ty, ta, tb, k1, k2, hc⟩
      · have ha0 := ha
        have hb0 := hb
        subst ea eb
        have l1 := dpa_len h4
        have l2 := dpa_len h5
        obtain ⟨b1, b2, k1, k2, hb⟩ : ∃ b1 b2, kitB ty "tuple" = some b1 ∧ kitB ty "list" = some b2 ∧ (b1 || b2) = true := by
          rcases hty with rfl | rfl
          · exact ⟨false, true, by decide +kernel, by decide +kernel, rfl⟩
          · exact ⟨true, false, by decide +kernel, by decide +kernel, rfl⟩
        refine q_when (b := true) (et_B (ev_is (ev_isi2 (by walk_at "ev") tb k1 k2) (by rw [hb]))) (fun _ H1 f1 => ?_) (fun z => nomatch z)
        refine q_when (b := false) (et_is (et_or (et_not (et_B (ev_isi2 (by walk_at "ev") (fun H2 f2 => ta H2 (f1.trans f2)) k1 k2))) (fun _ => et_test (ev_op (ev_cb (by walk_at "ea") (rc_isiB (fun H2 f2 => ta H2 (f1.trans f2)) k2)) (ev_cb (by walk_at "ea") (rc_isiB (fun H2 f2 => tb H2 (f1.trans f2)) k2)) (rv_ne rfl))))
          (by rw [hb]; cases b2 <;> decide)) (fun z => nomatch z) (fun _ H2 f2 => ?_)
        have ha2 := ex_a (f1.trans f2) ha
        have hb2 := ex_a (f1.trans f2) hb0
        refine q_when (b := false) (et_is (et_test (ev_op (ev_cb (by walk_at "ea") (rc_len ha2)) (ev_cb (by walk_at "ea") (rc_len hb2)) (rv_ne rfl))) (by rw [l1, l2]; simp)) (fun z => nomatch z) (fun _ H3 f3 => ?_)
        have f03 := (f1.trans f2).trans f3
        have ha3 := ex_a f3 ha2
        have hb3 := ex_a f3 hb2
        refine s_ret (v := .bl true) (ev_opLL (xs := []) (ys := []) (by
          have q := el_lcR1 (σ := start ["_law_found", "_law_due", "_law_k"] [.ref p, .ref q]) (H := H3) (ta := tCons (tCB (rLenS K) (tCons (tVar 1) tNil)) tNil) (n := (ys.length : Int)) (j := 2) (vs := [2]) (te := tVar 2) (t := tNot (tB (tCall (sp_law_alike K n) [] E0 (tCons (tOp (rIxA K) (tVar 0) (tVar 2)) (tCons (tOp (rIxA K) (tVar 1) (tVar 2)) tNil))))) (fun _ => false) (fun _ => .non)
            (ea_cons (ev_cb (by walk_at "ea") (rc_len hb3)) ea_nil) (by omega) (fun x => rfl) (fun i H4 f4 hi => ?_) (fun i H4 f4 hi z => nomatch z)
          · rw [given_none] at q
            exact q
          · obtain ⟨d, hd⟩ : ∃ d, ds[i]? = some d := ⟨ds[i], List.getElem?_eq_getElem (by omega)⟩
            obtain ⟨x, hx, dx⟩ := dpa_get h4 hd
            obtain ⟨y, hy, dy⟩ := dpa_get h5 hd
            obtain ⟨m, rfl, hm⟩ := h7 d (List.mem_of_getElem? hd)
            have f04 := f03.trans f4
            have c := sp_law_alike_v (K := K) (dp_mono f04 d x dx) (dp_mono f04 d y dy) hm
            exact et_not (et_B (ev_call (ea_cons (ev_op (by walk_at "ev") (by walk_at "ev") (rv_ixA (ex_a f4 ha3) (atI_nat hx))) (ea_cons (ev_op (by walk_at "ev") (by walk_at "ev") (rv_ixA (ex_a f4 hb3) (atI_nat hy))) ea_nil)) c)))
          (el_lst ea_nil (by decide)) fun p1 p2 H4 g1 g2 f4 => rv_is (rv_eqD (n := 1) (m := 1) (d := .list []) (e := .list []) (.lst (SqL.of g1) .nil) (.lst (SqL.of g2) .nil) (sh_lst fun _ z => nomatch z) (sh_lst fun _ z => nomatch z) (by decide) (by decide)) rfl) fun H4 f4 => k H4 (f03.trans f4)
      · refine q_when (b := false) (et_B (ev_isi2 (by walk_at "ev") tb k1 k2)) (fun z => nomatch z) (fun _ H1 f1 => ?_)
        rcases hc with ⟨rfl, rfl, rfl⟩ | ⟨hb, rfl, hty, hs⟩
        · refine q_when (b := true) (et_is (et_test (ev_op (x := .non) (y := .non) (by walk_at "ev") (by walk_at "ev") (rv_val fun H2 _ Q q => ⟨rfl, q⟩))) (by decide)) (fun _ H2 f2 => ?_) (fun z => nomatch z)
          exact s_ret (v := .bl true) (ev_op (x := .non) (y := .non) (by walk_at "ev") (by walk_at "ev") (rv_val fun H2 _ Q q => ⟨rfl, q⟩)) fun H3 f3 => k H3 ((f1.trans f2).trans f3)
        · refine q_when (b := false) (et_is (et_test (ev_op (x := a) (y := .non) (z := .bl (decide (a = .non))) (by walk_at "ev") (by walk_at "ev") (rv_val fun H2 _ Q q => ⟨rfl, q⟩))) (by simp [hb])) (fun z => nomatch z) (fun _ H2 f2 => ?_)
          have ta2 : TyS K H2 a (.type ty) := fun H3 f3 => ta H3 ((f1.trans f2).trans f3)
          rcases hty with rfl | rfl | rfl
          · refine q_when (b := false) (et_B (ev_cb (by walk_at "ea") (rc_isiB ta2 (by decide +kernel)))) (fun z => nomatch z) (fun _ H3 f3 => ?_)
            have ta3 : TyS K H3 a (.type "int") := fun H4 f4 => ta2 H4 (f3.trans f4)
            refine q_when (b := false) (et_is (a := false || false) (et_or (et_B (ev_cb (by walk_at "ea") (rc_isiB (b := false) ta3 (by decide +kernel)))) (fun _ => et_B (ev_cb (by walk_at "ea") (rc_isiB (b := false) ta3 (by decide +kernel))))) rfl) (fun z => nomatch z) (fun _ H4 f4 => ?_)
            have ta4 : TyS K H4 a (.type "int") := fun H5 f5 => ta3 H5 (f4.trans f5)
            exact s_ret (v := .bl true) (ev_is (ev_andV (a := true) (b := decide (a = a)) (ev_cb (by walk_at "ea") (rc_isiB (b := true) ta4 (by decide +kernel))) (fun _ => ev_op (x := a) (y := a) (by walk_at "ev") (by walk_at "ev") (rv_eq hs))) (by simp)) fun H5 f5 => k H5 ((((f1.trans f2).trans f3).trans f4).trans f5)
          · refine q_when (b := true) (et_B (ev_cb (by walk_at "ea") (rc_isiB ta2 (by decide +kernel)))) (fun _ H3 f3 => ?_) (fun z => nomatch z)
            have ta3 : TyS K H3 a (.type "str") := fun H4 f4 => ta2 H4 (f3.trans f4)
            exact s_ret (v := .bl true) (ev_is (ev_andV (a := true) (b := decide (a = a)) (ev_cb (by walk_at "ea") (rc_isiB (b := true) ta3 (by decide +kernel))) (fun _ => ev_op (x := a) (y := a) (by walk_at "ev") (by walk_at "ev") (rv_eq hs))) (by simp)) fun H4 f4 => k H4 (((f1.trans f2).trans f3).trans f4)
          · refine q_when (b := false) (et_B (ev_cb (by walk_at "ea") (rc_isiB ta2 (by decide +kernel)))) (fun z => nomatch z) (fun _ H3 f3 => ?_)
            have ta3 : TyS K H3 a (.type "bool") := fun H4 f4 => ta2 H4 (f3.trans f4)
            refine q_when (b := true) (et_is (et_or (a := true) (b := true) (et_B (ev_cb (by walk_at "ea") (rc_isiB (b := true) ta3 (by decide +kernel)))) (fun z => nomatch z)) rfl) (fun _ H4 f4 => ?_) (fun z => nomatch z)
            have ta4 : TyS K H4 a (.type "bool") := fun H5 f5 => ta3 H5 (f4.trans f5)
            exact s_ret (v := .bl true) (ev_is (ev_andV (a := true) (b := true && decide (a = a)) (ev_cb (by walk_at "ea") (rc_isiB (b := true) ta4 (by decide +kernel))) (fun _ => ev_andV (a := true) (b := decide (a = a)) (ev_cb (by walk_at "ea") (rc_isiB (b := true) ta4 (by decide +kernel))) (fun _ => ev_op (x := a) (y := a) (by walk_at "ev") (by walk_at "ev") (rv_eq hs)))) (by simp)) fun H5 f5 => k H5 ((((f1.trans f2).trans f3).trans f4).trans f5)

def sp_law (K : PySem.W.Frag) : Sp := fun vs H Q _ => ∃ (a : Addr) (ns : List Int), vs = [.ref a] ∧ SqL K H a (ns.map V.int) ∧ ns.length ≤ 63 ∧ ∀ H', Q (.bl true) H'
theorem d_law (T : Nb mg) (D_law_mix : Dn P w K mg base CX0 "_law_mix" ["_law_script", "_law_seed"] 1 (sp_law_mix K)) (D_law_next : Dn P w K mg base CX0 "_law_next" ["_law_h", "_law_many"] 1 sp_law_next) (D_law_memory : Dn P w K mg base CX0 "_law_memory" ["_law_h", "_law_cells"] 2 (sp_law_memory K))
    (D_law_program : Dn P w K mg base CX0 "_law_program" ["_law_h", "_law_cells", "_law_most"] 3 (sp_law_program K)) (D_law_order : Dn P w K mg base CX0 "_law_order" ["_law_memory_here", "_law_left", "_law_right", "_law_order_here"] 1 (sp_law_order K)) (D_law_alike : Dn P w K mg base CX0 "_law_alike" ["_law_found", "_law_due"] 4 (sp_law_alike K 3))
    (D_run : Dn P w K mg base CX0 "run" ["rule", "memory", "left", "right"] 6 (sp_run K)) (D_ordered : Dn P w K mg base CX0 "ordered" ["memory", "left", "right", "order"] 6 (sp_ordered K)) {f : Addr} {fd : FuncData} (F : Fun K "law" "law" s_law f fd) : FnOk P w K mg base CX0 7 f fd ["_law_script"] (sp_law K) := by
  refine F.ok sc_law (fun vs H Q E h => ?_) (fun cdv A outer s H vs Q E hr h => ?_)
  · obtain ⟨_, _, rfl, _⟩ := h
    rfl
  obtain ⟨a, ns, rfl, hS, hn, k⟩ := h
  refine ⟨_, (pss_cons (ps_set (i := 1) sc_law.nd rfl (Or.inl rfl) (pe_dn D_law_mix hr (by omega) pass0 (pa_cons (pv 0) (pa_cons pe_int pa_nil))))
    (pss_cons (ps_for PassesOwn.never rfl (pi_range1 rfl T.n_range (pa_cons pe_int pa_nil)) (pg_name (i := 2) sc_law.nd rfl (Or.inl rfl))
      (pss_cons (ps_set (i := 3) sc_law.nd rfl (Or.inl rfl) (pe_op op_add pe_int (pe_dn D_law_next hr (by omega) pass0 (pa_cons (pv 1) (pa_cons pe_int pa_nil)))))
      (pss_cons (ps_set (i := 4) sc_law.nd rfl (Or.inl rfl) (pe_dn D_law_memory hr (by omega) pass0 (pa_cons (pv 1) (pa_cons (pv 3) pa_nil))))
      (pss_cons (ps_par (i := 5) (j := 6) rfl sc_law.nd rfl rfl (by decide) rfl rfl (pa_cons (pe_dn D_law_program hr (by omega) pass0 (pa_cons (pv 1) (pa_cons (pv 3) (pa_cons pe_int pa_nil)))) (pa_cons (pe_dn D_law_program hr (by omega) pass0 (pa_cons (pv 1) (pa_cons (pv 3) (pa_cons pe_int pa_nil)))) pa_nil)) rfl)
      (pss_cons (ps_set (i := 7) sc_law.nd rfl (Or.inl rfl) (pe_op op_cat (pe_op op_rep (pe_lst (pa_cons pe_str pa_nil)) (pe_callB (call_len_seqK K) (by rfl) T.n_len PySem.boot_len (pa_cons (pv 5) pa_nil))) (pe_op op_rep (pe_lst (pa_cons pe_str pa_nil)) (pe_callB (call_len_seqK K) (by rfl) T.n_len PySem.boot_len (pa_cons (pv 6) pa_nil)))))
      (pss_cons (ps_set (i := 8) sc_law.nd rfl (Or.inl rfl) pe_str)
      (pss_cons (ps_while PassesOwn.never (pt_cmpR (op_neDK K rfl hr.units) (pv 7) (pe_lst pa_nil) (nomark _))
        (pss_one (ps_set (i := 8) sc_law.nd rfl (Or.inl rfl) (pe_op op_add_str (pv 8) (pe_bm PySem.F.plainAttrs_list PySem.F.slot_list_pop PySem.F.type_list_pop mt_popAt (pv 7) (pa_cons (pe_dn D_law_next hr (by omega) pass0 (pa_cons (pv 1) (pa_cons (pe_callB (call_len_seqK K) (by rfl) T.n_len PySem.boot_len (pa_cons (pv 7) pa_nil)) pa_nil))) pa_nil))))))
      (pss_cons (ps_if (pt_not (pt_val (pe_dn D_law_alike hr (by omega) pass0 (pa_cons (pe_dn D_ordered hr (by omega) pass0 (pa_cons (pv 4) (pa_cons (pv 5) (pa_cons (pv 6) (pa_cons (pv 8) pa_nil))))) (pa_cons (pe_dn D_law_order hr (by omega) pass0 (pa_cons (pv 4) (pa_cons (pv 5) (pa_cons (pv 6) (pa_cons (pv 8) pa_nil))))) pa_nil))))) (pss_one (ps_ret pe_bl)) pss_nil)
      (pss_one (ps_if (pt_cmpR op_le (pe_op op_add (pe_callB (call_len_seqK K) (by rfl) T.n_len PySem.boot_len (pa_cons (pv 5) pa_nil)) (pe_callB (call_len_seqK K) (by rfl) T.n_len PySem.boot_len (pa_cons (pv 6) pa_nil))) pe_int (nomark _)) (pss_cons (ps_asg (pe_dn D_run hr (by omega) pass0 (pa_cons pe_str (pa_cons (pv 4) (pa_cons (pv 5) (pa_cons (pe_op op_cat (pe_op op_rep (pe_lst (pa_cons (pe_tup (pa_cons pe_str pa_nil)) pa_nil)) (pe_callB (call_len_seqK K) (by rfl) T.n_len PySem.boot_len (pa_cons (pv 5) pa_nil))) (pv 6)) pa_nil))))) (pg_tup rfl (pgs_cons (pg_name (i := 9) sc_law.nd rfl (Or.inl rfl)) (pgs_cons (pg_name (i := 10) sc_law.nd rfl (Or.inl rfl)) (pgs_cons (pg_name (i := 11) sc_law.nd rfl (Or.inl rfl)) (pgs_cons (pg_name (i := 12) sc_law.nd rfl (Or.inl rfl)) pgs_nil))))))
        (pss_one (ps_if (pt_cmpR (op_neDK K rfl hr.units) (pe_dn D_ordered hr (by omega) pass0 (pa_cons (pv 4) (pa_cons (pv 5) (pa_cons (pv 6) (pa_cons (pe_op op_add_str (pe_op Zen.op_mulS pe_str (pe_callB (call_len_seqK K) (by rfl) T.n_len PySem.boot_len (pa_cons (pv 5) pa_nil))) (pe_op Zen.op_mulS pe_str (pe_callB (call_len_seqK K) (by rfl) T.n_len PySem.boot_len (pa_cons (pv 6) pa_nil)))) pa_nil))))) (pe_tup (pa_cons (pe_callTy call_tuple_of (by rfl) T.n_tuple PyProof.Rows.boot_tuple (pa_cons (pv 9) pa_nil)) (pa_cons (pe_callTy call_tuple_of (by rfl) T.n_tuple PyProof.Rows.boot_tuple (pa_cons (pv 10) pa_nil)) (pa_cons (pv 11) pa_nil)))) (nomark _)) (pss_one (ps_ret pe_bl)) pss_nil))) pss_nil))))))))))
    (pss_one (ps_ret pe_bl)))), ?_⟩
  refine ⟨_, rfl, a, 29, ns, rfl, hS, hn, fun h l H1 f1 D1 => ?_⟩
  refine gn ?_
  dsimp only
  refine q_forR1 (n := 4) (by walk_at "ea") (by decide) (fun _ σ' H' => ∃ v2 v3 v4 v5 v6 v7 v8 v9 v10 v11 v12 : Option V, σ' = [some (.ref a), some (.ref h), v2, v3, v4, v5, v6, v7, v8, v9, v10, v11, v12] ∧ Draw H' h l)
    (fun H2 f2 => ⟨none, none, none, none, none, none, none, none, none, none, none, rfl, D1.mono f2⟩) ?_ (fun σ' H' ⟨_, _, _, _, _, _, _, _, _, _, _, e, _⟩ => by subst e; exact k _)
  rintro i σ' H2 hi ⟨v2, v3, v4, v5, v6, v7, v8, v9, v10, v11, v12, rfl, D2⟩
  -- cells
  refine ⟨_, rfl, h, l, 4, rfl, D2, by decide, by decide, fun c H3 c0 c1 D3 => ⟨1, c, rfl, rfl, ?_⟩⟩
  refine gn ?_
  dsimp only
  obtain ⟨n, hn1⟩ : ∃ n : Nat, 1 + c = (n : Int) := ⟨(1 + c).toNat, by omega⟩
  rw [hn1]
  have hn0 : 0 < n := by omega
  have hn4 : n ≤ 4 := by omega
  -- the memory
  refine ⟨_, rfl, _, rfl, h, l, n, rfl, D3.dr, hn4, fun pm ws H4 nm hm4 hl4 hs4 D4 => ?_⟩
  refine gn ?_
  dsimp only
  -- two programs
  refine ⟨_, rfl, _, rfl, h, l, n, 40, rfl, D4.dr, hn0, hn4, by decide, fun p us ds H6 np hp6 hP6 hl6 hok6 D6 => ⟨_, rfl, _, rfl, h, l, n, 40, rfl, D6.dr, hn0, hn4, by decide, fun q xs es H7 nq hq7 hX7 hl7 hok7 D7 => ⟨_, _, rfl, ?_⟩⟩⟩
  dsimp only
  have hm6 : SqT K H6 pm (ws.map wV) := D4.dr.t D6.bt (SqT.of hm4)
  have hp7 : H7 p = some (.lst us) := D7.bt _ _ (D4.dr.out np) hp6
  have hP7 : PV K H7 us ds := D6.dr.pv D7.bt hP6
  have hm7 : SqT K H7 pm (ws.map wV) := D6.dr.t D7.bt hm6
  have D7 := D7.dr
  have lu := hP7.length
  have lx := hX7.length
  have okd : ∀ d ∈ ds, d.ok ws.length := by rw [hl4]; exact hok6
  have oke : ∀ d ∈ es, d.ok ws.length := by rw [hl4]; exact hok7
  -- the signs
  have rep : ∀ (b : Bool) (n : Nat), (List.replicate n [sV b]).flatten = (List.replicate n b).map sV := fun b n => by rw [reps_flat, List.map_replicate]
  refine q_asgL (xs := (List.replicate us.length false ++ List.replicate xs.length true).map sV) (by
    rw [List.map_append, ← rep, ← rep]
    exact el_catN (el_rep (xs := [sV false]) (n := us.length) (el_lst (ea_cons (by rw [sV, ← oS_l]; exact ev_c) ea_nil) (by simp)) (ev_cb (ea_cons (ev_var (v := .ref p) rfl) ea_nil) (rc_lenL (SqL.of hp7))) (by show 1 * us.length ≤ _; omega) (by omega))
      (el_rep (xs := [sV true]) (n := xs.length) (el_lst (ea_cons (by rw [sV, ← oS_r]; exact ev_c) ea_nil) (by simp)) (ev_cb (ea_cons (ev_var (v := .ref q) rfl) ea_nil) (rc_lenL (SqL.of hq7))) (by show 1 * xs.length ≤ _; omega) (by omega))
      (by rw [rep, rep, List.length_map, List.length_map, List.length_replicate, List.length_replicate]; omega)) fun sg H8 nsg f8 hsg => ?_
  refine q_asg (v := .str (oS [])) (by rw [← oS_nil]; exact ev_c) fun H9 f9 => ?_
  have f79 := f8.trans f9
  have D9 := D7.mono f79
  have hsg9 := f9 _ _ hsg
  have hp9 := f79 _ _ hp7
  have hq9 := f79 _ _ hq7
  have hP9 := hP7.mono f79
  have hX9 := hX7.mono f79
  have hm9 := ex_t f79 hm7
  have nhs : sg ≠ h ∧ sg ≠ l := by
    have z := D7.out nsg
    simp only [List.mem_cons, List.not_mem_nil, or_false, not_or] at z
    exact z
  have nps : p ≠ sg := ne_of_none hp7 nsg
  have nqs : q ≠ sg := ne_of_none hq7 nsg
  have nph : ¬ p ∈ [h, l] := D4.dr.out np
  have nqh : ¬ q ∈ [h, l] := D6.dr.out nq
  have ls9 : ∀ z ∈ [h, l, sg], ∃ us, H9 z = some (.lst us) := by
    obtain ⟨_, _, _, q1, q2, _⟩ := D9.st
    simp [q1, q2, hsg9]
  refine q_while (fun mm σ' H' => ∃ (sl o : List Bool), mm = sl.length ∧ σ' = [some (.ref a), some (.ref h), some (.int (i : Int)), some (.int (n : Int)), some (.ref pm), some (.ref p), some (.ref q), some (.ref sg), some (.str (oS o)), v9, v10, v11, v12] ∧
      H' sg = some (.lst (sl.map sV)) ∧ Draw H' h l ∧ Bt [h, l, sg] H9 H' ∧ o.count false + sl.count false = us.length ∧ o.count true + sl.count true = xs.length) (us.length + xs.length)
    ⟨_, [], by simp, rfl, hsg9, D9, Bt.refl _, by rw [List.count_append, count_rep, count_rep]; simp, by rw [List.count_append, count_rep, count_rep]; simp⟩ ?_
  rintro mm σ' H' ⟨sl, o, rfl, rfl, gsg, gD, gB, e1, e2⟩
  have hol := cnt_both o
  have hsl := cnt_both sl
  refine ⟨decide (¬ sl = []), et_test (ev_is (ev_opL (x := .ref sg) (ev_var (v := .ref sg) rfl) (el_lst ea_nil (by decide)) fun pn H10 hn10 f10 => rv_neD (n := 1) (m := 1) (d := .list (sD sl)) (e := .list []) (.lst (SqL.of (f10 _ _ gsg)) (sD_dp sl)) (.lst (SqL.of hn10) .nil) (sh_sD _) (sh_lst fun _ z => nomatch z) (by decide) (by decide))
    (by rw [eqv_sD, ← decide_not])), fun hb H10 f10 => ?_, fun hb H10 f10 => ?_⟩
  · -- a sign is drawn
    have nsl : sl ≠ [] := of_decide_eq_true hb
    have psl : 0 < sl.length := List.length_pos_iff.mpr nsl
    refine ⟨fun σ2 H2 => ∃ (sl2 o : List Bool), sl2.length < sl.length ∧ σ2 = [some (.ref a), some (.ref h), some (.int (i : Int)), some (.int (n : Int)), some (.ref pm), some (.ref p), some (.ref q), some (.ref sg), some (.str (oS o)), v9, v10, v11, v12] ∧
      H2 sg = some (.lst (sl2.map sV)) ∧ Draw H2 h l ∧ Bt [h, l, sg] H9 H2 ∧ o.count false + sl2.count false = us.length ∧ o.count true + sl2.count true = xs.length, ?_, ?_⟩
    · rintro σ2 H2 ⟨sl2, o2, q1, q2⟩
      exact ⟨sl2.length, q1, sl2, o2, rfl, q2⟩
    have gsg10 := f10 _ _ gsg
    refine ⟨_, rfl, _, rfl, Or.inl ⟨rfl, _, SqL.of gsg10⟩, _, rfl, _, rfl, sg, _, rfl, .inl (SqL.of gsg10), h, l, ((sl.map sV).length : Int), rfl, gD.mono f10, by rw [List.length_map]; omega, by rw [List.length_map]; omega, fun z H11 z0 z1 D11 => ?_⟩
    rw [List.length_map] at z1
    have gsg11 := D11.bt sg _ (by simp [nhs]) gsg10
    have hz : z.toNat < sl.length := by omega
    have hat : sl[z.toNat]? = some sl[z.toNat] := List.getElem?_eq_getElem hz
    refine ⟨sg, sl.map sV, z, z.toNat, sV sl[z.toNat], rfl, rfl, gsg11, by omega, by omega, PySem.seqIndex_of z0 (by rw [List.length_map]; exact z1), by rw [List.getElem?_map, hat]; rfl, oS o, oS [sl[z.toNat]], rfl, rfl, sz_of (by rw [oS_len, oS_len]; simp; omega), ?_⟩
    refine gn ?_
    rw [oS_app]
    have ce := count_erase hat
    have hn10 : ∀ a b : List Bool, ∀ c, (a ++ b).count c = a.count c + b.count c := fun a b c => List.count_append
    refine ⟨sl.eraseIdx z.toNat, o ++ [sl[z.toNat]], by rw [List.length_eraseIdx_of_lt hz]; omega, rfl, ?_, ?_, ?_, by rw [hn10, ← e1, ← ce false]; omega, by rw [hn10, ← e2, ← ce true]; omega⟩
    · rw [upd_same, map_erase]
    · obtain ⟨a', p', ns', q1, q2, q3⟩ := D11.dr.st
      refine ⟨a', p', ns', ?_, ?_, q3⟩
      · rw [upd_ne nhs.1.symm]; exact q1
      · rw [upd_ne nhs.2.symm]; exact q2
    · exact ((gB.trans (Bt.of_ex f10)).trans (D11.bt.mono (by simp))).upd (.inl (by simp))
  · -- the order is there
    have esl : sl = [] := Decidable.not_not.mp (of_decide_eq_false hb)
    subst esl
    have c1 : o.count false = ds.length := by rw [← lu]; exact e1
    have c2 : o.count true = es.length := by rw [← lx]; exact e2
    have gB10 := gB.trans (Bt.of_ex f10)
    have hp10 := gB10 p _ (by simp only [List.mem_cons, List.not_mem_nil, or_false, not_or] at nph ⊢; exact ⟨nph.1, nph.2, nps⟩) hp9
    have hq10 := gB10 q _ (by simp only [List.mem_cons, List.not_mem_nil, or_false, not_or] at nqh ⊢; exact ⟨nqh.1, nqh.2, nqs⟩) hq9
    have hP10 := pv_buts gB10 ls9 hP9
    have hX10 := pv_buts gB10 ls9 hX9
    have hm10 := t_but gB10 ls9 hm9
    have D10 := gD.mono f10
    clear gB gB10 hP9 hX9 hm9 hp9 hq9 hsg9 ls9 D9
    have fit := Fit1.fol o _ _ (Fit1.begin0 (c := ws.length) (l := ds) (r := es) rfl hs4 okd oke)
    have nice := nice_q fit (by omega) (by omega)
    refine q_whenX (R := fun H11 => Ex H10 H11) (fun Q z => ⟨_, rfl, _, rfl, _, rfl, _, rfl, pm, p, q, ws, us, xs, ds, es, o, rfl, hm10, by omega, by omega, hs4, SqL.of hp10, hP10, by omega, okd, SqL.of hq10, hX10, by omega, oke, c1, c2, fun v H11 tv f11 =>
      ⟨_, rfl, _, rfl, _, rfl, _, rfl, pm, p, q, ws, us, xs, ds, es, o, rfl, ex_t f11 hm10, hs4, SqL.of (f11 _ _ hp10), hP10.mono f11, by omega, okd, SqL.of (f11 _ _ hq10), hX10.mono f11, by omega, oke, c1, c2, fun u H12 tu f12 => by
        show sp_law_alike K 3 [v, u] H12 (fun x H1 => ∃ c, x = V.bl c ∧ Q (!c) H1) E0
        exact sp_law_alike_v (K := K) (tv.mono f12).dp tu.dp nice H12 (Ex.refl H12) _ (fun H13 f13 => ⟨true, rfl, z H13 ((f11.trans f12).trans f13)⟩) _⟩⟩) fun H11 f11 => ?_
    have hp11 := f11 _ _ hp10
    have hq11 := f11 _ _ hq10
    have hP11 := hP10.mono f11
    have hX11 := hX10.mono f11
    have hm11 := ex_t f11 hm10
    have D11 := D10.mono f11
    -- one behind the other
    refine s_when (b := decide (us.length + xs.length ≤ 40)) (et_test (ev_is (ev_op (ev_op (ev_cb (ea_cons (ev_var (v := .ref p) rfl) ea_nil) (rc_lenL (SqL.of hp11))) (ev_cb (ea_cons (ev_var (v := .ref q) rfl) ea_nil) (rc_lenL (SqL.of hq11))) rv_I0) (ev_c (v := .int 40)) rv_I0) (by congr 1; exact decide_eq_decide.mpr (by omega)))) (fun hb H12 f12 => ?_) (fun _ H12 f12 => ⟨_, _, _, _, _, _, _, _, _, _, _, rfl, D11.mono f12⟩)
    have h40 : us.length + xs.length ≤ 40 := of_decide_eq_true hb
    have hp12 := f12 _ _ hp11
    have hq12 := f12 _ _ hq11
    have hP12 := hP11.mono f12
    have hX12 := hX11.mono f12
    have hm12 := ex_t f12 hm11
    have D12 := D11.mono f12
    clear hp11 hq11 hP11 hX11 hm11 D11
    refine ⟨_, rfl, _, rfl, by show 1 ≤ sizeLine; decide, fun pt npt => ⟨by show 1 ≤ sizeLine; decide, fun pl npl => ⟨_, rfl, p, us, rfl, .inl (SqL.of (Ex.new npl _ _ (Ex.new npt _ _ hp12))), pl, us.length, [.ref pt], rfl, rfl, upd_same, by omega, by omega, sz_of (by rw [Int.toNat_natCast]; show 1 * us.length ≤ 100000; omega), fun pr npr => ⟨_, rfl, pr, q, _, xs, rfl, rfl, upd_same, Ex.new npr _ _ (Ex.new npl _ _ (Ex.new npt _ _ hq12)), sz_of (by rw [Int.toNat_natCast, reps_flat, List.length_replicate]; omega), fun pc npc => ?_⟩⟩⟩⟩
    rw [Int.toNat_natCast, reps_flat] at npc ⊢
    have x1 := Ex.new (H := H12) (o := .tup [.str "rest"]) npt
    have x2 := Ex.new (o := .lst [.ref pt]) npl
    have x3 := Ex.new (o := .lst (List.replicate us.length (.ref pt))) npr
    have x4 := Ex.new (o := .lst (List.replicate us.length (.ref pt) ++ xs)) npc
    have hpt := x4 _ _ (x3 _ _ (x2 _ _ (upd_same (H := H12) (a := pt) (o := .tup [.str "rest"]))))
    have hpc := upd_same (H := upd (upd (upd H12 pt (.tup [.str "rest"])) pl (.lst [.ref pt])) pr (.lst (List.replicate us.length (.ref pt)))) (a := pc) (o := .lst (List.replicate us.length (.ref pt) ++ xs))
    have x14 := ((x1.trans x2).trans x3).trans x4
    generalize upd (upd (upd (upd H12 pt (.tup [.str "rest"])) pl (.lst [.ref pt])) pr (.lst (List.replicate us.length (.ref pt)))) pc (.lst (List.replicate us.length (.ref pt) ++ xs)) = H13 at hpt hpc x14 ⊢
    clear x1 x2 x3 x4
    have hPc : PV K H13 (List.replicate us.length (.ref pt) ++ xs) (List.replicate ds.length .rs ++ es) := by
      rw [lu]
      exact (PV.rests (SqT.of hpt) ds.length).append (hX12.mono x14)
    refine ⟨.new, pm, p, pc, ws, us, _, ds, _, rfl, ex_t x14 hm12, by omega, by omega, hs4, SqL.of (x14 _ _ hp12), hP12.mono x14, by omega, okd, SqL.of hpc, hPc, by rw [List.length_append, List.length_replicate]; omega, fun d hd => ?_, fun vd H14 td => ?_⟩
    · rcases List.mem_append.mp hd with hd | hd
      · rw [(List.mem_replicate.mp hd).2]; exact True.intro
      · exact oke d hd
    obtain ⟨t', s', o', m', rfl, a2, a3, a4, a5, _, _, _, f14⟩ := td
    refine ⟨t', _, rfl, SqT.of a2, rfl, _, _, rfl, _, _, rfl, _, _, rfl, _, _, rfl, rfl, ?_⟩
    dsimp only
    have f1214 := x14.trans f14
    have key := fol_left ds es ws [] [] 0 0
    have ev : ∀ H : Hp, Ex H14 H → Ev (tOp (fun x y H Q => ∃ i j, x = .str i ∧ y = .str j ∧ i.length + j.length ≤ sizeLine ∧ Q (.str (i ++ j)) H) (tOp (fun x y H Q => ∃ (c n : Nat), x = V.str ⟨#[c]⟩ ∧ y = V.int n ∧ n ≤ 100000 ∧ Q (.str ⟨(List.replicate n c).toArray⟩) H) (tC (.str "l")) (tCB (rLenS K) (tCons (tVar 5) tNil))) (tOp (fun x y H Q => ∃ (c n : Nat), x = V.str ⟨#[c]⟩ ∧ y = V.int n ∧ n ≤ 100000 ∧ Q (.str ⟨(List.replicate n c).toArray⟩) H) (tC (.str "r")) (tCB (rLenS K) (tCons (tVar 6) tNil))))
      [some (.ref a), some (.ref h), some (.int (i : Int)), some (.int (n : Int)), some (.ref pm), some (.ref p), some (.ref q), some (.ref sg), some (.str (oS o)), some (.ref s'), some (.ref o'), some (.ref m'), some (.int ((out .new (begin0 ws ds (List.replicate ds.length .rs ++ es))).n : Int))] H (.str (oS (List.replicate us.length false ++ List.replicate xs.length true))) := fun H f => by
      refine ev_op (x := .str (oS (List.replicate us.length false))) (y := .str (oS (List.replicate xs.length true))) (ev_op (by rw [oS_l]; exact ev_c) (ev_cb (ea_cons (ev_var (v := .ref p) rfl) ea_nil) (rc_lenL (SqL.of (f _ _ (f1214 _ _ hp12))))) (rv_mulS (by omega)))
        (ev_op (by rw [oS_r]; exact ev_c) (ev_cb (ea_cons (ev_var (v := .ref q) rfl) ea_nil) (rc_lenL (SqL.of (f _ _ (f1214 _ _ hq12))))) (rv_mulS (by omega))) (fun H1 _ Q z => ⟨_, _, rfl, rfl, sz_of (by rw [oS_len, oS_len, List.length_replicate, List.length_replicate]; omega), by rw [oS_app]; exact z H1 (Ex.refl H1)⟩)
    have cF : (List.replicate us.length false ++ List.replicate xs.length true).count false = ds.length := by rw [List.count_append, count_rep, count_rep]; simpa using lu
    have cT : (List.replicate us.length false ++ List.replicate xs.length true).count true = es.length := by rw [List.count_append, count_rep, count_rep]; simpa using lx
    refine s_whenX (R := fun H15 => Ex H14 H15) (fun Q z => ⟨_, rfl, _, rfl, _, rfl, ev H14 (Ex.refl _) H14 (Ex.refl _) _ fun H15 f15 => ?_⟩) (fun H15 f15 => ⟨_, _, _, _, _, _, _, _, _, _, _, rfl, D12.mono (f1214.trans f15)⟩)
    have f1215 := f1214.trans f15
    refine ⟨pm, p, q, ws, us, xs, ds, es, _, rfl, ex_t f1215 hm12, by omega, by omega, hs4, SqL.of (f1215 _ _ hp12), hP12.mono f1215, by omega, okd, SqL.of (f1215 _ _ hq12), hX12.mono f1215, by omega, oke, cF, cT, fun v H16 tv f16 => ?_⟩
    have f46 := f15.trans f16
    refine ⟨_, rfl, s', _, rfl, .inl ⟨SqL.of (f46 _ _ a3), fun b1 nb1 => ⟨_, rfl, o', _, rfl, .inl ⟨SqL.of (Ex.new nb1 _ _ (f46 _ _ a4)), fun b2 nb2 => ⟨_, rfl, by show 3 ≤ sizeLine; decide, fun b3 nb3 => ?_⟩⟩⟩⟩⟩
    have y1 := Ex.new (o := .tup ((out .new (begin0 ws ds (List.replicate ds.length .rs ++ es))).ss.map wV)) nb1
    have y2 := Ex.new (o := .tup ((out .new (begin0 ws ds (List.replicate ds.length .rs ++ es))).os.map wV)) nb2
    have y3 := Ex.new (o := .tup [.ref b1, .ref b2, .ref m']) nb3
    have y13 := (y1.trans y2).trans y3
    refine (rv_neD (K := K) (tv.mono y13).dp (y := .ref b3) (e := datQ (out .new (begin0 ws ds (List.replicate ds.length .rs ++ es)))) (Told3.dp ⟨b3, b1, b2, m', rfl, SqT.of upd_same, SqT.of (y3 _ _ (y2 _ _ upd_same)), SqT.of (y3 _ _ upd_same), ex_t y13 (ex_t f46 a5)⟩) (sh_q _) (sh_q _) (by decide) (by decide)) _ (Ex.refl _) _ fun H17 f17 => ⟨_, rfl, ?_⟩
    rw [eqv_q, decide_eq_true (by rw [lu, lx]; exact key.symm)]
    exact z H17 ((f46.trans y13).trans f17)

theorem all_mk {l : PySem.W.OpenLaw} {w : World} {K : PySem.W.Frag} {h : Heap} {mg : Str → Option Value} {fa f : Addr} {aR aW aRU aST : Addr} {t4 t40 : Tok} {od an : Option Addr} {sl : Array (Option Value)} {oc kV dc pm cd ct : Value}
    (X : K.In h) (G : h.Ns mainGlobals mg) (hfa : mg "law" = some (.ref fa)) (T : Nb mg) (TP : TxP K mg aR aW t4 t40) (TR : TxR K mg w aRU aST) {tl tr : Tok} (TO : TxO mg tl tr)
    (aL : PySem.W.nsIn K mainGlobals "law" = some (some (.ref f))) (lL : K.lookup f = some ⟨oc, od, .func (PySem.W.fnOf "law" "law" (defArgs s_law) (defBody s_law) (defScope s_law) .none kV dc pm an cd ct), sl⟩) (cL : PySem.W.codeIn K cd "law" = true) (kL : PySem.W.keepIn K (.ref f) = true)
    (h_is_whole : Has K mg "is_whole" s_is_whole) (h_is_cell : Has K mg "is_cell" s_is_cell) (h_is_worth : Has K mg "is_worth" s_is_worth) (h_is_deed : Has K mg "is_deed" s_is_deed) (h_check_cells : Has K mg "check_cells" s_check_cells) (h_check_memory : Has K mg "check_memory" s_check_memory) (h_check_program : Has K mg "check_program" s_check_program) (h_check_programs : HasD K mg "check_programs" s_check_programs [.int 40]) (h_clash : Has K mg "clash" s_clash) (h_read_cell : Has K mg "read_cell" s_read_cell) (h_write_cell : Has K mg "write_cell" s_write_cell) (h_write_both : Has K mg "write_both" s_write_both) (h_step_old : Has K mg "step_old" s_step_old) (h_step_new : Has K mg "step_new" s_step_new) (h_step_left : Has K mg "step_left" s_step_left) (h_step_right : Has K mg "step_right" s_step_right) (h_check_rule : Has K mg "check_rule" s_check_rule) (h_due : Has K mg "due" s_due) (h_play : Has K mg "play" s_play) (h_run : Has K mg "run" s_run) (h_check_order : Has K mg "check_order" s_check_order) (h_do_deed : Has K mg "do_deed" s_do_deed) (h_follow : Has K mg "follow" s_follow) (h_ordered : Has K mg "ordered" s_ordered) (h_law_mix : Has K mg "_law_mix" s_law_mix) (h_law_next : Has K mg "_law_next" s_law_next) (h_law_alike : Has K mg "_law_alike" s_law_alike) (h_law_deed : Has K mg "_law_deed" s_law_deed) (h_law_program : Has K mg "_law_program" s_law_program) (h_law_memory : Has K mg "_law_memory" s_law_memory) (h_law_order : Has K mg "_law_order" s_law_order) :
    ∃ fd : FuncData, (∀ (s : Shared) (v : Value), BindsTo s fd ⟨[v], []⟩ [("_law_script", v)]) ∧ ∀ base : Heap, K.In base → base.Ns mainGlobals mg → FnOk l.prog w K mg base CX0 7 fa fd ["_law_script"] (sp_law K) := by
  have e := hfa.symm.trans (PySem.W.mg_of X G aL)
  cases e
  have F := fun_mk (st := s_law) lL cL kL
  refine ⟨PySem.W.fnOf "law" "law" (defArgs s_law) (defBody s_law) (defScope s_law) .none kV dc pm an cd ct, fun s v => .of_eq rfl, fun base _ _ => ?_⟩
  · have w1 := d_is_whole (P := l.prog) (w := w) (base := base) T h_is_whole
    have w2 := d_is_cell w1 h_is_cell
    have w3 := d_is_worth TP w1 h_is_worth
    have w4 := d_is_deed T TP w2 w3 h_is_deed
    have w5 := d_check_cells TP w1 h_check_cells
    have w6 := d_check_memory T w5 w3 h_check_memory
    have w7 := d_check_program T TP w4 h_check_program
    have w8 := d_check_programs w7 h_check_programs
    have w9 := d_clash (P := l.prog) (w := w) (base := base) TP h_clash
    have w10 := d_read_cell (P := l.prog) (w := w) (base := base) h_read_cell
    have w11 := d_write_cell (P := l.prog) (w := w) (base := base) h_write_cell
    have w12 := d_write_both w11 h_write_both
    have w13 := d_step_old w10 w11 w12 h_step_old
    have w14 := d_step_new w10 w11 w12 h_step_new
    have w15 := d_step_left w10 w11 w12 h_step_left
    have w16 := d_step_right w15 h_step_right
    have w17 := d_check_rule (P := l.prog) (base := base) TR h_check_rule
    have w18 := d_due (P := l.prog) (w := w) (base := base) T TP h_due
    have w19 := d_play T TP TR w18 w9 w13 w14 w15 w16 h_play
    have w20 := d_run T w17 w6 w8 w19 h_run
    have v1 := d_law_mix (P := l.prog) (w := w) (base := base) T h_law_mix
    have v2 := d_law_next (P := l.prog) (w := w) (base := base) T h_law_next
    have v3 := d_law_deed T v2 h_law_deed
    have v4 := d_law_program T v2 v3 h_law_program
    have v5 := d_law_memory T v2 h_law_memory
    have v6 := d_law_alike (P := l.prog) (w := w) (base := base) T h_law_alike 3
    have x1 := d_check_order (P := l.prog) (w := w) (base := base) T TO h_check_order
    have x2 := d_do_deed w10 w11 h_do_deed
    have x3 := d_follow T TO x2 h_follow
    have x4 := d_ordered T w6 w8 x1 x3 h_ordered
    have v7 := d_law_order (P := l.prog) (w := w) (base := base) T h_law_order
    exact d_law T v1 v2 v5 v4 v7 v6 w20 x4 F
theorem walk {l : PySem.W.OpenLaw} {q : Program} {loose : List Str} {XP : (Str → Option Value) → Heap → Prop} {YP : World → Heap → Prop} {d : DefRec} {K : Params → PySem.W.Frag} (hn : l.most = some 63) (hdf : d.params.defaults = [])
    (hY : ∀ (w : World) (h : Heap), YP w h → (K w.params).In h)
    (F : ∀ (w : World) (mg : Str → Option Value) (fa : Addr) (h : Heap), (K w.params).In h → h.Ns mainGlobals mg → mg d.name = some (.ref fa) →
      ∃ fd : FuncData, (∀ (s : Shared) (u : Value), BindsTo s fd ⟨[u], []⟩ [("_law_script", u)]) ∧ ∀ base : Heap, (K w.params).In base → base.Ns mainGlobals mg → FnOk l.prog w (K w.params) mg base CX0 7 fa fd ["_law_script"] (sp_law (K w.params))) :
    PySem.W.WalkO q loose XP YP l.row.toRowW d [] (fun f vs => PySem.call f vs) :=
  L2.walk_of (n := 63) (k := 7) (x := "_law_script") (CX := fun _ => CX0) (sp := fun w => sp_law (K w.params)) hn (by decide) hdf ⟨rfl, by decide, by decide⟩ hY F (fun _ _ a ns hl _ hS => ⟨a, ns, rfl, hS, hl, fun _ => rfl⟩) fun _ _ _ _ _ z => z

end
end Db

open PySem PySem.W PyProof.Rows
set_option maxRecDepth 100000 in
set_option maxHeartbeats 0 in
theorem PySem.Challenge.cw_doorbeat_k09_long_orders_holds : PySem.Challenge.rw_doorbeat_k09_long_orders.Holds := by
  w_on; o_law; k_head; (case hw => w_witness2)
  k_fill
  refine Db.walk (l := PySem.Challenge.rw_doorbeat_k09_long_orders) rfl rfl (fun w h Y => PySem.W.kIn_of Y) ?F
  case F =>
    intro w mg fa h KX G hmg
    refine' Db.all_mk KX G hmg ?T ?TP ?TR ?TO ?aL ?lL ?cL ?kL ?h_is_whole ?h_is_cell ?h_is_worth ?h_is_deed ?h_check_cells ?h_check_memory ?h_check_program ?h_check_programs ?h_clash ?h_read_cell ?h_write_cell ?h_write_both ?h_step_old ?h_step_new ?h_step_left ?h_step_right ?h_check_rule ?h_due ?h_play ?h_run ?h_check_order ?h_do_deed ?h_follow ?h_ordered ?h_law_mix ?h_law_next ?h_law_alike ?h_law_deed ?h_law_program ?h_law_memory ?h_law_order
    case T => refine' Db.nb_mk KX G ?b1 ?b2 ?b3 ?b4 ?b5 ?b6 ?b7 ?b8 ?b9 ?b10 ?b11 ?b12 <;> k_is
    case TP => (refine' Db.txp_mk KX G ?a1 ?l1 ?a2 ?l2 ?c4 ?c40; (case a1 => k_is); (case l1 => k_is); (case a2 => k_is); (case l2 => k_is); (case c4 => k_is); (case c40 => k_is))
    case TR => (refine' Db.txr_mk KX G ?a1 ?l1 ?a2 ?l2 ?kl ?g1 ?g2 ?g3 ?g4 ?k1 ?k2 ?k3 ?k4 ?k5; (case a1 => k_is); (case l1 => k_is); (case a2 => k_is); (case l2 => k_is); (case kl => exact ⟨⟨_, _, rfl, rfl⟩, ⟨_, _, rfl, rfl⟩, ⟨_, _, rfl, rfl⟩, ⟨_, _, rfl, rfl⟩, ⟨_, _, rfl, rfl⟩, True.intro⟩); (case g1 => k_is); (case g2 => k_is); (case g3 => k_is); (case g4 => k_is); (case k1 => k_is); (case k2 => k_is); (case k3 => k_is); (case k4 => k_is); (case k5 => k_is))
    case TO => (refine' Db.txo_mk KX G ?a1 ?a2; (case a1 => k_is); (case a2 => k_is))
    (case aL => k_is)
    (case lL => k_is)
    (case cL => k_is)
    (case kL => k_is)
    case h_is_whole => (refine' Db.has_mk KX G ?a ?l ?c ?k; (case a => k_is); (case l => k_is); (case c => k_is); (case k => k_is))
    case h_is_cell => (refine' Db.has_mk KX G ?a ?l ?c ?k; (case a => k_is); (case l => k_is); (case c => k_is); (case k => k_is))
    case h_is_worth => (refine' Db.has_mk KX G ?a ?l ?c ?k; (case a => k_is); (case l => k_is); (case c => k_is); (case k => k_is))
    case h_is_deed => (refine' Db.has_mk KX G ?a ?l ?c ?k; (case a => k_is); (case l => k_is); (case c => k_is); (case k => k_is))
    case h_check_cells => (refine' Db.has_mk KX G ?a ?l ?c ?k; (case a => k_is); (case l => k_is); (case c => k_is); (case k => k_is))
    case h_check_memory => (refine' Db.has_mk KX G ?a ?l ?c ?k; (case a => k_is); (case l => k_is); (case c => k_is); (case k => k_is))
    case h_check_program => (refine' Db.has_mk KX G ?a ?l ?c ?k; (case a => k_is); (case l => k_is); (case c => k_is); (case k => k_is))
    case h_check_programs => (refine' Db.hasD_mk KX G ?a ?l ?c ?k ?t; (case a => k_is); (case l => k_is); (case c => k_is); (case k => k_is); (case t => k_is))
    case h_clash => (refine' Db.has_mk KX G ?a ?l ?c ?k; (case a => k_is); (case l => k_is); (case c => k_is); (case k => k_is))
    case h_read_cell => (refine' Db.has_mk KX G ?a ?l ?c ?k; (case a => k_is); (case l => k_is); (case c => k_is); (case k => k_is))
    case h_write_cell => (refine' Db.has_mk KX G ?a ?l ?c ?k; (case a => k_is); (case l => k_is); (case c => k_is); (case k => k_is))
    case h_write_both => (refine' Db.has_mk KX G ?a ?l ?c ?k; (case a => k_is); (case l => k_is); (case c => k_is); (case k => k_is))
    case h_step_old => (refine' Db.has_mk KX G ?a ?l ?c ?k; (case a => k_is); (case l => k_is); (case c => k_is); (case k => k_is))
    case h_step_new => (refine' Db.has_mk KX G ?a ?l ?c ?k; (case a => k_is); (case l => k_is); (case c => k_is); (case k => k_is))
    case h_step_left => (refine' Db.has_mk KX G ?a ?l ?c ?k; (case a => k_is); (case l => k_is); (case c => k_is); (case k => k_is))
    case h_step_right => (refine' Db.has_mk KX G ?a ?l ?c ?k; (case a => k_is); (case l => k_is); (case c => k_is); (case k => k_is))
    case h_check_rule => (refine' Db.has_mk KX G ?a ?l ?c ?k; (case a => k_is); (case l => k_is); (case c => k_is); (case k => k_is))
    case h_due => (refine' Db.has_mk KX G ?a ?l ?c ?k; (case a => k_is); (case l => k_is); (case c => k_is); (case k => k_is))
    case h_play => (refine' Db.has_mk KX G ?a ?l ?c ?k; (case a => k_is); (case l => k_is); (case c => k_is); (case k => k_is))
    case h_run => (refine' Db.has_mk KX G ?a ?l ?c ?k; (case a => k_is); (case l => k_is); (case c => k_is); (case k => k_is))
    case h_check_order => (refine' Db.has_mk KX G ?a ?l ?c ?k; (case a => k_is); (case l => k_is); (case c => k_is); (case k => k_is))
    case h_do_deed => (refine' Db.has_mk KX G ?a ?l ?c ?k; (case a => k_is); (case l => k_is); (case c => k_is); (case k => k_is))
    case h_follow => (refine' Db.has_mk KX G ?a ?l ?c ?k; (case a => k_is); (case l => k_is); (case c => k_is); (case k => k_is))
    case h_ordered => (refine' Db.has_mk KX G ?a ?l ?c ?k; (case a => k_is); (case l => k_is); (case c => k_is); (case k => k_is))
    case h_law_mix => (refine' Db.has_mk KX G ?a ?l ?c ?k; (case a => k_is); (case l => k_is); (case c => k_is); (case k => k_is))
    case h_law_next => (refine' Db.has_mk KX G ?a ?l ?c ?k; (case a => k_is); (case l => k_is); (case c => k_is); (case k => k_is))
    case h_law_alike => (refine' Db.has_mk KX G ?a ?l ?c ?k; (case a => k_is); (case l => k_is); (case c => k_is); (case k => k_is))
    case h_law_deed => (refine' Db.has_mk KX G ?a ?l ?c ?k; (case a => k_is); (case l => k_is); (case c => k_is); (case k => k_is))
    case h_law_program => (refine' Db.has_mk KX G ?a ?l ?c ?k; (case a => k_is); (case l => k_is); (case c => k_is); (case k => k_is))
    case h_law_memory => (refine' Db.has_mk KX G ?a ?l ?c ?k; (case a => k_is); (case l => k_is); (case c => k_is); (case k => k_is))
    case h_law_order => (refine' Db.has_mk KX G ?a ?l ?c ?k; (case a => k_is); (case l => k_is); (case c => k_is); (case k => k_is))
