import PyProof.Rows.All
import Wide.All
import OpenK.AllK
import Wide.FinOn
import HandS.ForMost
import HandS.Evl
import HandS.Wide
import HandS.IsInst
import HandS.CallLocal
import HandS.Defaults
import HandS.Walk
import HandS.More
import KE.KDictZip
import HandS.Star
import HandS.Style
import HandS.Text
import PySem.Challenge.RW_doorbeat_k07_reasons_judged
set_option Elab.async false
set_option linter.all false
set_option maxRecDepth 100000
set_option maxHeartbeats 4000000
namespace Db
open PySem L2 Evl

/-! ### a def of the text by its name -/
structure Has (K : PySem.W.Frag) (mg : Str → Option Value) (x : Str) (st : Stmt) : Prop where
  ex : ∃ f fd, Fun K x x st f fd ∧ mg x = some (.ref f)
structure Dn (P : Program) (w : World) (K : PySem.W.Frag) (mg : Str → Option Value) (base : Heap) (CX : CXT) (x : Str) (ps : List Str) (k : Nat) (sp : Sp) : Prop where
  ex : ∃ f fd, FnOk P w K mg base CX k f fd ps sp ∧ mg x = some (.ref f) ∧ PySem.W.keepIn K (.ref f) = true ∧ Binds K fd ps []
theorem dn_of {P : Program} {w : World} {K : PySem.W.Frag} {mg : Str → Option Value} {base : Heap} {CX : CXT} {x : Str} {ps : List Str} {k : Nat} {sp : Sp} {st : Stmt} (h : Has K mg x st)
    (hb : ∀ f fd, Fun K x x st f fd → Binds K fd ps []) (hf : ∀ f fd, Fun K x x st f fd → mg x = some (.ref f) → FnOk P w K mg base CX k f fd ps sp) : Dn P w K mg base CX x ps k sp := by
  obtain ⟨f, fd, F, hm⟩ := h.ex
  exact ⟨f, fd, hf f fd F hm, hm, F.kp, hb f fd F⟩
theorem has_mk {K : PySem.W.Frag} {h : Heap} {mg : Str → Option Value} {x : Str} {st : Stmt} {f : Addr} {oc : Value} {od an : Option Addr} {osl : Array (Option Value)} {kV doc pm cdv ct : Value} (X : K.In h) (G : h.Ns mainGlobals mg)
    (a : PySem.W.nsIn K mainGlobals x = some (some (.ref f)))
    (l : K.lookup f = some ⟨oc, od, .func (PySem.W.fnOf x x (defArgs st) (defBody st) (defScope st) .none kV doc pm an cdv ct), osl⟩)
    (c : PySem.W.codeIn K cdv x = true) (k : PySem.W.keepIn K (.ref f) = true) : Has K mg x st := ⟨f, _, fun_mk l c k, PySem.W.mg_of X G a⟩
section
variable {X : Cx}
theorem pe_dn {CX : CXT} {x : Str} {ps : List Str} {k j : Nat} {sp : Sp} {E : XK} {e : Expr} {es : List Expr} {t : TA} {p pos : Pos} (h : Dn X.prog X.w X.K X.mg X.base CX x ps k sp) (hr : Room j X.A) (hk : k ≤ j) (hx : Passes CX X E)
    (ha : PA X (e :: es) t) (hg : Gl X x := by rfl) (hdb : (x == ("__debug__" : Str)) = false := by decide) (he : starEach (e :: es) X.env = (false, eval e X.env) :: starEach es X.env := by rfl)
    (hpl : (backTo pos (starEach es X.env)).any (·.1) = false := by rfl) : PE X (.Call (.Name x p) (e :: es) [] pos) (tCall sp [] E t) := by
  obtain ⟨f, fd, F, hm, kp, b⟩ := h.ex
  exact pe_call F (hr.mono hk) hg hm kp b .nil hx ha hdb he hpl
end

/-- names of the built-ins that no def or constant hides -/
structure Nb (mg : Str → Option Value) : Prop where
  n_len : mg "len" = none
  n_isinstance : mg "isinstance" = none
  n_max : mg "max" = none
  n_min : mg "min" = none
  n_range : mg "range" = none
  n_enumerate : mg "enumerate" = none
  n_zip : mg "zip" = none
  n_list : mg "list" = none
  n_tuple : mg "tuple" = none
  n_int : mg "int" = none
  n_bool : mg "bool" = none
  n_str : mg "str" = none
/-! ### a def that only looks: R of the arguments, the heap, the value -/
def spF (n : Nat) (R : List V → Hp → V → Prop) : Sp := fun vs H Q _ => vs.length = n ∧ ∃ v, R vs H v ∧ ∀ H', Ex H H' → Q v H'
theorem spF_v {n : Nat} {R : List V → Hp → V → Prop} {vs : List V} {H : Hp} {v : V} (hl : vs.length = n) (h : ∀ H1, Ex H H1 → R vs H1 v) : SpV (spF n R) vs H v := fun H1 e Q q _ => ⟨hl, v, h H1 e, q⟩

/-! ### deeds -/
inductive Deed where
  | rd (c : Nat) | wr (c w : Nat) | rs
  deriving DecidableEq
def Deed.vals : Deed → List V
  | .rd c => [.str "read", .int (c : Int)]
  | .wr c w => [.str "write", .int (c : Int), .int (w : Int)]
  | .rs => [.str "rest"]
def Deed.ok (n : Nat) : Deed → Prop
  | .rd c => c < n
  | .wr c w => c < n ∧ w < 3
  | .rs => True
def Deed.ok.mono {n m : Nat} (h : n ≤ m) : ∀ {d : Deed}, d.ok n → d.ok m
  | .rd _, x => Nat.lt_of_lt_of_le (show _ < n from x) h
  | .wr _ _, x => ⟨Nat.lt_of_lt_of_le x.1 h, x.2⟩
  | .rs, _ => True.intro
/-- the value v is the deed d -/
def DV (K : PySem.W.Frag) (H : Hp) (v : V) (d : Deed) : Prop := ∃ a, v = .ref a ∧ SqT K H a d.vals
theorem DV.mono {K : PySem.W.Frag} {H H' : Hp} {v : V} {d : Deed} (e : Ex H H') (h : DV K H v d) : DV K H' v d := by
  obtain ⟨a, h1, h2⟩ := h
  exact ⟨a, h1, ex_t e h2⟩
def Deed.dat : Deed → List PyData
  | .rd c => [.str "read", .int (c : Int)]
  | .wr c w => [.str "write", .int (c : Int), .int (w : Int)]
  | .rs => [.str "rest"]
theorem DV.dp {K : PySem.W.Frag} {H : Hp} {v : V} {d : Deed} (h : DV K H v d) : Dp K H v (.tuple d.dat) := by
  obtain ⟨a, rfl, h2⟩ := h
  cases d with
  | rd c => exact .tup h2 (.cons (.str _) (.cons (.int _) .nil))
  | wr c w => exact .tup h2 (.cons (.str _) (.cons (.int _) (.cons (.int _) .nil)))
  | rs => exact .tup h2 (.cons (.str _) .nil)
/-- data of no more than n levels, laid out as the library wants it -/
structure Sh (n : Nat) (d : PyData) : Prop where
  lay : d.canLay0 = true
  dep : d.depth ≤ n
theorem Sh.mono {n m : Nat} {d : PyData} (h : Sh n d) (l : n ≤ m) : Sh m d := ⟨h.lay, Nat.le_trans h.dep l⟩
theorem Sh.shaped {n : Nat} {d : PyData} (h : Sh n d) (l : n ≤ 64) : SeqAt.shaped d = true := by
  unfold SeqAt.shaped
  rw [h.lay, decide_eq_true (Nat.le_trans h.dep l)]
  rfl
theorem sh_int {n : Nat} {i : Int} : Sh n (.int i) := ⟨by simp [PyData.canLay0], by simp [PyData.depth]⟩
theorem sh_bool {n : Nat} {i : Bool} : Sh n (.bool i) := ⟨by simp [PyData.canLay0], by simp [PyData.depth]⟩
theorem sh_none {n : Nat} : Sh n .none := ⟨by simp [PyData.canLay0], by simp [PyData.depth]⟩
theorem sh_str {n : Nat} {x : Str} (h : PyData.strOk x = true) : Sh n (.str x) := ⟨by simpa [PyData.canLay0] using h, by simp [PyData.depth]⟩
theorem sh_all {n : Nat} : ∀ {ds : List PyData}, (∀ d ∈ ds, Sh n d) → PyData.canLayAll0 ds = true ∧ PyData.depthAll ds ≤ n
  | [], _ => ⟨by simp [PyData.canLayAll0], by simp [PyData.depthAll]⟩
  | d :: r, h => by
    have h1 := h d List.mem_cons_self
    have h2 := sh_all (ds := r) fun x hx => h x (List.mem_cons_of_mem _ hx)
    refine ⟨?_, ?_⟩
    · rw [PyData.canLayAll0, h1.lay, h2.1]
      rfl
    · rw [PyData.depthAll]
      exact Nat.max_le.mpr ⟨h1.dep, h2.2⟩
theorem sh_tup {n : Nat} {ds : List PyData} (h : ∀ d ∈ ds, Sh n d) : Sh (n + 1) (.tuple ds) := by
  have q := sh_all h
  refine ⟨?_, ?_⟩
  · rw [PyData.canLay0]
    exact q.1
  · rw [PyData.depth]
    exact Nat.succ_le_succ q.2
theorem sh_lst {n : Nat} {ds : List PyData} (h : ∀ d ∈ ds, Sh n d) : Sh (n + 1) (.list ds) := by
  have q := sh_all h
  refine ⟨?_, ?_⟩
  · rw [PyData.canLay0]
    exact q.1
  · rw [PyData.depth]
    exact Nat.succ_le_succ q.2
theorem sh_ints (ns : List Int) : Sh 1 (.list (ns.map PyData.int)) := sh_lst fun d hd => by
  obtain ⟨n, _, rfl⟩ := List.mem_map.mp hd
  exact sh_int
theorem dpa_ints {K : PySem.W.Frag} {H : Hp} : ∀ ns : List Int, DpAll K H (ns.map V.int) (ns.map PyData.int)
  | [] => .nil
  | n :: r => .cons (.int n) (dpa_ints r)
theorem Sh.eqv {n : Nat} {d : PyData} (h : Sh n d) : PyData.eqv d d = true := SeqAt.eqv_refl d h.lay
theorem sk_read : PyData.strOk "read" = true := by decide +kernel
theorem sk_write : PyData.strOk "write" = true := by decide +kernel
theorem sk_rest : PyData.strOk "rest" = true := by decide +kernel
theorem Deed.sh (d : Deed) : Sh 1 (.tuple d.dat) := by
  cases d with
  | rd c => exact sh_tup (by simp only [Deed.dat, List.mem_cons, List.not_mem_nil, or_false]; rintro d (rfl | rfl) <;> first | exact sh_str sk_read | exact sh_int)
  | wr c w => exact sh_tup (by simp only [Deed.dat, List.mem_cons, List.not_mem_nil, or_false]; rintro d (rfl | rfl | rfl) <;> first | exact sh_str sk_write | exact sh_int)
  | rs => exact sh_tup (by simp only [Deed.dat, List.mem_cons, List.not_mem_nil, or_false]; rintro d rfl; exact sh_str sk_rest)
theorem Deed.eqv_rs (d : Deed) : PyData.eqv (.tuple d.dat) (.tuple Deed.rs.dat) = decide (d = .rs) := by
  cases d with
  | rd c => simp [Deed.dat, PyData.eqv, PyData.eqvAll]
  | wr c w => simp [Deed.dat, PyData.eqv, PyData.eqvAll]
  | rs => simp [Deed.dat, PyData.eqv, PyData.eqvAll]
/-- a program: its values, its deeds -/
def PV (K : PySem.W.Frag) (H : Hp) (vs : List V) (ds : List Deed) : Prop := Paired (DV K H) vs ds

/-! ### evaluation, some more -/
section
variable {K : PySem.W.Frag} {σ : L2.St} {H H' : Hp} {ta tb te tx : TE} {t u : TT} {x y z v : V}
theorem rc_len {p : Addr} {xs : List V} (h : SqL K H p xs ∨ SqT K H p xs) : RC (rLenS K) [.ref p] H (.int (xs.length : Int)) := fun H1 e _ q => ⟨p, xs, rfl, h.imp (ex_l e) (ex_t e), q H1 (Ex.refl H1)⟩
theorem rc_lenL {p : Addr} {xs : List V} (h : SqL K H p xs) : RC (rLenS K) [.ref p] H (.int (xs.length : Int)) := rc_len (.inl h)
theorem rc_lenT {p : Addr} {xs : List V} (h : SqT K H p xs) : RC (rLenS K) [.ref p] H (.int (xs.length : Int)) := rc_len (.inr h)
theorem rc_max {i j : Int} : RC rMax2 [.int i, .int j] H (.int (if j > i then j else i)) := fun H1 _ _ q => ⟨i, j, rfl, q H1 (Ex.refl H1)⟩
/-- a value's type that stays -/
def TyS (K : PySem.W.Frag) (H : Hp) (x : V) (t : Value) : Prop := ∀ H1, Ex H H1 → TyX K H1 x t
theorem tys_int {i : Int} : TyS K H (.int i) (.type "int") := fun _ _ => .base (.int i)
theorem tys_str {i : Str} : TyS K H (.str i) (.type "str") := fun _ _ => .base (.str i)
theorem tys_bl {i : Bool} : TyS K H (.bl i) (.type "bool") := fun _ _ => .base (.bl i)
theorem tys_non : TyS K H .non (.type "NoneType") := fun _ _ => .base .non
theorem tys_tup {a : Addr} {xs : List V} (h : SqT K H a xs) : TyS K H (.ref a) (.type "tuple") := fun H1 e => by
  rcases ex_t e h with (h | ⟨o, h⟩) | ⟨o, its, n, h, c, _⟩
  · exact .base (.tup h)
  · exact .fTuple h
  · exact .kTuple h c
theorem tys_lst {a : Addr} {xs : List V} (h : SqL K H a xs) : TyS K H (.ref a) (.type "list") := fun H1 e => by
  rcases ex_l e h with (h | ⟨o, h⟩) | ⟨o, its, n, h, c, _⟩
  · exact .base (.lst h)
  · exact .base (.frz h)
  · exact .kList h c
theorem rc_isi {c : String} {t : Value} {b : Bool} (h : TyS K H x t) (k : PySem.W.kitOne K t (.type c) = some b) : RC (rIsi K) [x, .ty c] H (.bl b) := fun H1 e _ q => ⟨x, .ty c, t, .type c, b, rfl, .ty c, h H1 e, k, q H1 (Ex.refl H1)⟩
theorem rc_isiB {c d : String} {b : Bool} (h : TyS K H x (.type d)) (k : kitB d c = some b) : RC (rIsi K) [x, .ty c] H (.bl b) := rc_isi h (kit_ty k)
/-- isinstance(x, (c, d)) -/
theorem ev_isi2 {c d f : String} {b1 b2 : Bool} (hx : Ev te σ H x) (h : TyS K H x (.type f)) (k1 : kitB f c = some b1) (k2 : kitB f d = some b2) :
    Ev (tCB (rIsiT K) (tCons te (tCons (tTup (tCons (tC (.ty c)) (tCons (tC (.ty d)) tNil))) tNil))) σ H (.bl (b1 || b2)) := fun H1 e Q q =>
  hx H1 e _ fun H2 e2 => ⟨by show 2 ≤ sizeLine; decide, fun p hp => ⟨x, p, [.ty c, .ty d], .type f, [.type c, .type d], b1 || b2, rfl, upd_same, .cons (.ty c) (.cons (.ty d) .nil), h _ ((e.trans e2).trans (Ex.new hp)),
    kitAny_cons (kit_ty k1) (fun h1 => kitAny_cons (kit_ty k2) (fun h2 => by rw [h1, h2]; exact kitAny_nil) (fun h2 => by rw [h2]; cases b1 <;> rfl)) (fun h1 => by rw [h1]; rfl), q _ (e2.trans (Ex.new hp))⟩⟩
/-! == and != of data -/
mutual
theorem dp_mono (e : Ex H H') : ∀ (d : PyData) (v : V), Dp K H v d → Dp K H' v d
  | .none, _, h => by cases h; exact .non
  | .bool b, _, h => by cases h; exact .bl b
  | .int i, _, h => by cases h; exact .int i
  | .str x, _, h => by cases h; exact .str x
  | .list ds, _, h => by
    cases h with
    | lst q r => exact .lst (ex_l e q) (dpAll_mono e ds _ r)
  | .tuple ds, _, h => by
    cases h with
    | tup q r => exact .tup (ex_t e q) (dpAll_mono e ds _ r)
  | .dict kvs, _, h => by cases h
theorem dpAll_mono (e : Ex H H') : ∀ (ds : List PyData) (vs : List V), DpAll K H vs ds → DpAll K H' vs ds
  | [], _, h => by cases h; exact .nil
  | d :: ds, _, h => by
    cases h with
    | cons a b => exact .cons (dp_mono e d _ a) (dpAll_mono e ds _ b)
end
theorem rv_eqD {d e : PyData} {n m : Nat} (hx : Dp K H x d) (hy : Dp K H y e) (hd : Sh n d) (he : Sh m e) (hn : n ≤ 64) (hm : m ≤ 64) : RV (rEqD K) x y H (.bl (PyData.eqv d e)) := fun H1 a _ q =>
  ⟨d, e, dp_mono a d x hx, dp_mono a e y hy, hd.shaped hn, he.shaped hm, q H1 (Ex.refl H1)⟩
theorem rv_neD {d e : PyData} {n m : Nat} (hx : Dp K H x d) (hy : Dp K H y e) (hd : Sh n d) (he : Sh m e) (hn : n ≤ 64) (hm : m ≤ 64) : RV (rNeD K) x y H (.bl (!PyData.eqv d e)) := fun H1 a _ q =>
  ⟨d, e, dp_mono a d x hx, dp_mono a e y hy, hd.shaped hn, he.shaped hm, q H1 (Ex.refl H1)⟩
theorem rv_is {r : R2} {w : V} (h : RV r x y H z) (e : z = w) : RV r x y H w := by
  rw [← e]
  exact h
/-- an if of one kind or the other, the value known -/
theorem ev_ifT (h : EvT t σ H true) (h1 : Ev ta σ H v) : Ev (tIf t ta tb) σ H v := ev_if h (fun _ => h1) (fun z => nomatch z)
theorem ev_ifF (h : EvT t σ H false) (h1 : Ev tb σ H v) : Ev (tIf t ta tb) σ H v := ev_if h (fun z => nomatch z) (fun _ => h1)
/-- a < b < c -/
theorem ev_chain {r r' : R2} {tc : TE} {w : V} {a b : Bool} (h1 : Ev ta σ H x) (h2 : Ev tb σ H y) (hr : RV r x y H (.bl a)) (h3 : a = true → Ev tc σ H w) (hr' : a = true → RV r' y w H (.bl b)) : Ev (tChain r r' ta tb tc) σ H (.bl (a && b)) := fun H1 e Q q =>
  h1 H1 e _ fun H2 e2 => h2 H2 (e.trans e2) _ fun H3 e3 => hr H3 ((e.trans e2).trans e3) _ fun H4 e4 => ⟨a, rfl, by
    have e04 := ((e.trans e2).trans e3).trans e4
    cases a with
    | false =>
      show Q (.bl false) H4
      exact q H4 ((e2.trans e3).trans e4)
    | true =>
      show tc σ H4 _
      exact h3 rfl H4 e04 _ fun H5 e5 => hr' rfl H5 (e04.trans e5) _ fun H6 e6 => q H6 ((((e2.trans e3).trans e4).trans e5).trans e6)⟩
end

/-! ### data of any kind, two of them alike -/
/-- an item of a list or a tuple -/
def rIxA (K : PySem.W.Frag) : R2 := fun x y H Q => rIxL K x y H Q ∨ rIxT K x y H Q
theorem ix_any {X : Cx} : IxR X (rIxA X.K) := fun value slice pins s σ H x y v u Q I rx ry q hs => by
  rcases q with q | q
  · exact ix_list value slice pins s σ H x y v u Q I rx ry q hs
  · exact ix_tup value slice pins s σ H x y v u Q I rx ry q hs
/-! rules that name the written part by itself (for a comprehension's block) -/
section
variable {X : Cx} (K : PySem.W.Frag) (e : X.K = K := by rfl)
include e
theorem ix_anyK : IxR X (rIxA K) := by subst e; exact ix_any
theorem ix_listK : IxR X (rIxL K) := by subst e; exact ix_list
theorem ix_tupK : IxR X (rIxT K) := by subst e; exact ix_tup
theorem call_len_seqK : CallR X (.builtin "len") (rLenS K) := by subst e; exact call_len_seq
theorem call_isiK2 : CallR X (.builtin "isinstance") (rIsi K) := by subst e; exact call_isi
theorem call_isiTK : CallR X (.builtin "isinstance") (rIsiT K) := by subst e; exact call_isiT
theorem op_eqDK (hu : X.A.units + 64 < cLine) : OpR X (compareOp .Eq) (rEqD K) := by subst e; exact op_eqD hu
theorem op_neDK (hu : X.A.units + 64 < cLine) : OpR X (compareOp .NotEq) (rNeD K) := by subst e; exact op_neD hu
theorem op_in_seqK : OpR X (compareOp .In) (rIn K false) := by subst e; exact op_in_seq
theorem op_notIn_seqK : OpR X (compareOp .NotIn) (rIn K true) := by subst e; exact op_notIn_seq
theorem call_list_ofK : CallR X (.type "list") (rListS K) := by subst e; exact call_list_of
end
def SqA (K : PySem.W.Frag) (H : Hp) (p : Addr) (xs : List V) : Prop := SqL K H p xs ∨ SqT K H p xs
theorem ex_a {K : PySem.W.Frag} {H H' : Hp} {p : Addr} {xs : List V} (e : Ex H H') (h : SqA K H p xs) : SqA K H' p xs := h.imp (ex_l e) (ex_t e)
theorem rv_ixA {K : PySem.W.Frag} {H : Hp} {p : Addr} {xs : List V} {i : Int} {v : V} (h : SqA K H p xs) (ha : atI xs i = some v) : RV (rIxA K) (.ref p) (.int i) H v := fun H1 e _ q => by
  rcases ex_a e h with h | h
  · exact .inl ⟨p, xs, i, v, rfl, rfl, h, ha, q H1 (Ex.refl H1)⟩
  · exact .inr ⟨p, xs, i, v, rfl, rfl, h, ha, q H1 (Ex.refl H1)⟩
/-- data of up to n levels, each list of up to a thousand -/
inductive Nice : Nat → PyData → Prop where
  | non {n : Nat} : Nice n .none
  | bl {n : Nat} (b : Bool) : Nice n (.bool b)
  | int {n : Nat} (i : Int) : Nice n (.int i)
  | str {n : Nat} {x : Str} : PyData.strOk x = true → Nice n (.str x)
  | lst {n : Nat} {ds : List PyData} : ds.length ≤ 1000 → (∀ d ∈ ds, Nice n d) → Nice (n + 1) (.list ds)
  | tup {n : Nat} {ds : List PyData} : ds.length ≤ 1000 → (∀ d ∈ ds, Nice n d) → Nice (n + 1) (.tuple ds)
theorem Nice.sh : ∀ {n : Nat} {d : PyData}, Nice n d → Sh n d
  | _, _, .non => sh_none
  | _, _, .bl _ => sh_bool
  | _, _, .int _ => sh_int
  | _, _, .str h => sh_str h
  | _, _, .lst _ h => sh_lst fun d hd => Nice.sh (h d hd)
  | _, _, .tup _ h => sh_tup fun d hd => Nice.sh (h d hd)
theorem Nice.mono {n : Nat} {d : PyData} (h : Nice n d) : ∀ {m : Nat}, n ≤ m → Nice m d := by
  induction h with
  | non => intro m _; exact .non
  | bl b => intro m _; exact .bl b
  | int i => intro m _; exact .int i
  | str h => intro m _; exact .str h
  | lst hl _ ih =>
    intro m hm
    obtain ⟨k, rfl⟩ : ∃ k, m = k + 1 := ⟨m - 1, by omega⟩
    exact .lst hl fun d hd => ih d hd (by omega)
  | tup hl _ ih =>
    intro m hm
    obtain ⟨k, rfl⟩ : ∃ k, m = k + 1 := ⟨m - 1, by omega⟩
    exact .tup hl fun d hd => ih d hd (by omega)
theorem dpa_len {K : PySem.W.Frag} {H : Hp} : ∀ {vs : List V} {ds : List PyData}, DpAll K H vs ds → vs.length = ds.length
  | _, _, .nil => rfl
  | _, _, .cons _ h => congrArg (· + 1) (dpa_len h)
theorem dpa_get {K : PySem.W.Frag} {H : Hp} : ∀ {vs : List V} {ds : List PyData} {i : Nat} {d : PyData}, DpAll K H vs ds → ds[i]? = some d → ∃ v, vs[i]? = some v ∧ Dp K H v d
  | _, _, _, _, .nil, e => by simp at e
  | _, _, 0, _, .cons r _, e => by simp at e; subst e; exact ⟨_, rfl, r⟩
  | _, _, i + 1, x, .cons _ t, e => by
    obtain ⟨u, h1, h2⟩ := dpa_get (i := i) (d := x) t (by simpa using e)
    exact ⟨u, by simpa using h1, h2⟩
theorem dpa_of {K : PySem.W.Frag} {H : Hp} {vs : List V} {ds : List Deed} (h : Paired (DV K H) vs ds) : DpAll K H vs (ds.map fun d => .tuple d.dat) := by
  induction h with
  | nil => exact .nil
  | cons a _ ih => exact .cons a.dp ih
section
variable {K : PySem.W.Frag} {σ : L2.St} {H : Hp} {te : TE} {t : TT}
/-- a comprehension over a new tuple, over a tuple -/
theorem el_lcNT {xs : List V} {tl : TE} {j : Nat} {vs : List Nat} (f : Nat → Bool) (v : Nat → V) (h : EvU tl σ H xs) (hz : xs.length ≤ 40000) (hw : ∀ x, wipe ((wipe σ vs).set j (some x)) vs = wipe σ vs)
    (ht : ∀ (i : Nat) (x : V) H1, Ex H H1 → xs[i]? = some x → EvT t ((wipe σ vs).set j (some x)) H1 (f i)) (he : ∀ (i : Nat) (x : V) H1, Ex H H1 → xs[i]? = some x → f i = true → Ev te ((wipe σ vs).set j (some x)) H1 (v i)) :
    EvL (tLc (iTup K tl) (gName j) t te vs) σ H (given xs.length f v) := fun H0 e Q q => h H0 e _ fun a H1 ha e1 hx => ⟨a, rfl, ⟨xs, st_of hx⟩, fun Dl hD =>
  lc_tup (xs := xs) (Cw H1 f v Dl) ⟨hD, Ex.new hD, upd_same⟩ (fun i H' _ p => st_of (p.2.1 a _ hx)) (fun i x H' hi p => ⟨hw x, cw_turn p (by have := (List.getElem?_eq_some_iff.mp hi).1; omega) (ht i x H1 (e.trans e1) hi) (fun hf => he i x H1 (e.trans e1) hi hf)⟩)
    (fun H' p => q Dl H' (fresh_back e1 p.1) (e1.trans p.2.1) p.2.2)⟩
theorem el_lcT {a : Addr} {xs : List V} {tl : TE} {j : Nat} {vs : List Nat} (f : Nat → Bool) (v : Nat → V) (h : Ev tl σ H (.ref a)) (hx : SqT K H a xs) (hz : xs.length ≤ 40000) (hw : ∀ x, wipe ((wipe σ vs).set j (some x)) vs = wipe σ vs)
    (ht : ∀ (i : Nat) (x : V) H1, Ex H H1 → xs[i]? = some x → EvT t ((wipe σ vs).set j (some x)) H1 (f i)) (he : ∀ (i : Nat) (x : V) H1, Ex H H1 → xs[i]? = some x → f i = true → Ev te ((wipe σ vs).set j (some x)) H1 (v i)) :
    EvL (tLc (iTup K tl) (gName j) t te vs) σ H (given xs.length f v) := fun H0 e Q q => h H0 e _ fun H1 e1 => ⟨a, rfl, ⟨xs, ex_t (e.trans e1) hx⟩, fun Dl hD =>
  lc_tup (xs := xs) (Cw H1 f v Dl) ⟨hD, Ex.new hD, upd_same⟩ (fun i H' _ p => ex_t ((e.trans e1).trans p.2.1) hx) (fun i x H' hi p => ⟨hw x, cw_turn p (by have := (List.getElem?_eq_some_iff.mp hi).1; omega) (ht i x H1 (e.trans e1) hi) (fun hf => he i x H1 (e.trans e1) hi hf)⟩)
    (fun H' p => q Dl H' (fresh_back e1 p.1) (e1.trans p.2.1) p.2.2)⟩
end
theorem given_two (f : Nat → Bool) (v : Nat → V) : given 2 f v = (if f 0 then [v 0] else []) ++ (if f 1 then [v 1] else []) := by
  have e : given 2 f v = (([0, 1] : List Nat).filter f).map v := rfl
  rw [e]
  cases h0 : f 0 <;> cases h1 : f 1 <;> simp [List.filter, h0, h1]
def Deed.tag : Deed → Str
  | .rd _ => "read"
  | .wr _ _ => "write"
  | .rs => "rest"
def Deed.cell : Deed → Option Nat
  | .rd c => some c
  | .wr c _ => some c
  | .rs => none
def Deed.isW : Deed → Bool
  | .wr _ _ => true
  | _ => false
/-- whether both are at one cell, and one writes -/
def clashD (d e : Deed) : Bool := match d.cell, e.cell with
  | some a, some b => decide (a = b) && (d.isW || e.isW)
  | _, _ => false
theorem DV.tag {K : PySem.W.Frag} {H : Hp} {a : Addr} {d : Deed} (h : SqT K H a d.vals) : RV (rIxT K) (.ref a) (.int 0) H (.str d.tag) := rv_ixT h (by cases d <;> rfl)
theorem in_ww : inV (.str "write") [.str "write", .str "write"] = true := by decide +kernel
theorem in_wr : inV (.str "write") [.str "write", .str "read"] = true := by decide +kernel
theorem in_rw : inV (.str "write") [.str "read", .str "write"] = true := by decide +kernel
theorem in_rr : inV (.str "write") [.str "read", .str "read"] = false := by decide +kernel
theorem tag_rest (d : Deed) : (!decide (V.str d.tag = V.str "rest")) = !decide (d = .rs) := by
  cases d with
  | rd c =>
    have h : decide (V.str (Deed.rd c).tag = V.str "rest") = false := (show decide (V.str "read" = V.str "rest") = false by decide +kernel)
    rw [h]
    simp
  | wr c w =>
    have h : decide (V.str (Deed.wr c w).tag = V.str "rest") = false := (show decide (V.str "write" = V.str "rest") = false by decide +kernel)
    rw [h]
    simp
  | rs => simp [Deed.tag]
theorem cut_at (us : List V) (i : Nat) : cutV us (some (i : Int)) (some ((i : Int) + 1)) = (us.drop i).take 1 := by
  unfold cutV
  have e1 : HT.sIx us.length 0 (some (i : Int)) = min i us.length := HT.sIx_nat _ _ _
  have e2 : HT.sIx us.length us.length (some ((i : Int) + 1)) = min (i + 1) us.length := HT.sIx_nat us.length us.length (i + 1)
  rw [e1, e2]
  by_cases h : i < us.length
  · have h1 : min i us.length = i := by omega
    have h2 : min (i + 1) us.length = i + 1 := by omega
    rw [h1, h2]
    have h3 : i + 1 - i = 1 := by omega
    rw [h3]
  · have h1 : min i us.length = us.length := by omega
    rw [h1, List.drop_of_length_le (Nat.le_refl _), List.drop_of_length_le (by omega)]
    simp
theorem cut_tail (us : List V) : cutV us (some 1) none = us.drop 1 := by
  unfold cutV
  have e1 : HT.sIx us.length 0 (some ((1 : Nat) : Int)) = min 1 us.length := HT.sIx_nat _ _ _
  have e2 : HT.sIx us.length us.length none = us.length := HT.sIx_none _ _
  have e3 : (some (1 : Int)) = some ((1 : Nat) : Int) := rfl
  rw [e3, e1, e2]
  cases us with
  | nil => rfl
  | cons a r =>
    have h1 : min 1 (a :: r).length = 1 := by simp
    rw [h1]
    simp
theorem PV.drop {K : PySem.W.Frag} {H : Hp} : ∀ {vs : List V} {ds : List Deed} (n : Nat), PV K H vs ds → PV K H (vs.drop n) (ds.drop n)
  | _, _, 0, h => h
  | _, _, n + 1, .nil => .nil
  | _, _, n + 1, .cons _ t => PV.drop n t
theorem sqt_K {K : PySem.W.Frag} {a : Addr} {d : Option Addr} {its : Array Value} {n : Nat} {sl : Array (Option Value)} {xs : List V} (l : K.lookup a = some ⟨.type "tuple", d, .seq its n, sl⟩) (hz : its.size ≤ sizeLine) (r : Vals xs its.toList) (H : Hp) : SqT K H a xs :=
  .inr ⟨_, its, n, l, rfl, rfl, hz, r⟩
/-- the written things of the program's first files -/
structure TxP (K : PySem.W.Frag) (mg : Str → Option Value) (aREST aWORTHS : Addr) (t4 t40 : Tok) : Prop where
  g_REST : mg "REST" = some (.ref aREST)
  REST : ∀ H, SqT K H aREST Deed.rs.vals
  g_WORTHS : mg "WORTHS" = some (.ref aWORTHS)
  WORTHS : ∀ H, SqT K H aWORTHS [.int 0, .int 1, .int 2]
  g_MOST_CELLS : mg "MOST_CELLS" = some (.int 4 t4)
  g_MOST_DEEDS : mg "MOST_DEEDS" = some (.int 40 t40)
theorem in_worths (i : Int) : inV (.int i) [.int 0, .int 1, .int 2] = decide (0 ≤ i ∧ i < 3) := by
  rw [Bool.eq_iff_iff]
  simp only [inV, eqV, List.any_cons, List.any_nil, Bool.or_false, Bool.or_eq_true, beq_iff_eq, decide_eq_true_eq]
  omega
theorem given_none (n : Nat) (v : Nat → V) : given n (fun _ => false) v = [] := by
  unfold given
  rw [List.filter_eq_nil_iff.mpr (fun _ _ => by decide)]
  rfl

/-! ### what is kept but at some places -/
def Bt (S : List Addr) (H H' : Hp) : Prop := ∀ b o, ¬ b ∈ S → H b = some o → H' b = some o
theorem Bt.refl {S : List Addr} (H : Hp) : Bt S H H := fun _ _ _ h => h
theorem Bt.trans {S : List Addr} {H H1 H2 : Hp} (a : Bt S H H1) (b : Bt S H1 H2) : Bt S H H2 := fun c o n h => b c o n (a c o n h)
theorem Bt.of_ex {S : List Addr} {H H' : Hp} (e : Ex H H') : Bt S H H' := fun c o _ h => e c o h
theorem Bt.ex {S : List Addr} {H H' : Hp} (a : Bt S H H') (h : ∀ b ∈ S, ∀ o, H b = some o → H' b = some o) : Ex H H' := fun c o q => by
  by_cases hc : c ∈ S
  · exact h c hc o q
  · exact a c o hc q
theorem Bt.mono {S T : List Addr} {H H' : Hp} (a : Bt S H H') (h : ∀ b ∈ S, b ∈ T) : Bt T H H' := fun c o n q => a c o (fun z => n (h c z)) q
theorem Bt.upd {S : List Addr} {H H' : Hp} {p : Addr} {o : HO} (a : Bt S H H') (hp : p ∈ S ∨ H p = none) : Bt S H (upd H' p o) := fun c u n q => by
  have hc : c ≠ p := by
    rintro rfl
    rcases hp with hp | hp
    · exact n hp
    · rw [hp] at q
      cases q
  rw [upd_ne hc]
  exact a c u n q
theorem Bt.free {S : List Addr} {H H' : Hp} {p : Addr} (a : Bt S H H') (hp : ¬ p ∈ S) (h : H' p = none) : H p = none := by
  cases q : H p with
  | none => rfl
  | some o =>
    rw [a p o hp q] at h
    cases h

/-! ### the draws: a list at h of a number, a list at l, a number -/
structure Draw (H : Hp) (h l : Addr) : Prop where
  st : ∃ (a p : Int) (ns : List Int), H h = some (.lst [.int a, .ref l, .int p]) ∧ H l = some (.lst (ns.map V.int)) ∧ ns.length ≤ 63
theorem Draw.ne {H : Hp} {h l : Addr} (D : Draw H h l) : h ≠ l := by
  obtain ⟨a, p, ns, h1, h2, _⟩ := D.st
  refine ne_of h1 h2 fun z => ?_
  injection z with z
  cases ns with
  | nil => cases z
  | cons n r =>
    cases r with
    | nil => cases z
    | cons m r =>
      injection z with _ z
      injection z with z _
      cases z
theorem Draw.mono {H H' : Hp} {h l : Addr} (e : Ex H H') (D : Draw H h l) : Draw H' h l := by
  obtain ⟨a, p, ns, h1, h2, h3⟩ := D.st
  exact ⟨a, p, ns, e _ _ h1, e _ _ h2, h3⟩
/-- a tuple stays through draws -/
theorem Draw.t {K : PySem.W.Frag} {H H' : Hp} {h l a : Addr} {xs : List V} (D : Draw H h l) (e : Bt [h, l] H H') (q : SqT K H a xs) : SqT K H' a xs := by
  obtain ⟨_, _, _, h1, h2, _⟩ := D.st
  rcases q with (q | ⟨o, q⟩) | q
  · refine .inl (.inl (e a _ ?_ q))
    simp only [List.mem_cons, List.not_mem_nil, or_false]
    rintro (rfl | rfl)
    · rw [h1] at q; cases q
    · rw [h2] at q; cases q
  · refine .inl (.inr ⟨o, e a _ ?_ q⟩)
    simp only [List.mem_cons, List.not_mem_nil, or_false]
    rintro (rfl | rfl)
    · rw [h1] at q; cases q
    · rw [h2] at q; cases q
  · exact .inr q
theorem Draw.dv {K : PySem.W.Frag} {H H' : Hp} {h l : Addr} {v : V} {d : Deed} (D : Draw H h l) (e : Bt [h, l] H H') (q : DV K H v d) : DV K H' v d := by
  obtain ⟨a, h1, h2⟩ := q
  exact ⟨a, h1, D.t e h2⟩
theorem pv_map {K : PySem.W.Frag} {H H' : Hp} {vs : List V} {ds : List Deed} (f : ∀ v d, DV K H v d → DV K H' v d) (q : PV K H vs ds) : PV K H' vs ds := L2.Paired.mapP q f
theorem Draw.pv {K : PySem.W.Frag} {H H' : Hp} {h l : Addr} {vs : List V} {ds : List Deed} (D : Draw H h l) (e : Bt [h, l] H H') (q : PV K H vs ds) : PV K H' vs ds := pv_map (fun _ _ => D.dv e) q
theorem PV.mono {K : PySem.W.Frag} {H H' : Hp} {vs : List V} {ds : List Deed} (e : Ex H H') (q : PV K H vs ds) : PV K H' vs ds := pv_map (fun _ _ => DV.mono e) q
theorem PV.length {K : PySem.W.Frag} {H : Hp} {vs : List V} {ds : List Deed} (q : PV K H vs ds) : vs.length = ds.length := Paired.length q
theorem PV.get {K : PySem.W.Frag} {H : Hp} : ∀ {vs : List V} {ds : List Deed} {i : Nat} {v : V}, PV K H vs ds → vs[i]? = some v → ∃ d, ds[i]? = some d ∧ DV K H v d
  | _, _, _, _, .nil, e => by simp at e
  | _, _, 0, _, .cons r _, e => by simp at e; subst e; exact ⟨_, rfl, r⟩
  | _, _, i + 1, x, .cons _ t, e => by
    obtain ⟨u, h1, h2⟩ := PV.get (i := i) (v := x) t (by simpa using e)
    exact ⟨u, by simpa using h1, h2⟩
theorem PV.snoc {K : PySem.W.Frag} {H : Hp} {v : V} {d : Deed} (r : DV K H v d) : ∀ {vs : List V} {ds : List Deed}, PV K H vs ds → PV K H (vs ++ [v]) (ds ++ [d])
  | _, _, .nil => .cons r .nil
  | _, _, .cons q t => .cons q (PV.snoc r t)
/-- a deed stays where a list is changed -/
theorem dv_but {K : PySem.W.Frag} {H H' : Hp} {p : Addr} {us : List V} {v : V} {d : Deed} (b : Bt [p] H H') (hp : H p = some (.lst us)) (q : DV K H v d) : DV K H' v d := by
  obtain ⟨a, h1, h2⟩ := q
  refine ⟨a, h1, ?_⟩
  have ne : ∀ o, H a = some o → (∀ xs, o ≠ .lst xs) → ¬ a ∈ [p] := by
    intro o ho no hm
    rw [List.mem_singleton.mp hm, hp] at ho
    exact no us (Option.some.inj ho).symm
  rcases h2 with (h2 | ⟨o, h2⟩) | h2
  · exact .inl (.inl (b a _ (ne _ h2 (fun _ z => by cases z)) h2))
  · exact .inl (.inr ⟨o, b a _ (ne _ h2 (fun _ z => by cases z)) h2⟩)
  · exact .inr h2
/-- a worth -/
def wV (n : Nat) : V := .int (n : Int)
/-- what a drawer promises of the heap -/
structure Drew (H H' : Hp) (h l : Addr) : Prop where
  dr : Draw H' h l
  bt : Bt [h, l] H H'
theorem Drew.refl {H : Hp} {h l : Addr} (D : Draw H h l) : Drew H H h l := ⟨D, Bt.refl H⟩
theorem Drew.trans {H H1 H2 : Hp} {h l : Addr} (a : Drew H H1 h l) (b : Drew H1 H2 h l) : Drew H H2 h l := ⟨b.dr, a.bt.trans b.bt⟩
theorem Drew.of_ex {H H1 H2 : Hp} {h l : Addr} (a : Drew H H1 h l) (e : Ex H1 H2) : Drew H H2 h l := ⟨a.dr.mono e, a.bt.trans (Bt.of_ex e)⟩
theorem Drew.new {H H1 : Hp} {h l p : Addr} {o : HO} (a : Drew H H1 h l) (hp : H1 p = none) : Drew H (upd H1 p o) h l := a.of_ex (Ex.new hp)

/-! ### a def with a default -/
structure HasD (K : PySem.W.Frag) (mg : Str → Option Value) (x : Str) (st : Stmt) (dvs : List V) : Prop where
  ex : ∃ f fd, FunD K x x (defArgs st) (defBody st) (defScope st) dvs [] f fd ∧ mg x = some (.ref f)
/-- called so that these fill up its last parameters -/
structure Dq (P : Program) (w : World) (K : PySem.W.Frag) (mg : Str → Option Value) (base : Heap) (CX : CXT) (x : Str) (ps : List Str) (dvs : List V) (k : Nat) (sp : Sp) : Prop where
  ex : ∃ f fd ds, FnOk P w K mg base CX k f fd ps sp ∧ mg x = some (.ref f) ∧ PySem.W.keepIn K (.ref f) = true ∧ Binds K fd ps ds ∧ Vals dvs ds
section
variable {P : Program} {w : World} {K : PySem.W.Frag} {mg : Str → Option Value} {base : Heap} {x : Str} {st : Stmt} {dvs : List V}
theorem FunD.ok0 {qual : Str} {f : Addr} {fd : FuncData} {N ps : List Str} {k : Nat} {sp : Sp} (F : FunD K x qual (defArgs st) (defBody st) (defScope st) dvs [] f fd) (S : FnScope N ps (defScope st)) (len : ∀ vs H Q E, sp vs H Q E → vs.length = ps.length)
    (hbody : ∀ (cdv : Value) (A : Around) (outer : List Env) (s : Shared) (H : Hp) (vs : List V) (Q : VK) (E : XK), Room k (A.deeper (PyProof.Rows.envOfC qual (defScope st) s.heap.objs.size f cdv)) → sp vs H Q E →
      ∃ t, PSs (cxOf CX0 P w K mg base N qual (defScope st) f cdv A outer s H E).nox (defBody st) t ∧ t { nx := fun _ H' => Q .non H', rt := Q } (start N vs) H) : FnOk P w K mg base CX0 (k + 1) f fd ps sp :=
  F.ok S len fun cdv A outer s H vs Q E hr hsp => by
    obtain ⟨t, h, q⟩ := hbody cdv A outer s H vs Q E hr hsp
    exact ⟨t, h.nox, q⟩
theorem dq_of {CX : CXT} {ps : List Str} {k : Nat} {sp : Sp} (n j : Nat) (h : HasD K mg x st dvs) (hd : dvs ≠ []) (hn : n + (dvs.length - j) = ps.length)
    (hb : ∀ (T : Addr) (kV doc pm : Value) (an : Option Addr) (cdv ct : Value) (us its : List Value), us.length = n → its.length = dvs.length →
      ∃ k, bindArgs (PySem.W.fnOf x x (defArgs st) (defBody st) (defScope st) (.ref T) kV doc pm an cdv ct) ⟨us, []⟩ = seqItems? (.ref T) >>= k ∧ k (some its.toArray) = pure (ps.zip (us ++ its.drop j)))
    (hf : ∀ f fd, FunD K x x (defArgs st) (defBody st) (defScope st) dvs [] f fd → FnOk P w K mg base CX k f fd ps sp) : Dq P w K mg base CX x ps (dvs.drop j) k sp := by
  obtain ⟨f, fd, F, hm⟩ := h.ex
  obtain ⟨ds, r, b⟩ := F.binds1 n j hd hn hb
  exact ⟨f, fd, ds, hf f fd F, hm, F.kp, b, r⟩
theorem hasD_mk {h : Heap} {f T : Addr} {oc cT : Value} {od an dT : Option Addr} {osl slT : Array (Option Value)} {kV doc pm cdv ct : Value} {i : Int} {tk : Tok} {n : Nat} (X : K.In h) (G : h.Ns mainGlobals mg)
    (a : PySem.W.nsIn K mainGlobals x = some (some (.ref f)))
    (l : K.lookup f = some ⟨oc, od, .func (PySem.W.fnOf x x (defArgs st) (defBody st) (defScope st) (.ref T) kV doc pm an cdv ct), osl⟩)
    (c : PySem.W.codeIn K cdv x = true) (k : PySem.W.keepIn K (.ref f) = true) (lT : K.lookup T = some ⟨cT, dT, .seq #[.int i tk] n, slT⟩) : HasD K mg x st [.int i] :=
  ⟨f, _, ⟨⟨oc, od, .ref T, kV, doc, pm, an, cdv, ct, osl, rfl, l, c, .inr ⟨by simp, T, _, [.int i tk], n, rfl, lT, rfl, .cons ⟨_, rfl⟩ .nil⟩, .inl rfl⟩, k⟩, PySem.W.mg_of X G a⟩
end
section
variable {X : Cx}
theorem pe_dq {CX : CXT} {x : Str} {ps : List Str} {dvs : List V} {k j : Nat} {sp : Sp} {E : XK} {e : Expr} {es : List Expr} {t : TA} {p pos : Pos} (h : Dq X.prog X.w X.K X.mg X.base CX x ps dvs k sp) (hr : Room j X.A) (hk : k ≤ j) (hx : Passes CX X E)
    (ha : PA X (e :: es) t) (hg : Gl X x := by rfl) (hdb : (x == ("__debug__" : Str)) = false := by decide) (he : starEach (e :: es) X.env = (false, eval e X.env) :: starEach es X.env := by rfl)
    (hpl : (backTo pos (starEach es X.env)).any (·.1) = false := by rfl) : PE X (.Call (.Name x p) (e :: es) [] pos) (tCall sp dvs E t) := by
  obtain ⟨f, fd, ds, F, hm, kp, b, r⟩ := h.ex
  exact pe_call F (hr.mono hk) hg hm kp b r hx ha hdb he hpl
end
end Db

namespace Db
open PySem L2 Evl
/-! ### the five rules, beat by beat -/
inductive Rule where
  | old | new | left | right | wait
  deriving DecidableEq
def Rule.name : Rule → Str
  | .old => "old" | .new => "new" | .left => "left" | .right => "right" | .wait => "wait"
def rdl (ws : List Nat) : Deed → List Nat
  | .rd c => [ws.getD c 0]
  | _ => []
def wrl (ws : List Nat) : Deed → List Nat
  | .wr c x => ws.set c x
  | _ => ws
theorem wrl_length (ws : List Nat) (d : Deed) : (wrl ws d).length = ws.length := by
  cases d <;> simp [wrl]
theorem rdl_length (ws : List Nat) (d : Deed) : (rdl ws d).length ≤ 1 := by
  cases d <;> simp [rdl]
theorem wrl_small {ws : List Nat} {d : Deed} {n : Nat} (h : ∀ x ∈ ws, x < 3) (hd : d.ok n) : ∀ x ∈ wrl ws d, x < 3 := by
  intro x hx
  cases d with
  | rd c => exact h x hx
  | rs => exact h x hx
  | wr c y =>
    rcases List.mem_or_eq_of_mem_set hx with hx | rfl
    · exact h x hx
    · exact hd.2
/-- what is told of a beat: the worths behind it, what is read at each door -/
def beat : Rule → List Nat → Deed → Deed → List Nat × List Nat × List Nat
  | .old, ws, d, e => (wrl (wrl ws e) d, rdl ws d, rdl ws e)
  | .new, ws, d, e => (wrl (wrl ws e) d, rdl (wrl (wrl ws e) d) d, rdl (wrl (wrl ws e) d) e)
  | .right, ws, d, e => (wrl (wrl ws e) d, rdl (wrl ws e) d, rdl ws e)
  | _, ws, d, e => (wrl (wrl ws d) e, rdl ws d, rdl (wrl ws d) e)
theorem beat_length (r : Rule) (ws : List Nat) (d e : Deed) : (beat r ws d e).1.length = ws.length := by
  cases r <;> simp [beat, wrl_length]
theorem beat_seen (r : Rule) (ws : List Nat) (d e : Deed) : (beat r ws d e).2.1.length ≤ 1 := by
  cases r <;> exact rdl_length _ _
theorem beat_others (r : Rule) (ws : List Nat) (d e : Deed) : (beat r ws d e).2.2.length ≤ 1 := by
  cases r <;> exact rdl_length _ _
theorem beat_small {r : Rule} {ws : List Nat} {d e : Deed} {n : Nat} (h : ∀ x ∈ ws, x < 3) (hd : d.ok n) (he : e.ok n) : ∀ x ∈ (beat r ws d e).1, x < 3 := by
  cases r
  case old => exact wrl_small (wrl_small h he) hd
  case new => exact wrl_small (wrl_small h he) hd
  case left => exact wrl_small (wrl_small h hd) he
  case right => exact wrl_small (wrl_small h he) hd
  case wait => exact wrl_small (wrl_small h hd) he
structure Sts where
  ws : List Nat
  l : List Deed
  r : List Deed
  ss : List Nat
  os : List Nat
  n : Nat
def Sts.done (S : Sts) : Prop := S.l = [] ∧ S.r = []
instance (S : Sts) : Decidable S.done := inferInstanceAs (Decidable (_ ∧ _))
/-- whether the right door waits -/
def waits (r : Rule) (S : Sts) : Bool := decide (r = .wait) && clashD (S.l.headD .rs) (S.r.headD .rs)
def after (S : Sts) (b : List Nat × List Nat × List Nat) (w : Bool) : Sts := { ws := b.1, l := S.l.tail, r := if w then S.r else S.r.tail, ss := S.ss ++ b.2.1, os := S.os ++ b.2.2, n := S.n + 1 }
def one (r : Rule) (S : Sts) : Sts := if waits r S = true then after S (beat .left S.ws (S.l.headD .rs) .rs) true else after S (beat r S.ws (S.l.headD .rs) (S.r.headD .rs)) false
def stepS (r : Rule) (S : Sts) : Sts := if S.done then S else one r S
def Sts.meas (S : Sts) : Nat := S.l.length + S.r.length
theorem waits_l {r : Rule} {S : Sts} (h : waits r S = true) : S.l ≠ [] := by
  intro z
  unfold waits at h
  rw [z] at h
  have e : clashD (([] : List Deed).headD .rs) (S.r.headD .rs) = false := rfl
  rw [e, Bool.and_false] at h
  cases h
theorem one_less {r : Rule} {S : Sts} (h : ¬ S.done) : (one r S).meas < S.meas := by
  unfold one
  by_cases hw : waits r S = true
  · rw [if_pos hw]
    have hl := waits_l hw
    unfold Sts.meas after
    cases hS : S.l with
    | nil => exact absurd hS hl
    | cons d t => simp
  · rw [if_neg hw]
    unfold Sts.meas after
    cases hl : S.l with
    | nil =>
      cases hr : S.r with
      | nil => exact absurd ⟨hl, hr⟩ h
      | cons e t => simp
    | cons d t =>
      cases hr : S.r with
      | nil => simp
      | cons e u => simp; omega
theorem stepS_of {r : Rule} {S : Sts} (h : ¬ S.done) : stepS r S = one r S := if_neg h
theorem stepS_done {r : Rule} {S : Sts} (h : S.done) : stepS r S = S := if_pos h
def runF (r : Rule) : Nat → Sts → Sts
  | 0, S => S
  | n + 1, S => runF r n (stepS r S)
theorem runF_done {r : Rule} {S : Sts} (h : S.done) : ∀ n, runF r n S = S
  | 0 => rfl
  | n + 1 => by
    rw [runF, stepS_done h]
    exact runF_done h n
theorem runF_more {r : Rule} : ∀ (n : Nat) (S : Sts), S.meas ≤ n → runF r n S = runF r S.meas S
  | 0, S, h => by rw [show S.meas = 0 by omega]
  | n + 1, S, h => by
    by_cases hd : S.done
    · rw [runF_done hd, runF_done hd]
    · have hl := one_less (r := r) hd
      obtain ⟨m, hm⟩ : ∃ m, S.meas = m + 1 := ⟨S.meas - 1, by omega⟩
      rw [hm, runF, runF, stepS_of hd, runF_more n _ (by omega)]
      by_cases e : m = n
      · rw [e, runF_more n _ (by omega)]
      · exact (runF_more m _ (by omega)).symm
  termination_by n => n
/-- what stands when all is done -/
def out (r : Rule) (S : Sts) : Sts := runF r S.meas S
theorem out_done {r : Rule} {S : Sts} (h : S.done) : out r S = S := runF_done h _
theorem out_one {r : Rule} {S : Sts} (h : ¬ S.done) : out r (one r S) = out r S := by
  unfold out
  have hl := one_less (r := r) h
  obtain ⟨m, hm⟩ : ∃ m, S.meas = m + 1 := ⟨S.meas - 1, by omega⟩
  rw [hm, runF, stepS_of h, runF_more m _ (by omega)]
def begin0 (ws : List Nat) (l r : List Deed) : Sts := ⟨ws, l, r, [], [], 0⟩
/-- what stays of a state through all beats: sizes, worths, deeds -/
structure Fit (c : Nat) (m : Nat) (S : Sts) : Prop where
  len : S.ws.length = c
  small : ∀ x ∈ S.ws, x < 3
  okl : ∀ d ∈ S.l, d.ok c
  okr : ∀ d ∈ S.r, d.ok c
  ss : S.ss.length + S.meas ≤ m
  os : S.os.length + S.meas ≤ m
  n : S.n + S.meas ≤ m
theorem ok_headD {c : Nat} {l : List Deed} (h : ∀ d ∈ l, d.ok c) : (l.headD .rs).ok c := by
  cases l with
  | nil => exact True.intro
  | cons d t => exact h d List.mem_cons_self
theorem mem_tail {l : List Deed} {d : Deed} (h : d ∈ l.tail) : d ∈ l := by
  cases l with
  | nil => exact h
  | cons e t => exact List.mem_cons_of_mem _ h
theorem Fit.one {c m : Nat} {S : Sts} {r : Rule} (F : Fit c m S) (h : ¬ S.done) : Fit c m (one r S) := by
  have hl := one_less (r := r) h
  have h1 := ok_headD F.okl
  have h2 := ok_headD F.okr
  by_cases hw : waits r S = true
  · have e : Db.one r S = after S (beat .left S.ws (S.l.headD .rs) .rs) true := if_pos hw
    rw [e] at hl ⊢
    have a1 := beat_seen .left S.ws (S.l.headD .rs) .rs
    have a2 := beat_others .left S.ws (S.l.headD .rs) .rs
    refine ⟨(beat_length _ _ _ _).trans F.len, beat_small F.small h1 (e := .rs) (n := c) True.intro, fun d hd => F.okl d (mem_tail hd), fun d hd => F.okr d hd, ?_, ?_, ?_⟩
    · have := F.ss
      show (S.ss ++ _).length + _ ≤ m
      rw [List.length_append]; omega
    · have := F.os
      show (S.os ++ _).length + _ ≤ m
      rw [List.length_append]; omega
    · have := F.n
      show S.n + 1 + _ ≤ m
      omega
  · have e : Db.one r S = after S (beat r S.ws (S.l.headD .rs) (S.r.headD .rs)) false := if_neg hw
    rw [e] at hl ⊢
    have a1 := beat_seen r S.ws (S.l.headD .rs) (S.r.headD .rs)
    have a2 := beat_others r S.ws (S.l.headD .rs) (S.r.headD .rs)
    refine ⟨(beat_length _ _ _ _).trans F.len, beat_small F.small h1 h2, fun d hd => F.okl d (mem_tail hd), fun d hd => F.okr d (mem_tail hd), ?_, ?_, ?_⟩
    · have := F.ss
      show (S.ss ++ _).length + _ ≤ m
      rw [List.length_append]; omega
    · have := F.os
      show (S.os ++ _).length + _ ≤ m
      rw [List.length_append]; omega
    · have := F.n
      show S.n + 1 + _ ≤ m
      omega
theorem Fit.begin0 {c : Nat} {ws : List Nat} {l r : List Deed} (h1 : ws.length = c) (h2 : ∀ x ∈ ws, x < 3) (h3 : ∀ d ∈ l, d.ok c) (h4 : ∀ d ∈ r, d.ok c) : Fit c (l.length + r.length) (begin0 ws l r) :=
  ⟨h1, h2, h3, h4, by show 0 + _ ≤ _; unfold Sts.meas; simp [Db.begin0], by show 0 + _ ≤ _; unfold Sts.meas; simp [Db.begin0], by show 0 + _ ≤ _; unfold Sts.meas; simp [Db.begin0]⟩
theorem fit_runF {c m : Nat} {r : Rule} : ∀ (n : Nat) (S : Sts), Fit c m S → Fit c m (runF r n S)
  | 0, _, F => F
  | n + 1, S, F => by
    rw [runF]
    refine fit_runF n _ ?_
    by_cases h : S.done
    · rw [stepS_done h]; exact F
    · rw [stepS_of h]; exact F.one h
theorem fit_out {c m : Nat} {r : Rule} {S : Sts} (F : Fit c m S) : Fit c m (out r S) := fit_runF _ _ F

/-! ### deeds through changes of lists -/
theorem t_but {K : PySem.W.Frag} {H H' : Hp} {S : List Addr} {a : Addr} {xs : List V} (b : Bt S H H') (hp : ∀ p ∈ S, ∃ us, H p = some (.lst us)) (q : SqT K H a xs) : SqT K H' a xs := by
  have ne : ∀ o, H a = some o → (∀ xs, o ≠ .lst xs) → ¬ a ∈ S := by
    intro o ho no hm
    obtain ⟨us, h⟩ := hp a hm
    rw [h] at ho
    exact no us (Option.some.inj ho).symm
  rcases q with (h2 | ⟨o, h2⟩) | h2
  · exact .inl (.inl (b a _ (ne _ h2 (fun _ z => by cases z)) h2))
  · exact .inl (.inr ⟨o, b a _ (ne _ h2 (fun _ z => by cases z)) h2⟩)
  · exact .inr h2
theorem dv_buts {K : PySem.W.Frag} {H H' : Hp} {S : List Addr} {v : V} {d : Deed} (b : Bt S H H') (hp : ∀ p ∈ S, ∃ us, H p = some (.lst us)) (q : DV K H v d) : DV K H' v d := by
  obtain ⟨a, h1, h2⟩ := q
  exact ⟨a, h1, t_but b hp h2⟩
theorem pv_buts {K : PySem.W.Frag} {H H' : Hp} {S : List Addr} {vs : List V} {ds : List Deed} (b : Bt S H H') (hp : ∀ p ∈ S, ∃ us, H p = some (.lst us)) (q : PV K H vs ds) : PV K H' vs ds := pv_map (fun _ _ => dv_buts b hp) q
theorem Bt.set {S : List Addr} {H H' : Hp} {p : Addr} {o : HO} (a : Bt S H H') (hp : p ∈ S) : Bt S H (L2.upd H' p o) := a.upd (.inl hp)
/-- a name is set: on with what follows -/
theorem gn {i : Nat} {v : V} {σ : L2.St} {H : Hp} {Q : L2.St → Hp → Prop} (h : Q (σ.set i (some v)) H) : gName i v σ H Q := h
theorem headD_drop : ∀ (ds : List Deed) (i : Nat), (ds.drop i).headD .rs = ds.getD i .rs
  | [], i => by simp
  | d :: r, 0 => rfl
  | d :: r, i + 1 => by
    have h := headD_drop r i
    simpa using h
theorem Dn.up {P : Program} {w : World} {K : PySem.W.Frag} {mg : Str → Option Value} {base : Heap} {CX : CXT} {x : Str} {ps : List Str} {j k : Nat} {sp : Sp} (h : Dn P w K mg base CX x ps j sp) (hk : j ≤ k) : Dn P w K mg base CX x ps k sp := by
  obtain ⟨f, fd, F, a, b, c⟩ := h.ex
  exact ⟨f, fd, F.mono hk, a, b, c⟩
/-- an extension of what stood ahead, if the places were new -/
theorem Bt.ex_back {S : List Addr} {H H1 H2 : Hp} (b : Bt S H H1) (f : Ex H1 H2) (h : ∀ p ∈ S, H p = none) : Ex H H2 := fun a o q => by
  refine f _ _ (b a o (fun hm => ?_) q)
  rw [h a hm] at q
  cases q
def ruleNames : List V := [.str "old", .str "new", .str "left", .str "right", .str "wait"]
/-! ### more of evaluation -/
section
variable {K : PySem.W.Frag} {σ : L2.St} {H : Hp} {ta tb te : TE} {t : TT} {D : Ends}
theorem el_if {b : Bool} {xs : List V} (h : EvT t σ H b) (h1 : b = true → EvL ta σ H xs) (h2 : b = false → EvL tb σ H xs) : EvL (tIf t ta tb) σ H xs := fun H1 e Q q => h H1 e _ fun H2 e2 => by
  cases b with
  | true =>
    show ta σ H2 Q
    exact h1 rfl H2 (e.trans e2) Q fun p H3 hp e3 h3 => q p H3 (fresh_back e2 hp) (e2.trans e3) h3
  | false =>
    show tb σ H2 Q
    exact h2 rfl H2 (e.trans e2) Q fun p H3 hp e3 h3 => q p H3 (fresh_back e2 hp) (e2.trans e3) h3
theorem el_cat {a b : Addr} {xs ys : List V} (ha : Ev ta σ H (.ref a)) (hb : Ev tb σ H (.ref b)) (h1 : H a = some (.lst xs)) (h2 : H b = some (.lst ys)) (hz : xs.length + ys.length ≤ 100000) : EvL (tOp rCat ta tb) σ H (xs ++ ys) := fun H1 e Q q =>
  ha H1 e _ fun H2 e2 => hb H2 (e.trans e2) _ fun H3 e3 => ⟨a, b, xs, ys, rfl, rfl, ((e.trans e2).trans e3) _ _ h1, ((e.trans e2).trans e3) _ _ h2, sz_of hz, fun p hp => q p _ (fresh_back (e2.trans e3) hp) ((e2.trans e3).trans (Ex.new hp)) upd_same⟩
theorem el_listA {p : Addr} {xs : List V} (ha : Ev ta σ H (.ref p)) (h : SqA K H p xs) : EvL (tCB (rListS K) (tCons ta tNil)) σ H xs := fun H1 e Q q =>
  ha H1 e _ fun H2 e2 => ⟨p, xs, rfl, ex_a (e.trans e2) h, fun l hl => q l _ (fresh_back e2 hl) (e2.trans (Ex.new hl)) upd_same⟩
/-- if the deed in a slot is a write, it is done at the list in another -/
theorem wr_body {i j : Nat} {p : Addr} {x : V} {dd : Deed} {u : List Nat} (hx : σ[i]? = some (some x)) (hp : σ[j]? = some (some (.ref p))) (dv : DV K H x dd) (h : H p = some (.lst (u.map wV))) (ho : dd.ok u.length)
    (k : ∀ H', Bt [p] H H' → H' p = some (.lst ((wrl u dd).map wV)) → D.nx σ H') :
    tIfS (tTest (tOp rEq (tOp (rIxT K) (tVar i) (tC (.int 0))) (tC (.str "write")))) (tAsg (tOp (rIxT K) (tVar i) (tC (.int 2))) (gSub (tVar j) (tOp (rIxT K) (tVar i) (tC (.int 1))) rSetL)) tNext D σ H := by
  obtain ⟨a, rfl, h1⟩ := dv
  refine s_when (b := decide (V.str dd.tag = V.str "write")) (et_test (ev_op (ev_op (ev_var hx) ev_c (DV.tag h1)) ev_c (rv_eq rfl))) (fun hb H1 f1 => ?_) (fun hb H1 f1 => ?_)
  · cases dd with
    | rd c => exact absurd hb (by show ¬ decide (V.str "read" = V.str "write") = true; decide +kernel)
    | rs => exact absurd hb (by show ¬ decide (V.str "rest" = V.str "write") = true; decide +kernel)
    | wr c y =>
      have g1 := ex_t f1 h1
      obtain ⟨hc, hy⟩ : c < u.length ∧ y < 3 := ho
      refine s_setL (l := p) (v := wV y) (j := c) (f1 _ _ h) (ev_op (ev_var hx) ev_c (rv_ixT g1 rfl)) (ev_var hp) (ev_op (ev_var hx) ev_c (rv_ixT g1 rfl)) (by rw [List.length_map]; exact hc) fun H2 f2 => ?_
      refine k _ ((Bt.of_ex (f1.trans f2)).upd (.inl (by simp))) ?_
      rw [upd_same, wrl, List.map_set]
  · refine k _ (Bt.of_ex f1) ?_
    cases dd with
    | wr c y => exact absurd hb (by show ¬ decide (V.str "write" = V.str "write") = false; decide +kernel)
    | rd c => exact f1 _ _ h
    | rs => exact f1 _ _ h
end
section
variable {K : PySem.W.Frag} {σ : L2.St} {H : Hp} {ta tb te : TE} {t : TT} {D : Ends} {tz : TS}
/-- xs.extend(ys), two lists -/
theorem s_ext {l b : Addr} {xs zs : List V} (hl : H l = some (.lst xs)) (hb : H b = some (.lst zs)) (ha : Ev ta σ H (.ref l)) (h : Ev te σ H (.ref b)) (hz : xs.length + zs.length ≤ 100000) (k : ∀ H1, Ex H H1 → D.nx σ (upd H1 l (.lst (xs ++ zs)))) :
    tDrop (tBM K "list" rExtend ta (tCons te tNil)) D σ H := ha H (Ex.refl H) _ fun H1 e1 =>
  ⟨Or.inl ⟨rfl, xs, sq_of (e1 l _ hl)⟩, h H1 e1 _ fun H2 e2 => ⟨l, b, xs, zs, rfl, rfl, e2 l _ (e1 l _ hl), e2 b _ (e1 b _ hb), sz_of hz, k H2 (e1.trans e2)⟩⟩
theorem q_ext {l b : Addr} {xs zs : List V} (hl : H l = some (.lst xs)) (hb : H b = some (.lst zs)) (ha : Ev ta σ H (.ref l)) (h : Ev te σ H (.ref b)) (hz : xs.length + zs.length ≤ 100000) (k : ∀ H1, Ex H H1 → tz D σ (upd H1 l (.lst (xs ++ zs)))) :
    tSeq (tDrop (tBM K "list" rExtend ta (tCons te tNil))) tz D σ H := s_ext (D := { D with nx := tz D }) hl hb ha h hz k
/-- xs.clear() -/
theorem s_clear {l : Addr} {xs : List V} (hl : H l = some (.lst xs)) (ha : Ev ta σ H (.ref l)) (k : ∀ H1, Ex H H1 → D.nx σ (upd H1 l (.lst []))) : tDrop (tBM0 K "list" rClear ta) D σ H := ha H (Ex.refl H) _ fun H1 e1 =>
  ⟨Or.inl ⟨rfl, xs, sq_of (e1 l _ hl)⟩, ⟨l, xs, rfl, rfl, e1 l _ hl, k H1 e1⟩⟩
end
theorem PV.append {K : PySem.W.Frag} {H : Hp} : ∀ {us vs : List V} {ds es : List Deed}, PV K H us ds → PV K H vs es → PV K H (us ++ vs) (ds ++ es)
  | _, _, _, _, .nil, h => h
  | _, _, _, _, .cons a t, h => .cons a (PV.append t h)
theorem sh_deeds (ds : List Deed) : Sh 2 (.list (ds.map fun d => .tuple d.dat)) := sh_lst fun x hx => by
  obtain ⟨d, _, rfl⟩ := List.mem_map.mp hx
  exact d.sh
theorem sh_two (ds es : List Deed) : Sh 3 (.tuple [.list (ds.map fun d => .tuple d.dat), .list (es.map fun d => .tuple d.dat)]) := sh_tup fun x hx => by
  simp only [List.mem_cons, List.not_mem_nil, or_false] at hx
  rcases hx with rfl | rfl
  · exact sh_deeds _
  · exact sh_deeds _
theorem PV.dp {K : PySem.W.Frag} {H : Hp} {p : Addr} {us : List V} {ds : List Deed} (h : SqL K H p us) (q : PV K H us ds) : Dp K H (.ref p) (.list (ds.map fun d => .tuple d.dat)) := .lst h (dpa_of q)
theorem eqv_deeds_nil (ds : List Deed) : PyData.eqv (.list (ds.map fun d => .tuple d.dat)) (.list []) = decide (ds = []) := by
  cases ds with
  | nil => simp [PyData.eqv, PyData.eqvAll]
  | cons d r => simp [PyData.eqv, PyData.eqvAll]
theorem getD_zero (ds : List Deed) : ds.getD 0 .rs = ds.headD .rs := by cases ds <;> rfl
/-- the rule that a beat is done by -/
def rule2 (r : Rule) : Rule := if r = .wait then .left else r
theorem rule2_ne (r : Rule) : rule2 r ≠ .wait := by cases r <;> decide
theorem one_eq (r : Rule) (S : Sts) : one r S = after S (beat (rule2 r) S.ws (S.l.headD .rs) (if waits r S = true then .rs else S.r.headD .rs)) (waits r S) := by
  unfold one
  by_cases h : waits r S = true
  · have hr : r = .wait := by
      unfold waits at h
      rw [Bool.and_eq_true] at h
      exact of_decide_eq_true h.1
    rw [if_pos h, if_pos h, h, hr]
    rfl
  · have h2 : waits r S = false := by
      cases q : waits r S with
      | true => exact absurd q h
      | false => rfl
    rw [if_neg h, if_neg h, h2]
    cases r <;> rfl
theorem Draw.out {H : Hp} {h l p : Addr} (D : Draw H h l) (hp : H p = none) : ¬ p ∈ [h, l] := by
  obtain ⟨_, _, _, q1, q2, _⟩ := D.st
  simp only [List.mem_cons, List.not_mem_nil, or_false]
  rintro (rfl | rfl)
  · rw [hp] at q1; cases q1
  · rw [hp] at q2; cases q2
theorem rule_at {i : Nat} {x : V} (h : ruleNames[i]? = some x) : ∃ r : Rule, x = .str r.name := by
  match i, h with
  | 0, h => exact ⟨.old, (Option.some.inj h).symm⟩
  | 1, h => exact ⟨.new, (Option.some.inj h).symm⟩
  | 2, h => exact ⟨.left, (Option.some.inj h).symm⟩
  | 3, h => exact ⟨.right, (Option.some.inj h).symm⟩
  | 4, h => exact ⟨.wait, (Option.some.inj h).symm⟩
  | i + 5, h => simp [ruleNames] at h
/-- worths as data -/
def wD (ws : List Nat) : List PyData := ws.map fun (n : Nat) => PyData.int (n : Int)
theorem dpa_w {K : PySem.W.Frag} {H : Hp} : ∀ ws : List Nat, DpAll K H (ws.map wV) (wD ws)
  | [] => .nil
  | n :: r => .cons (.int (n : Int)) (dpa_w r)
theorem nice_w {ws : List Nat} {n : Nat} (h : ws.length ≤ 1000) : Nice (n + 1) (.list (wD ws)) := .lst (by unfold wD; rw [List.length_map]; exact h) fun d hd => by
  obtain ⟨x, _, rfl⟩ := List.mem_map.mp hd
  exact .int _
theorem nice_wT {ws : List Nat} {n : Nat} (h : ws.length ≤ 1000) : Nice (n + 1) (.tuple (wD ws)) := .tup (by unfold wD; rw [List.length_map]; exact h) fun d hd => by
  obtain ⟨x, _, rfl⟩ := List.mem_map.mp hd
  exact .int _
theorem rdl_wrl (u : List Nat) (d : Deed) : rdl (wrl u d) d = rdl u d := by cases d <;> rfl
def looksK (a b c d : V) : List (Key × V) := [(.inr "old", a), (.inr "new", b), (.inr "left", c), (.inr "right", d)]
def lookOf (r : Rule) (a b c d : V) : V := match r with
  | .old => a | .new => b | .left => c | .right => d | .wait => c
theorem looks_at (r : Rule) (hr : r ≠ .wait) (a b c d : V) : valV (mergeK [] (looksK a b c d)) (.inr r.name) = some (lookOf r a b c d) := by
  cases r with
  | old => rfl
  | new => rfl
  | left => rfl
  | right => rfl
  | wait => exact absurd rfl hr
/-- the written things of the rules' file: the text of the rules, their defs -/
def Rule.step : Rule → Str
  | .old => "step_old" | .new => "step_new" | .left => "step_left" | .right => "step_right" | .wait => "step_left"
theorem in_rules (r : Rule) : inV (.str r.name) ruleNames = true := by cases r <;> decide +kernel
structure TxR (K : PySem.W.Frag) (mg : Str → Option Value) (w : World) (aRULES aSTEPS : Addr) : Prop where
  g_RULES : mg "RULES" = some (.ref aRULES)
  RULES : ∀ H, SqT K H aRULES ruleNames
  g_STEPS : mg "STEPS" = some (.ref aSTEPS)
  STEPS : ∀ r : Rule, ∃ f, mg r.step = some (.ref f) ∧ KDct K w aSTEPS r.name (.ref f)
/-- the beats in which two programs clash -/
def clashesD (ds es : List Deed) : List Nat := (List.range (min ds.length es.length)).filter fun i => clashD (ds.getD i .rs) (es.getD i .rs)
theorem clashD_comm (d e : Deed) : clashD d e = clashD e d := by
  unfold clashD
  cases d.cell with
  | none => cases e.cell <;> rfl
  | some a =>
    cases e.cell with
    | none => rfl
    | some b =>
      show (decide (a = b) && (d.isW || e.isW)) = (decide (b = a) && (e.isW || d.isW))
      rw [Bool.or_comm, show decide (a = b) = decide (b = a) from decide_eq_decide.mpr eq_comm]
theorem clashesD_comm (ds es : List Deed) : clashesD ds es = clashesD es ds := by
  unfold clashesD
  rw [Nat.min_comm]
  congr 1
  funext i
  exact clashD_comm _ _
/-- those ahead of a beat -/
def clashesTo (ds es : List Deed) (n : Nat) : List Nat := (List.range n).filter fun i => clashD (ds.getD i .rs) (es.getD i .rs)
theorem clashesTo_succ (ds es : List Deed) (n : Nat) : clashesTo ds es (n + 1) = if clashD (ds.getD n .rs) (es.getD n .rs) = true then clashesTo ds es n ++ [n] else clashesTo ds es n := by
  unfold clashesTo
  rw [List.range_succ, List.filter_append, List.filter_cons, List.filter_nil]
  split
  · rfl
  · rw [List.append_nil]
theorem clashesTo_length (ds es : List Deed) (n : Nat) : (clashesTo ds es n).length ≤ n := by
  have h := List.length_filter_le (fun i => clashD (ds.getD i .rs) (es.getD i .rs)) (List.range n)
  rw [List.length_range] at h
  exact h
theorem rc_min {H : Hp} {i j : Int} : RC (fun xs H Q => ∃ i j, xs = [V.int i, V.int j] ∧ Q (.int (if j < i then j else i)) H) [.int i, .int j] H (.int (if j < i then j else i)) := fun H1 _ _ q => ⟨i, j, rfl, q H1 (Ex.refl H1)⟩
/-! ### what the top has written -/
theorem txp_mk {K : PySem.W.Frag} {h : Heap} {mg : Str → Option Value} {aR aW : Addr} {t4 t40 t1 u0 u1 u2 : Tok} {d1 d2 : Option Addr} {n1 n2 : Nat} {sl1 sl2 : Array (Option Value)} (X : K.In h) (G : h.Ns mainGlobals mg)
    (a1 : PySem.W.nsIn K mainGlobals "REST" = some (some (.ref aR))) (l1 : K.lookup aR = some ⟨.type "tuple", d1, .seq #[.str "rest" t1] n1, sl1⟩)
    (a2 : PySem.W.nsIn K mainGlobals "WORTHS" = some (some (.ref aW))) (l2 : K.lookup aW = some ⟨.type "tuple", d2, .seq #[.int 0 u0, .int 1 u1, .int 2 u2] n2, sl2⟩)
    (c4 : PySem.W.nsIn K mainGlobals "MOST_CELLS" = some (some (.int 4 t4))) (c40 : PySem.W.nsIn K mainGlobals "MOST_DEEDS" = some (some (.int 40 t40))) : TxP K mg aR aW t4 t40 :=
  ⟨PySem.W.mg_of X G a1, sqt_K l1 (by show 1 ≤ sizeLine; decide) (.cons ⟨_, rfl⟩ .nil), PySem.W.mg_of X G a2, sqt_K l2 (by show 3 ≤ sizeLine; decide) (.cons ⟨_, rfl⟩ (.cons ⟨_, rfl⟩ (.cons ⟨_, rfl⟩ .nil))), PySem.W.mg_of X G c4, PySem.W.mg_of X G c40⟩
theorem txr_mk {K : PySem.W.Frag} {h : Heap} {mg : Str → Option Value} {w : World} {aR aS : Addr} {t1 t2 t3 t4 t5 : Tok} {d1 : Option Addr} {n1 n : Nat} {sl1 : Array (Option Value)} {es : Array DictEntry} {f1 f2 f3 f4 : Addr} (X : K.In h) (G : h.Ns mainGlobals mg)
    (a1 : PySem.W.nsIn K mainGlobals "RULES" = some (some (.ref aR))) (l1 : K.lookup aR = some ⟨.type "tuple", d1, .seq #[.str "old" t1, .str "new" t2, .str "left" t3, .str "right" t4, .str "wait" t5] n1, sl1⟩)
    (a2 : PySem.W.nsIn K mainGlobals "STEPS" = some (some (.ref aS))) (l2 : K.lookup aS = some ⟨.type "dict", none, .dict es n, #[]⟩) (kl : PySem.W.KeysLit w.params es.toList)
    (g1 : PySem.W.nsIn K mainGlobals "step_old" = some (some (.ref f1))) (g2 : PySem.W.nsIn K mainGlobals "step_new" = some (some (.ref f2))) (g3 : PySem.W.nsIn K mainGlobals "step_left" = some (some (.ref f3))) (g4 : PySem.W.nsIn K mainGlobals "step_right" = some (some (.ref f4)))
    (k1 : PySem.W.nsIn K aS "old" = some (some (.ref f1))) (k2 : PySem.W.nsIn K aS "new" = some (some (.ref f2))) (k3 : PySem.W.nsIn K aS "left" = some (some (.ref f3))) (k4 : PySem.W.nsIn K aS "right" = some (some (.ref f4))) (k5 : PySem.W.nsIn K aS "wait" = some (some (.ref f3))) : TxR K mg w aR aS := by
  refine ⟨PySem.W.mg_of X G a1, sqt_K l1 (by show 5 ≤ sizeLine; decide) (.cons ⟨_, rfl⟩ (.cons ⟨_, rfl⟩ (.cons ⟨_, rfl⟩ (.cons ⟨_, rfl⟩ (.cons ⟨_, rfl⟩ .nil))))), PySem.W.mg_of X G a2, fun r => ?_⟩
  cases r with
  | old => exact ⟨f1, PySem.W.mg_of X G g1, es, n, _, l2, kl, k1, rfl⟩
  | new => exact ⟨f2, PySem.W.mg_of X G g2, es, n, _, l2, kl, k2, rfl⟩
  | left => exact ⟨f3, PySem.W.mg_of X G g3, es, n, _, l2, kl, k3, rfl⟩
  | right => exact ⟨f4, PySem.W.mg_of X G g4, es, n, _, l2, kl, k4, rfl⟩
  | wait => exact ⟨f3, PySem.W.mg_of X G g3, es, n, _, l2, kl, k5, rfl⟩
theorem nb_mk {K : PySem.W.Frag} {h : Heap} {mg : Str → Option Value} (X : K.In h) (G : h.Ns mainGlobals mg)
    (h1 : PySem.W.nsIn K mainGlobals "len" = some none) (h2 : PySem.W.nsIn K mainGlobals "isinstance" = some none) (h3 : PySem.W.nsIn K mainGlobals "max" = some none) (h4 : PySem.W.nsIn K mainGlobals "min" = some none)
    (h5 : PySem.W.nsIn K mainGlobals "range" = some none) (h6 : PySem.W.nsIn K mainGlobals "enumerate" = some none) (h7 : PySem.W.nsIn K mainGlobals "zip" = some none) (h8 : PySem.W.nsIn K mainGlobals "list" = some none)
    (h9 : PySem.W.nsIn K mainGlobals "tuple" = some none) (h10 : PySem.W.nsIn K mainGlobals "int" = some none) (h11 : PySem.W.nsIn K mainGlobals "bool" = some none) (h12 : PySem.W.nsIn K mainGlobals "str" = some none) : Nb mg :=
  ⟨PySem.W.mg_none_of X G h1, PySem.W.mg_none_of X G h2, PySem.W.mg_none_of X G h3, PySem.W.mg_none_of X G h4, PySem.W.mg_none_of X G h5, PySem.W.mg_none_of X G h6, PySem.W.mg_none_of X G h7, PySem.W.mg_none_of X G h8, PySem.W.mg_none_of X G h9, PySem.W.mg_none_of X G h10, PySem.W.mg_none_of X G h11, PySem.W.mg_none_of X G h12⟩
end Db

namespace Zen
open PySem PySem.Spec PyProof.Rows L2
section
variable {prog : Program} {w : World} {A : Around} {E : Value → Shared → Prop} {s : Shared}
/-- a zip between two draws: its own tuple never given away, or given away (whether that one still lives is not known) -/
def ZipAt (h : Heap) (z TI TO : Addr) : Prop := IsZip h z TI TO .none ∨ ∃ (T : Addr) (f : Bool), IsZipHeld h z TI TO T f
theorem ZipAt.lt {h : Heap} {z TI TO : Addr} (q : ZipAt h z TI TO) : ∃ o, h.get? z = some o ∧ ∀ v, o.data ≠ .cell v := by
  rcases q with q | ⟨T, f, q⟩
  · exact ⟨_, q, fun v c => nomatch c⟩
  · exact ⟨_, q, fun v c => nomatch c⟩
theorem ZipAt.keep {h h' : Heap} {z TI TO : Addr} (q : ZipAt h z TI TO) (k : ∀ o, h.get? z = some o → h'.get? z = some o) : ZipAt h' z TI TO := by
  rcases q with q | ⟨T, f, q⟩
  · exact .inl (k _ q)
  · exact .inr ⟨T, f, k _ q⟩
/-- what a draw leaves -/
structure Drawn2 (h h' : Heap) (z TI TO i1 i2 l1 l2 : Addr) (k : Nat) (x y : Value) : Prop where
  zip : ZipAt h' z TI TO
  own : ∃ a b, IsPair h' TO a b
  it1 : h'.IsListIter i1 l1 (k + 1)
  it2 : h'.IsListIter i2 l2 (k + 1)
  new : IsPair h' h.objs.size x y
  size : h'.objs.size = h.objs.size + 1
  keep : ∀ c o, c ≠ z → c ≠ TO → c ≠ i1 → c ≠ i2 → h.get? c = some o → h'.get? c = some o
theorem gone {a : Addr} {Q : Option Obj → Shared → Prop} (ho : s.heap.get? a = none) (h : Q none s) : wpAny (model prog w) A (loadIfAlive a) Q E s := by
  have q : Q (s.heap.get? a) s := by rw [ho]; exact h
  exact fun _ _ _ => q
theorem free_dead {z TI TO T : Addr} {f : Bool} {Q : Bool → Shared → Prop} (hz : IsZipHeld s.heap z TI TO T f) (hT : s.heap.get? T = none) (h : Q true s) : wpAny (model prog w) A (Builtin.SmallTypes.ownedTupleIsFree (.ref z)) Q E s := by
  unfold Builtin.SmallTypes.ownedTupleIsFree
  refine wpAny_bind (wpAny_field hz rfl (x := rawInt T) rfl ?_)
  show wpAny _ _ (loadIfAlive ((T : Int).toNat) >>= _) _ _ _
  rw [Int.toNat_natCast]
  refine wpAny_bind (gone hT ?_)
  exact wpAny_pure h
/-- the next pair, the tuple that was given away dead -/
theorem item_dead {z TI TO T i1 i2 l1 l2 : Addr} {f : Bool} {k : Nat} {xs ys : Array Value} {x y a b : Value} {Q : Value → Shared → Prop} (D : ZipApart z TI TO i1 i2 l1 l2) (hz : IsZipHeld s.heap z TI TO T f) (hT : s.heap.get? T = none)
    (hTI : IsPair s.heap TI (.ref i1) (.ref i2)) (hTO : IsPair s.heap TO a b) (h1 : s.heap.IsListIter i1 l1 k) (h2 : s.heap.IsListIter i2 l2 k) (hl1 : s.heap.IsList l1 xs) (hl2 : s.heap.IsList l2 ys) (hx : xs[k]? = some x) (hy : ys[k]? = some y)
    (hQ : ∀ g, Drawn2 s.heap g z TI TO i1 i2 l1 l2 k x y → Q (.ref s.heap.objs.size) { s with heap := g }) :
    wpAny (model prog w) A (Builtin.«zip.__next__» ⟨[.ref z], []⟩) (fun fin s' => ∃ v, fin = .done (.ret v) ∧ Q v s') E s := by
  show wpAny _ _ (field (.ref z) 2 >>= _) _ _ _
  refine wpAny_bind (wpAny_field hz rfl (x := .bool false) rfl ?_)
  show wpAny _ _ (field (.ref z) 3 >>= _) _ _ _
  refine wpAny_bind (wpAny_field hz rfl (x := .ref TI) rfl ?_)
  refine wpAny_bind (wpAny_seqItems hTI rfl ?_)
  show wpAny _ _ (Builtin.SmallTypes.ownedTupleIsFree (.ref z) >>= _) _ _ _
  refine wpAny_bind (free_dead hz hT ?_)
  simp only [if_true]
  refine wpAny_bind (wpAny_rule (wpAny_bind (wpAny_field hz rfl (x := .ref TO) rfl ?_)))
  refine wpAny_bind (wpAny_setField_rec hz (by simp) fun g1 zg1 e1 => ?_)
  replace zg1 : g1.get? z = some { cls := .type "zip", dict := none, data := .fields #[.ellipsis, .bool f, .bool false, .ref TI, .ref TO], slots := #[] } := zg1
  refine wpAny_bind ?_
  simp only [List.zipIdx_cons, List.zipIdx_nil, List.forIn_cons, List.forIn_nil]
  refine wpAny_bind (wpAny_bind (wpAny_onRaise ?_))
  show wpAny _ _ (Builtin.SmallTypes.nextOf (.ref i1) >>= _) _ _ _
  refine wpAny_bind (wpAny_nextOf_list_item (h1.extBut e1.extBut D.i1z) (hl1.extBut e1.extBut D.l1z) hx fun g2 a1 e2 => wpAny_pure ?_)
  have p2 : IsPair g2 TO a b := e2.extBut _ _ D.TOi1 (e1.extBut _ _ D.TOz hTO)
  refine wpAny_bind (wpAny_seqItems p2 rfl (wpAny_bind (wpAny_updateSeq_pair p2 fun g3 p3 e3 => ?_)))
  replace p3 : IsPair g3 TO x b := p3
  refine wpAny_bind (wpAny_letGo (wpAny_pure (wpAny_bind (wpAny_bind (wpAny_onRaise ?_)))))
  show wpAny _ _ (Builtin.SmallTypes.nextOf (.ref i2) >>= _) _ _ _
  refine wpAny_bind (wpAny_nextOf_list_item (((h2.extBut e1.extBut D.i2z).extBut e2.extBut D.i12.symm).extBut e3.extBut D.TOi2.symm) (((hl2.extBut e1.extBut D.l2z).extBut e2.extBut D.l2i1).extBut e3.extBut D.l2TO) hy fun g4 a2 e4 => wpAny_pure ?_)
  have p4 : IsPair g4 TO x b := e4.extBut _ _ D.TOi2 p3
  refine wpAny_bind (wpAny_seqItems p4 rfl (wpAny_bind (wpAny_updateSeq_pair p4 fun g5 p5 e5 => ?_)))
  replace p5 : IsPair g5 TO x y := p5
  refine wpAny_bind (wpAny_letGo (wpAny_pure (wpAny_pure (wpAny_bind (wpAny_seqItems p5 rfl (wpAny_bind (wpAny_newTuple ?_)))))))
  have n5 : g5.objs.size = s.heap.objs.size := by rw [e5.1, e4.1, e3.1, e2.1, e1.1]
  have z5 : g5.get? z = some { cls := .type "zip", dict := none, data := .fields #[.ellipsis, .bool f, .bool false, .ref TI, .ref TO], slots := #[] } := e5.extBut _ _ D.TOz.symm (e4.extBut _ _ D.i2z.symm (e3.extBut _ _ D.TOz.symm (e2.extBut _ _ D.i1z.symm zg1)))
  have k5 : ∀ c o, c ≠ z → c ≠ TO → c ≠ i1 → c ≠ i2 → s.heap.get? c = some o → g5.get? c = some o := fun c o q1 q2 q3 q4 q => e5.extBut _ _ q2 (e4.extBut _ _ q4 (e3.extBut _ _ q2 (e2.extBut _ _ q3 (e1.extBut _ _ q1 q))))
  have b1 : g5.IsListIter i1 l1 (k + 1) := ((a1.extBut e3.extBut D.TOi1.symm).extBut e4.extBut D.i12).extBut e5.extBut D.TOi1.symm
  have b2 : g5.IsListIter i2 l2 (k + 1) := a2.extBut e5.extBut D.TOi2.symm
  have zlt : z < g5.objs.size := Heap.lt_size z5
  show wpAny _ _ (Builtin.SmallTypes.ownedTupleHandOut (.ref z) (.ref g5.objs.size) >>= _) _ _ _
  refine wpAny_bind ?_
  unfold Builtin.SmallTypes.ownedTupleHandOut
  refine wpAny_bind (wpAny_setField_rec (Heap.get?_push_of_some _ z5) (by simp) fun g7 z7 e7 => wpAny_setField_rec z7 (by simp) fun g8 z8 e8 => wpAny_pure ⟨_, rfl, ?_⟩)
  have up : ∀ c o, c ≠ z → g5.get? c = some o → g8.get? c = some o := fun c o q1 q => e8.extBut _ _ q1 (e7.extBut _ _ q1 (Heap.get?_push_of_some _ q))
  have t8 : IsPair g8 g5.objs.size x y := e8.extBut _ _ (Nat.ne_of_gt zlt) (e7.extBut _ _ (Nat.ne_of_gt zlt) (Heap.get?_push_size _ rfl))
  have n8 : g8.objs.size = g5.objs.size + 1 := by rw [e8.1, e7.1, Heap.size_push]
  show Q (.ref g5.objs.size) _
  have zh : IsZipHeld g8 z TI TO g5.objs.size false := z8
  rw [n5] at zh t8 n8 ⊢
  exact hQ g8 ⟨.inr ⟨_, _, zh⟩, ⟨_, _, up _ _ D.TOz p5⟩, b1.at fun o q => up _ o D.i1z q, b2.at fun o q => up _ o D.i2z q, t8, n8, fun c o q1 q2 q3 q4 q => up c o q1 (k5 c o q1 q2 q3 q4 q)⟩
/-- the next pair, at any place between two draws -/
theorem item_any {z TI TO i1 i2 l1 l2 : Addr} {k : Nat} {xs ys : Array Value} {x y a b : Value} {Q : Value → Shared → Prop} (D : ZipApart z TI TO i1 i2 l1 l2) (hz : ZipAt s.heap z TI TO)
    (hTI : IsPair s.heap TI (.ref i1) (.ref i2)) (hTO : IsPair s.heap TO a b) (h1 : s.heap.IsListIter i1 l1 k) (h2 : s.heap.IsListIter i2 l2 k) (hl1 : s.heap.IsList l1 xs) (hl2 : s.heap.IsList l2 ys) (hx : xs[k]? = some x) (hy : ys[k]? = some y)
    (hQ : ∀ g, Drawn2 s.heap g z TI TO i1 i2 l1 l2 k x y → Q (.ref s.heap.objs.size) { s with heap := g }) :
    wpAny (model prog w) A (Builtin.«zip.__next__» ⟨[.ref z], []⟩) (fun fin s' => ∃ v, fin = .done (.ret v) ∧ Q v s') E s := by
  rcases hz with hz | ⟨T, f, hz⟩
  · exact zip_next_item D hz hTI hTO h1 h2 hl1 hl2 hx hy fun g q1 q2 q3 q4 q5 q6 q7 => hQ g ⟨.inr ⟨_, false, q1⟩, ⟨_, _, q2⟩, q3, q4, q5, q6, q7⟩
  · cases hT : s.heap.get? T with
    | none => exact item_dead D hz hT hTI hTO h1 h2 hl1 hl2 hx hy hQ
    | some oT => exact zip_next_item_held D hz hT hTI h1 h2 hl1 hl2 hx hy fun g q1 q3 q4 q5 q6 q7 => hQ g ⟨.inr ⟨_, _, q1⟩, ⟨_, _, q7 _ _ D.TOz D.TOi1 D.TOi2 hTO⟩, q3, q4, q5, q6, fun c o c1 _ c3 c4 q => q7 c o c1 c3 c4 q⟩
/-- no more pairs -/
theorem end_dead {z TI TO T i1 i2 l1 l2 : Addr} {f : Bool} {k : Nat} {xs ys : Array Value} {a b : Value} {Q : Fin → Shared → Prop} (hh : A.handled = none) (D : ZipApart z TI TO i1 i2 l1 l2) (hz : IsZipHeld s.heap z TI TO T f) (hT : s.heap.get? T = none)
    (hTI : IsPair s.heap TI (.ref i1) (.ref i2)) (hTO : IsPair s.heap TO a b) (h1 : s.heap.IsListIter i1 l1 k) (h2 : s.heap.IsListIter i2 l2 k) (hl1 : s.heap.IsList l1 xs) (hl2 : s.heap.IsList l2 ys) (hend : xs[k]? = none ∨ ys[k]? = none)
    (hE : ∀ g e, (∀ c o, c ≠ z → c ≠ TO → c ≠ i1 → c ≠ i2 → s.heap.get? c = some o → g.get? c = some o) → (∃ o, g.get? e = some o ∧ o.cls = .type "StopIteration") → E (.ref e) { s with heap := g }) :
    wpAny (model prog w) A (Builtin.«zip.__next__» ⟨[.ref z], []⟩) Q E s := by
  show wpAny _ _ (field (.ref z) 2 >>= _) _ _ _
  refine wpAny_bind (wpAny_field hz rfl (x := .bool false) rfl ?_)
  show wpAny _ _ (field (.ref z) 3 >>= _) _ _ _
  refine wpAny_bind (wpAny_field hz rfl (x := .ref TI) rfl ?_)
  refine wpAny_bind (wpAny_seqItems hTI rfl ?_)
  show wpAny _ _ (Builtin.SmallTypes.ownedTupleIsFree (.ref z) >>= _) _ _ _
  refine wpAny_bind (free_dead hz hT ?_)
  simp only [if_true]
  refine wpAny_bind (wpAny_rule (wpAny_bind (wpAny_field hz rfl (x := .ref TO) rfl ?_)))
  refine wpAny_bind (wpAny_setField_rec hz (by simp) fun g1 zg1 e1 => ?_)
  replace zg1 : g1.get? z = some { cls := .type "zip", dict := none, data := .fields #[.ellipsis, .bool f, .bool false, .ref TI, .ref TO], slots := #[] } := zg1
  refine wpAny_bind ?_
  simp only [List.zipIdx_cons, List.zipIdx_nil, List.forIn_cons, List.forIn_nil]
  refine wpAny_bind (wpAny_bind (wpAny_onRaise ?_))
  show wpAny _ _ (Builtin.SmallTypes.nextOf (.ref i1) >>= _) _ _ _
  cases hx : xs[k]? with
  | none =>
    refine wpAny_bind (wpAny_nextOf_list_end hh (h1.extBut e1.extBut D.i1z) (hl1.extBut e1.extBut D.l1z) hx fun g2 e e2 he => ?_)
    obtain ⟨oe, hoe, hce⟩ := he
    have z2 := e2 _ _ D.i1z.symm zg1
    have nez : e ≠ z := fun q => by subst q; rw [z2] at hoe; cases hoe; simp at hce
    exact wpAny_setField_rec z2 (by simp) fun g3 _ e3 => hE g3 e (fun c o c1 _ c3 _ q => e3.extBut _ _ c1 (e2 _ _ c3 (e1.extBut _ _ c1 q))) ⟨oe, e3.extBut _ _ nez hoe, hce⟩
  | some x =>
    have hy : ys[k]? = none := by
      rcases hend with q | q
      · rw [hx] at q; cases q
      · exact q
    refine wpAny_bind (wpAny_nextOf_list_item (h1.extBut e1.extBut D.i1z) (hl1.extBut e1.extBut D.l1z) hx fun g2 a1 e2 => wpAny_pure ?_)
    have p2 : IsPair g2 TO a b := e2.extBut _ _ D.TOi1 (e1.extBut _ _ D.TOz hTO)
    refine wpAny_bind (wpAny_seqItems p2 rfl (wpAny_bind (wpAny_updateSeq_pair p2 fun g3 p3 e3 => wpAny_bind (wpAny_letGo (wpAny_pure ?_)))))
    refine wpAny_bind (wpAny_bind (wpAny_onRaise ?_))
    show wpAny _ _ (Builtin.SmallTypes.nextOf (.ref i2) >>= _) _ _ _
    refine wpAny_bind (wpAny_nextOf_list_end hh (((h2.extBut e1.extBut D.i2z).extBut e2.extBut D.i12.symm).extBut e3.extBut D.TOi2.symm) (((hl2.extBut e1.extBut D.l2z).extBut e2.extBut D.l2i1).extBut e3.extBut D.l2TO) hy fun g4 e e4 he => ?_)
    obtain ⟨oe, hoe, hce⟩ := he
    have z4 := e4 _ _ D.i2z.symm (e3.extBut _ _ D.TOz.symm (e2.extBut _ _ D.i1z.symm zg1))
    have nez : e ≠ z := fun q => by subst q; rw [z4] at hoe; cases hoe; simp at hce
    exact wpAny_setField_rec z4 (by simp) fun g5 _ e5 => hE g5 e (fun c o c1 c2 c3 c4 q => e5.extBut _ _ c1 (e4 _ _ c4 (e3.extBut _ _ c2 (e2.extBut _ _ c3 (e1.extBut _ _ c1 q))))) ⟨oe, e5.extBut _ _ nez hoe, hce⟩
theorem end_any {z TI TO i1 i2 l1 l2 : Addr} {k : Nat} {xs ys : Array Value} {a b : Value} {Q : Fin → Shared → Prop} (hh : A.handled = none) (D : ZipApart z TI TO i1 i2 l1 l2) (hz : ZipAt s.heap z TI TO)
    (hTI : IsPair s.heap TI (.ref i1) (.ref i2)) (hTO : IsPair s.heap TO a b) (h1 : s.heap.IsListIter i1 l1 k) (h2 : s.heap.IsListIter i2 l2 k) (hl1 : s.heap.IsList l1 xs) (hl2 : s.heap.IsList l2 ys) (hend : xs[k]? = none ∨ ys[k]? = none)
    (hE : ∀ g e, (∀ c o, c ≠ z → c ≠ TO → c ≠ i1 → c ≠ i2 → s.heap.get? c = some o → g.get? c = some o) → (∃ o, g.get? e = some o ∧ o.cls = .type "StopIteration") → E (.ref e) { s with heap := g }) :
    wpAny (model prog w) A (Builtin.«zip.__next__» ⟨[.ref z], []⟩) Q E s := by
  rcases hz with hz | ⟨T, f, hz⟩
  · exact zip_next_end hh D hz hTI hTO h1 h2 hl1 hl2 hend hE
  · cases hT : s.heap.get? T with
    | none => exact end_dead hh D hz hT hTI hTO h1 h2 hl1 hl2 hend hE
    | some oT => exact zip_next_end_held hh D hz hT hTI h1 h2 hl1 hl2 hend fun g e q r => hE g e (fun c o c1 _ c3 c4 x => q c o c1 c3 c4 x) r
theorem ZipAt.ty {z TI TO : Addr} (q : ZipAt s.heap z TI TO) : s.TypeIs (.ref z) "zip" := by
  rcases q with q | ⟨T, f, q⟩
  · exact ⟨_, q, rfl⟩
  · exact ⟨_, q, rfl⟩
/-- an enumerate over a zip: the next pair of a number and a pair -/
theorem en_item {e z TI TO i1 i2 l1 l2 : Addr} {k : Nat} {xs ys : Array Value} {x y a b old : Value} {Q : Option Value → Shared → Prop} (D : ZipApart z TI TO i1 i2 l1 l2) (he : IsEnum s.heap e z ((k : Nat) : Int) old) (hne : e ≠ z ∧ e ≠ TO ∧ e ≠ i1 ∧ e ≠ i2 ∧ e ≠ TI) (hz : ZipAt s.heap z TI TO)
    (hTI : IsPair s.heap TI (.ref i1) (.ref i2)) (hTO : IsPair s.heap TO a b) (h1 : s.heap.IsListIter i1 l1 k) (h2 : s.heap.IsListIter i2 l2 k) (hl1 : s.heap.IsList l1 xs) (hl2 : s.heap.IsList l2 ys) (hx : xs[k]? = some x) (hy : ys[k]? = some y)
    (hQ : ∀ g g1, Drawn2 s.heap g1 z TI TO i1 i2 l1 l2 k x y → IsEnumOut g e z ((k : Int) + 1) (.ref s.heap.objs.size) (s.heap.objs.size + 1) → g.get? (s.heap.objs.size + 1) = some { cls := .type "tuple", data := .seq #[.int k s.toks, .ref s.heap.objs.size] } →
      g.objs.size = s.heap.objs.size + 2 → (∀ c o, c ≠ e → g1.get? c = some o → g.get? c = some o) → Q (some (.ref (s.heap.objs.size + 1))) { s with heap := g, toks := s.toks + 1 }) :
    wpAny (model prog w) A (pyNext (.ref e)) Q E s := by
  have ty : s.TypeIs (.ref e) "enumerate" := ⟨_, he, rfl⟩
  unfold pyNext
  refine wpAny_bind (wpAny_attempt (wpAny_callSpecial?_slot (name := Str.ofString "__next__") ty F.slot_enumerate_next (wpAny_call_entry F.slot_enumerate_next ty F.entry_enumerate_next ?_ (F.args_enumerate_next_1 _))))
  show wpAny _ _ (field (.ref e) 2 >>= _) _ _ _
  refine wpAny_bind (wpAny_field he rfl (x := .ref z) rfl ?_)
  refine wpAny_bind ?_
  unfold Builtin.SmallTypes.nextOf
  refine wpAny_bind (wpAny_callSpecial?_slot (name := Str.ofString "__next__") hz.ty F.slot_zip_next (wpAny_call_entry F.slot_zip_next hz.ty F.entry_zip_next (item_any D hz hTI hTO h1 h2 hl1 hl2 hx hy fun g1 d1 => ?_) (F.args_zip_next_1 _)))
  refine wpAny_pure ?_
  have he1 : IsEnum g1 e z ((k : Nat) : Int) old := d1.keep _ _ hne.1 hne.2.1 hne.2.2.1 hne.2.2.2.1 he
  have elt : e < s.heap.objs.size := Heap.lt_size he
  show wpAny _ _ (field (.ref e) 3 >>= _) _ _ _
  refine wpAny_bind (wpAny_field he1 rfl (x := rawInt ((k : Nat) : Int)) rfl ?_)
  show wpAny _ _ (field (.ref e) 4 >>= _) _ _ _
  refine wpAny_bind (wpAny_field he1 rfl (x := .none) rfl ?_)
  show wpAny _ _ (mkInt ((k : Nat) : Int) >>= _) _ _ _
  refine wpAny_bind (wpAny_mkInt ?_)
  show wpAny _ _ (setField (.ref e) 3 (rawInt ((k : Int) + 1)) >>= _) _ _ _
  refine wpAny_bind (wpAny_setField_rec he1 (by simp) fun g2 he2 e2 => ?_)
  replace he2 : IsEnum g2 e z ((k : Int) + 1) old := he2
  show wpAny _ _ (setField (.ref e) 4 .none >>= _) _ _ _
  refine wpAny_bind (wpAny_setField_rec he2 (by simp) fun g3 he3 e3 => ?_)
  replace he3 : IsEnum g3 e z ((k : Int) + 1) old := he3
  have n3 : g3.objs.size = s.heap.objs.size + 1 := by rw [e3.1, e2.1]; exact d1.size
  show wpAny _ _ (newTuple [.int k s.toks, .ref s.heap.objs.size] >>= _) _ _ _
  refine wpAny_bind (wpAny_newTuple ?_)
  show wpAny _ _ (Builtin.SmallTypes.ownedTupleIsFree (.ref e) >>= _) _ _ _
  have he4 : IsEnum (g3.push { cls := .type "tuple", data := .seq #[.int k s.toks, .ref s.heap.objs.size] }) e z ((k : Int) + 1) old := Heap.get?_push_of_some _ he3
  have t4 : (g3.push { cls := .type "tuple", data := .seq #[.int k s.toks, .ref s.heap.objs.size] }).get? (s.heap.objs.size + 1) = some { cls := .type "tuple", data := .seq #[.int k s.toks, .ref s.heap.objs.size] } := by rw [← n3]; exact Heap.get?_push_size _ rfl
  have n4 : (g3.push { cls := .type "tuple", data := .seq #[.int k s.toks, .ref s.heap.objs.size] }).objs.size = s.heap.objs.size + 2 := by rw [Heap.size_push, n3]
  have k4 : ∀ c o, c ≠ e → g1.get? c = some o → (g3.push { cls := .type "tuple", data := .seq #[.int k s.toks, .ref s.heap.objs.size] }).get? c = some o := fun c o q r => Heap.get?_push_of_some _ (e3.extBut _ _ q (e2.extBut _ _ q r))
  rw [n3]
  generalize g3.push { cls := .type "tuple", data := .seq #[.int k s.toks, .ref s.heap.objs.size] } = g4 at he4 t4 n4 k4
  refine wpAny_bind ?_
  unfold Builtin.SmallTypes.ownedTupleIsFree
  refine wpAny_bind (wpAny_field he4 rfl (x := .none) rfl (wpAny_pure ?_))
  simp only [if_true]
  refine wpAny_bind (wpAny_rule (wpAny_bind (wpAny_field he4 rfl (x := old) rfl ?_)))
  refine wpAny_bind (wpAny_setField_rec he4 (by simp) fun g5 he5 e5 => ?_)
  replace he5 : IsEnum g5 e z ((k : Int) + 1) (.ref s.heap.objs.size) := he5
  show wpAny _ _ (Builtin.SmallTypes.ownedTupleHandOut (.ref e) (.ref (s.heap.objs.size + 1)) >>= _) _ _ _
  refine wpAny_bind ?_
  unfold Builtin.SmallTypes.ownedTupleHandOut
  refine wpAny_bind (wpAny_setField_rec he5 (by simp) fun g6 he6 e6 => wpAny_setField_rec he6 (by simp) fun g7 he7 e7 => wpAny_bind (wpAny_letGo (wpAny_pure ⟨_, rfl, wpAny_pure ?_⟩)))
  have up : ∀ c o, c ≠ e → g4.get? c = some o → g7.get? c = some o := fun c o q r => e7.extBut _ _ q (e6.extBut _ _ q (e5.extBut _ _ q r))
  refine hQ g7 g1 d1 he7 (up _ _ (Nat.ne_of_gt (Nat.lt_succ_of_lt elt)) t4) (by rw [e7.1, e6.1, e5.1, n4]) fun c o q r => up c o q (k4 c o q r)
theorem en_end {e z TI TO i1 i2 l1 l2 : Addr} {k : Nat} {xs ys : Array Value} {a b old : Value} {Q : Option Value → Shared → Prop} (hh : A.handled = none) (D : ZipApart z TI TO i1 i2 l1 l2) (he : IsEnum s.heap e z ((k : Nat) : Int) old) (hz : ZipAt s.heap z TI TO)
    (hTI : IsPair s.heap TI (.ref i1) (.ref i2)) (hTO : IsPair s.heap TO a b) (h1 : s.heap.IsListIter i1 l1 k) (h2 : s.heap.IsListIter i2 l2 k) (hl1 : s.heap.IsList l1 xs) (hl2 : s.heap.IsList l2 ys) (hend : xs[k]? = none ∨ ys[k]? = none)
    (hQ : ∀ g, (∀ c o, c ≠ z → c ≠ TO → c ≠ i1 → c ≠ i2 → s.heap.get? c = some o → g.get? c = some o) → Q none { s with heap := g }) : wpAny (model prog w) A (pyNext (.ref e)) Q E s := by
  have ty : s.TypeIs (.ref e) "enumerate" := ⟨_, he, rfl⟩
  unfold pyNext
  refine wpAny_bind (wpAny_attempt (wpAny_callSpecial?_slot (name := Str.ofString "__next__") ty F.slot_enumerate_next (wpAny_call_entry F.slot_enumerate_next ty F.entry_enumerate_next ?_ (F.args_enumerate_next_1 _))))
  show wpAny _ _ (field (.ref e) 2 >>= _) _ _ _
  refine wpAny_bind (wpAny_field he rfl (x := .ref z) rfl ?_)
  refine wpAny_bind ?_
  unfold Builtin.SmallTypes.nextOf
  refine wpAny_bind (wpAny_callSpecial?_slot (name := Str.ofString "__next__") hz.ty F.slot_zip_next (wpAny_call_entry F.slot_zip_next hz.ty F.entry_zip_next (end_any hh D hz hTI hTO h1 h2 hl1 hl2 hend fun g x q r => ?_) (F.args_zip_next_1 _)))
  obtain ⟨ox, hox, hcx⟩ := r
  exact wpAny_bind (wpAny_isInstance (T := "StopIteration") (b := true) ⟨ox, hox, hcx⟩ isSubtype_stop (wpAny_pure (hQ _ q)))
end
/-- the two lists as they stand at each turn: a number and a new pair of both items, in a new pair -/
def Itez (K : PySem.W.Frag) (a b : Addr) : It :=
  ⟨fun i H => ∃ (xs ys : List V) (x y : V), SqL K H a xs ∧ SqL K H b ys ∧ xs[i]? = some x ∧ ys[i]? = some y,
    fun i H v H' => ∃ (T U : Addr) (x y : V), v = .ref U ∧ H T = none ∧ (upd H T (.tup [x, y])) U = none ∧ H' = upd (upd H T (.tup [x, y])) U (.tup [.int (i : Nat), .ref T]) ∧ (∀ xs, SqL K H a xs → xs[i]? = some x) ∧ ∀ ys, SqL K H b ys → ys[i]? = some y,
    fun i H => ∃ xs ys : List V, SqL K H a xs ∧ SqL K H b ys ∧ (xs.length ≤ i ∨ ys.length ≤ i)⟩
theorem turn_ez {P : Program} {w : World} {K : PySem.W.Frag} {elts : List Expr} {kk : Nat} {tpos : Pos} {a b e z TI TO i1 i2 : Addr} (D : ZipApart z TI TO i1 i2 a b) (ne : e ≠ z ∧ e ≠ TO ∧ e ≠ i1 ∧ e ≠ i2 ∧ e ≠ TI) :
    Turn P w K (.Tuple elts kk tpos) (Itez K a b) [e, z, TI, TO, i1, i2] e (fun i h => (∃ old, IsEnum h e z ((i : Nat) : Int) old) ∧ ZipAt h z TI TO ∧ IsPair h TI (.ref i1) (.ref i2) ∧ (∃ x y, IsPair h TO x y) ∧ h.IsListIter i1 a i ∧ h.IsListIter i2 b i) where
  mem := by simp
  obj := fun i h st c hc => by
    obtain ⟨⟨old, he⟩, hz, hTI, ⟨x, y, hTO⟩, ⟨o1, e1, _, d1⟩, ⟨o2, e2, _, d2⟩⟩ := st
    have cs : c = e ∨ c = z ∨ c = TI ∨ c = TO ∨ c = i1 ∨ c = i2 := by simpa using hc
    rcases cs with q | q | q | q | q | q
    · rw [q]; exact ⟨_, he, fun v q => nomatch q⟩
    · rw [q]; exact hz.lt
    · rw [q]; exact ⟨_, hTI, fun v q => nomatch q⟩
    · rw [q]; exact ⟨_, hTO, fun v q => nomatch q⟩
    · rw [q]; exact ⟨o1, e1, fun v q => by rw [d1] at q; cases q⟩
    · rw [q]; exact ⟨o2, e2, fun v q => by rw [d2] at q; cases q⟩
  keep := fun i h h' st k => by
    obtain ⟨⟨old, he⟩, hz, hTI, ⟨x, y, hTO⟩, h1, h2⟩ := st
    exact ⟨⟨old, k e (by simp) _ he⟩, hz.keep fun o q => k z (by simp) o q, k TI (by simp) _ hTI, ⟨x, y, k TO (by simp) _ hTO⟩, h1.at fun o q => k i1 (by simp) o q, h2.at fun o q => k i2 (by simp) o q⟩
  item := by
    intro X hP hw hK hc i pins s σ H E I hf st hg
    subst hP hw hK
    obtain ⟨⟨old, he⟩, hz, hTI, ⟨x0, y0, hTO⟩, h1, h2⟩ := st
    obtain ⟨xs, ys, x, y, qx, qy, hx, hy⟩ := hg
    obtain ⟨its, rv, p1, _⟩ := I.list qx
    obtain ⟨jts, rw', p2, _⟩ := I.list qy
    obtain ⟨u, hu, ru⟩ := rv.get hx
    obtain ⟨u2, hu2, ru2⟩ := rw'.get hy
    have elt : e < s.heap.objs.size := Heap.lt_size he
    refine en_item D he ne hz hTI hTO h1 h2 p1.isList p2.isList (x := u) (y := u2) (by simpa using hu) (by simpa using hu2) fun g g1 d1 eo t2 n2 k2 => ?_
    refine ⟨_, rfl, wpAny_letOwnedTupleGo_enum (s := { s with heap := g, toks := s.toks + 1 }) eo fun g' he' sb => ?_⟩
    have m0 : ∀ c, c < s.heap.objs.size + 1 → c ≠ s.heap.objs.size + 1 := fun c q => Nat.ne_of_lt q
    have kk : ∀ c o, c ≠ e → g1.get? c = some o → g'.get? c = some o := fun c o q r => (sb.2 c q).trans (k2 c o q r)
    have tp : g'.get? s.heap.objs.size = some { cls := .type "tuple", data := .seq #[u, u2] } := kk _ _ (Nat.ne_of_gt elt) d1.new
    have tq : g'.get? (s.heap.objs.size + 1) = some { cls := .type "tuple", data := .seq #[.int i s.toks, .ref s.heap.objs.size] } := (sb.2 _ (Nat.ne_of_gt (Nat.lt_succ_of_lt elt))).trans t2
    have old' : ∀ c o, c ∉ [e, z, TI, TO, i1, i2] → s.heap.get? c = some o → g'.get? c = some o := fun c o q r => by
      simp only [List.mem_cons, List.not_mem_nil, or_false, not_or] at q
      exact kk _ _ q.1 (d1.keep _ _ q.2.1 q.2.2.2.1 q.2.2.2.2.1 q.2.2.2.2.2 r)
    have f0 : H s.heap.objs.size = none := I.hok.fresh (Nat.le_refl _)
    have tp1 : g1.get? s.heap.objs.size = some { cls := .type "tuple", data := .seq #[u, u2] } := d1.new
    have new1 : ObjOk X.prog X.w (upd H s.heap.objs.size (.tup [x, y])) g1 s.heap.objs.size (.tup [x, y]) := ⟨by show 2 ≤ sizeLine; decide, [u, u2], .cons ru (.cons ru2 .nil), ⟨_, tp1, rfl, _, rfl⟩⟩
    have I1 : Inv X pins σ (upd H s.heap.objs.size (.tup [x, y])) { s with heap := g1, toks := s.toks } := I.turnedNew (ch := [e, z, TI, TO, i1, i2]) (fun c o q r => by
      simp only [List.mem_cons, List.not_mem_nil, or_false, not_or] at q
      exact d1.keep _ _ q.2.1 q.2.2.2.1 q.2.2.2.2.1 q.2.2.2.2.2 r) hf (Nat.le_refl _) new1
    have fe : FpOk X pins (upd H s.heap.objs.size (.tup [x, y])) e := by
      obtain ⟨q0, q⟩ := hf e (by simp)
      exact ⟨by rw [upd_ne (Nat.ne_of_lt elt)]; exact q0, q⟩
    have new2 : ObjOk X.prog X.w (upd (upd H s.heap.objs.size (.tup [x, y])) (s.heap.objs.size + 1) (.tup [.int (i : Nat), .ref s.heap.objs.size])) g' (s.heap.objs.size + 1) (.tup [.int (i : Nat), .ref s.heap.objs.size]) :=
      ⟨by show 2 ≤ sizeLine; decide, [.int i s.toks, .ref s.heap.objs.size], .cons ⟨_, rfl⟩ (.cons rfl .nil), ⟨_, tq, rfl, _, rfl⟩⟩
    have I2 : Inv X pins σ (upd (upd H s.heap.objs.size (.tup [x, y])) (s.heap.objs.size + 1) (.tup [.int (i : Nat), .ref s.heap.objs.size])) { s with heap := g', toks := s.toks + 1 } :=
      I1.turnedNew (t' := s.toks + 1) (ch := [e]) (fun c o q r => kk c o (fun z => q (by simp [z])) r) (fun c hc => by rw [List.mem_singleton.mp hc]; exact fe) (Nat.le_of_eq d1.size) new2
    have gU : (upd H s.heap.objs.size (.tup [x, y])) (s.heap.objs.size + 1) = none := I1.hok.fresh (Nat.le_of_eq d1.size)
    refine ⟨.ref (s.heap.objs.size + 1), _, I2, rfl, ⟨_, _, x, y, rfl, f0, gU, rfl, fun l hl => by rw [I.list_inj hl qx]; exact hx, fun l hl => by rw [I.list_inj hl qy]; exact hy⟩, ⟨⟨.ref s.heap.objs.size, ?_⟩, ?_, ?_, ?_, ?_, ?_⟩, fun c hcm => ?_⟩
    · have q : ((i + 1 : Nat) : Int) = (i : Int) + 1 := by omega
      rw [q]; exact he'
    · exact d1.zip.keep fun o r => kk _ _ ne.1.symm r
    · exact kk _ _ ne.2.2.2.2.symm (d1.keep _ _ D.TIz D.TITO D.TIi1 D.TIi2 hTI)
    · obtain ⟨a1, a2, q⟩ := d1.own
      exact ⟨a1, a2, kk _ _ ne.2.1.symm q⟩
    · exact d1.it1.at fun o r => kk _ _ ne.2.2.1.symm r
    · exact d1.it2.at fun o r => kk _ _ ne.2.2.2.1.symm r
    · have lt : c < s.heap.objs.size := by
        have cs : c = e ∨ c = z ∨ c = TI ∨ c = TO ∨ c = i1 ∨ c = i2 := by simpa using hcm
        obtain ⟨oz, hoz, _⟩ := hz.lt
        rcases cs with q | q | q | q | q | q
        · rw [q]; exact elt
        · rw [q]; exact Heap.lt_size hoz
        · rw [q]; exact Heap.lt_size hTI
        · rw [q]; exact Heap.lt_size hTO
        · rw [q]; obtain ⟨_, e1, _⟩ := h1; exact Heap.lt_size e1
        · rw [q]; obtain ⟨_, e2, _⟩ := h2; exact Heap.lt_size e2
      rw [upd_ne (Nat.ne_of_lt (Nat.lt_succ_of_lt lt)), upd_ne (Nat.ne_of_lt lt)]
      exact (hf c hcm).1
  done := by
    intro X hP hw hK hc i pins s σ H E I hf st hg
    subst hP hw hK
    obtain ⟨⟨old, he⟩, hz, hTI, ⟨x0, y0, hTO⟩, h1, h2⟩ := st
    obtain ⟨xs, ys, qx, qy, hend⟩ := hg
    obtain ⟨its, rv, p1, _⟩ := I.list qx
    obtain ⟨jts, rw', p2, _⟩ := I.list qy
    have l1 := rv.length
    have l2 := rw'.length
    have hn : its.toArray[i]? = none ∨ jts.toArray[i]? = none := by
      rcases hend with q | q
      · exact .inl (by simp; omega)
      · exact .inr (by simp; omega)
    exact en_end (I.ok.hd hc) D he hz hTI hTO h1 h2 p1.isList p2.isList hn fun g hk => ⟨rfl, I.turnedL (t' := s.toks) (ch := [e, z, TI, TO, i1, i2]) (fun c o q r =>
      hk c o (fun q' => q (by simp [q'])) (fun q' => q (by simp [q'])) (fun q' => q (by simp [q'])) (fun q' => q (by simp [q'])) r) hf⟩
  self := fun A i s Q E st h => let ⟨⟨_, he⟩, _⟩ := st; wpAny_pyIter_enum he h
end Zen

namespace Zen
open PySem PySem.Spec PyProof.Rows L2
theorem meets_en (z TI TO : Addr) : Meets (Builtin.«enumerate.__new__» ⟨[.type "enumerate", .ref z], []⟩) (fun _ R s => IsZip s.heap z TI TO .none ∧
    R (.ok (.ret (.ref s.heap.objs.size))) { s with heap := s.heap.push { cls := .type "enumerate", data := .fields #[.none, .bool false, .ref z, rawInt 0, .none, .none] } }) :=
  .of_wp fun prog w A R s h => by
    obtain ⟨hp, g, d, tk, os⟩ := s
    obtain ⟨h1, h⟩ := h
    have hsub := sub_enumerate
    have q1 : ∀ {A' : Around} {E : Value → Shared → Prop} {Q : Value → Shared → Prop}, Q (.ref z) ⟨hp, g, d, tk, os⟩ → wpAny (model prog w) A' (pyIter (.ref z)) Q E ⟨hp, g, d, tk, os⟩ := fun q => wpAny_pyIter_zip (s := ⟨hp, g, d, tk, os⟩) h1 q
    wp_walk using q1
    refine wpAny_stack_any fun st => wpAny_pure ?_
    split
    · rename_i c _ _ _ _ _
      cases (c == Value.type "enumerate")
      · wp_walk using q1
        exact ⟨_, rfl, h⟩
      · wp_walk using q1
        exact ⟨_, rfl, h⟩
    · wp_walk using q1
      exact ⟨_, rfl, h⟩
end Zen

namespace Zen
open PySem PySem.Spec PyProof.Rows L2
theorem call_en {prog : Program} {w : World} {A : Around} {E : Value → Shared → Prop} {s : Shared} {z TI TO : Addr} {Q : Value → Shared → Prop} (hz : IsZip s.heap z TI TO .none)
    (h : ∀ g, IsEnum g s.heap.objs.size z 0 .none → (∀ b o, s.heap.get? b = some o → g.get? b = some o) → Q (.ref s.heap.objs.size) { s with heap := g }) : wpAny (model prog w) A (call (.type "enumerate") [.ref z]) Q E s := by
  refine callType_new F.called_enumerate (by decide) (F.typeCall_enumerate_1 _) (F.newCall_enumerate_1 _) (fun obj => F.args_object_init_2 obj _) F.entry_enumerate_new (meets_en z TI TO) ⟨hz, ?_⟩
  have he : IsEnum (s.heap.push { cls := .type "enumerate", data := .fields #[.none, .bool false, .ref z, rawInt 0, .none, .none] }) s.heap.objs.size z 0 .none := Heap.get?_push_size s.heap rfl
  exact ⟨⟨_, he, rfl⟩, h _ he fun b o x => Heap.get?_push_of_some _ x⟩
def iEz (K : PySem.W.Frag) (ta : TA) : TI := fun σ H R => ta σ H fun vs H1 => ∃ a b xs ys, vs = [.ref a, .ref b] ∧ SqL K H1 a xs ∧ SqL K H1 b ys ∧ R (Itez K a b) H1
theorem pi_ez {X : Cx} {e e2 : Expr} {ta : TA} {p p2 pos pos2 tpos : Pos} {elts : List Expr} {kk : Nat} (hg : Gl X "enumerate") (hm : X.mg "enumerate" = none) (hg2 : Gl X "zip") (hm2 : X.mg "zip" = none) (ha : PA X [e, e2] ta)
    (hs1 : starEach [.Call (.Name "zip" p2) [e, e2] [] pos2] X.env = [(false, eval (.Call (.Name "zip" p2) [e, e2] [] pos2) X.env)] := by rfl)
    (hs : starEach [e, e2] X.env = (false, eval e X.env) :: starEach [e2] X.env := by rfl) (hpl : (backTo pos2 (starEach [e2] X.env)).any (·.1) = false := by rfl) :
    PI X (.Tuple elts kk tpos) (.Call (.Name "enumerate" p) [.Call (.Name "zip" p2) [e, e2] [] pos2] [] pos) (iEz X.K ta) := by
  refine ⟨fun pins s σ H R I h => ?_⟩
  refine Call_ (ld_blt I hg hm boot_enumerate (PyProof.Rows.callWith_type1 ?_ hs1 rfl))
  rw [hs1]
  show wpAny _ _ (spliced ((false, eval (.Call (.Name "zip" p2) [e, e2] [] pos2) X.env) :: backTo pos [])) _ _ s
  refine Calls.spliced_cons ?_
  refine Call_ (ld_blt I hg2 hm2 PyProof.Rows.boot_zip (PyProof.Rows.callWith_type1 (thn (ha.run pos2 pins s σ H _ I h) fun us s1 ⟨vs, H1, I1, r1, q1⟩ => ?_) hs hpl))
  obtain ⟨a, b, xs, ys, ex, hqx, hqy, q⟩ := q1
  subst ex
  cases r1 with
  | cons r rr =>
    cases rr with
    | cons r' rr =>
      cases rr
      cases r
      cases r'
      obtain ⟨its, rv, p1', _⟩ := I1.list hqx
      obtain ⟨jts, rv2, p2', _⟩ := I1.list hqy
      have la : a < s1.heap.objs.size := p1'.lt
      have lb : b < s1.heap.objs.size := p2'.lt
      refine call_zip_2 p1'.isList p2'.isList fun g hz hTI hTO h1 h2 hsz hk => ?_
      refine Calls.spliced_nil ?_
      refine call_en (s := { s1 with heap := g }) hz fun g' he k' => wpAny_pyIter_enum he ?_
      have n0 : g.objs.size = s1.heap.objs.size + 5 := hsz
      show PIE X pins σ _ R (.ref g.objs.size) _
      have he : IsEnum g' g.objs.size (s1.heap.objs.size + 4) 0 .none := he
      rw [n0] at he ⊢
      have I2 : Inv X pins σ H1 { s1 with heap := g' } := I1.kept (t' := s1.toks) fun b o q => k' _ _ (hk _ _ q)
      have ne : ∀ j : Nat, j < 5 → s1.heap.objs.size + 5 ≠ s1.heap.objs.size + j := fun j hj q => by
        have := Nat.add_left_cancel q
        omega
      refine ⟨s1.heap.objs.size + 5, [s1.heap.objs.size + 5, s1.heap.objs.size + 4, s1.heap.objs.size + 2, s1.heap.objs.size + 3, s1.heap.objs.size, s1.heap.objs.size + 1], _, _, H1, rfl, I2, turn_ez (PySem.W.ktu_apart s1.heap.objs.size a b la lb) ⟨ne 4 (by decide), ne 3 (by decide), ne 0 (by decide), ne 1 (by decide), ne 2 (by decide)⟩,
        ⟨⟨.none, he⟩, .inl (k' _ _ hz), k' _ _ hTI, ⟨_, _, k' _ _ hTO⟩, h1.at fun o q => k' _ _ q, h2.at fun o q => k' _ _ q⟩, fun c hcm => ?_, q⟩
      have hle : s1.heap.objs.size ≤ c := by
        have cs : c = s1.heap.objs.size + 5 ∨ c = s1.heap.objs.size + 4 ∨ c = s1.heap.objs.size + 2 ∨ c = s1.heap.objs.size + 3 ∨ c = s1.heap.objs.size ∨ c = s1.heap.objs.size + 1 := by simpa using hcm
        rcases cs with z | z | z | z | z | z
        · rw [z]; exact Nat.le_add_right _ _
        · rw [z]; exact Nat.le_add_right _ _
        · rw [z]; exact Nat.le_add_right _ _
        · rw [z]; exact Nat.le_add_right _ _
        · rw [z]; exact Nat.le_refl _
        · rw [z]; exact Nat.le_add_right _ _
      exact I1.fpOk hle (I1.hok.fresh hle)
/-- its turns -/
theorem walk_ez {K : PySem.W.Frag} {a b : Addr} {xs ys : List V} {n : Nat} (hn : n = min xs.length ys.length) : Walk (Itez K a b) n (fun H => SqL K H a xs ∧ SqL K H b ys)
    (fun i H v H' => ∃ (T U : Addr) (x y : V), v = .ref U ∧ H T = none ∧ (upd H T (.tup [x, y])) U = none ∧ H' = upd (upd H T (.tup [x, y])) U (.tup [.int (i : Nat), .ref T]) ∧ xs[i]? = some x ∧ ys[i]? = some y) := by
  subst hn
  refine ⟨fun i _ hi q => ?_, fun _ q => ⟨xs, ys, q.1, q.2, by omega⟩, fun i H v H' _ q y => ?_⟩
  · have h1 : i < xs.length := by omega
    have h2 : i < ys.length := by omega
    exact ⟨xs, ys, xs[i], ys[i], q.1, q.2, by simp [h1], by simp [h2]⟩
  · obtain ⟨T, U, x, z, e1, e2, e3, e4, e5, e6⟩ := y
    exact ⟨T, U, x, z, e1, e2, e3, e4, e5 xs q.1, e6 ys q.2⟩
theorem pg_tupK {X : Cx} {K : PySem.W.Frag} {es : List Expr} {k : Nat} {t : TGs} {n : Nat} {pos : Pos} (hc : X.calm = true) (h : PGs X es t) (e : X.K = K := by rfl)
    (hn : (assignEach es X.env).length = n := by rfl) (hst : (assignEach es X.env).findIdx? (·.1) = none := by rfl) : PG X (.Tuple es k pos) (gTup K n t) := by
  subst e
  exact pg_tup hc h hn hst
end Zen

namespace Db
open PySem L2 Evl StX
section
variable {X : Cx} (K : PySem.W.Frag) {tg l : Expr} {tl te : TE} {t : TA} {es : List Expr} {p : Pos}
theorem pi_tupK (h : PE X l tl) (e : X.K = K := by rfl) : PI X tg l (iTup K tl) := by subst e; exact pi_tup h
theorem pi_listK (h : PE X l tl) (e : X.K = K := by rfl) : PI X tg l (iList K tl) := by subst e; exact pi_list h
theorem pa_starK {x : Expr} (he : PE X x te) (hr : PA X es t) (e : X.K = K := by rfl) (hs : starEach (.Starred x p :: es) X.env = (true, eval x X.env) :: starEach es X.env := by rfl) : PA X (.Starred x p :: es) (tStar K te t) := by
  subst e
  exact pa_star he hr hs
end
/-- memories, each a tuple -/
def MV (K : PySem.W.Frag) (H : Hp) (v : V) (ws : List Nat) : Prop := ∃ a, v = .ref a ∧ SqT K H a (ws.map wV)
def MVs (K : PySem.W.Frag) (H : Hp) (vs : List V) (ms : List (List Nat)) : Prop := Paired (MV K H) vs ms
theorem MVs.mono {K : PySem.W.Frag} {H H' : Hp} {vs : List V} {ms : List (List Nat)} (e : Ex H H') (q : MVs K H vs ms) : MVs K H' vs ms := Paired.mapP q fun _ _ ⟨a, h, s⟩ => ⟨a, h, ex_t e s⟩
theorem MVs.length {K : PySem.W.Frag} {H : Hp} {vs : List V} {ms : List (List Nat)} (q : MVs K H vs ms) : vs.length = ms.length := Paired.length q
theorem MVs.get {K : PySem.W.Frag} {H : Hp} : ∀ {vs : List V} {ms : List (List Nat)} {i : Nat} {v : V}, MVs K H vs ms → vs[i]? = some v → ∃ m, ms[i]? = some m ∧ MV K H v m
  | _, _, _, _, .nil, e => by simp at e
  | _, _, 0, _, .cons r _, e => by simp at e; subst e; exact ⟨_, rfl, r⟩
  | _, _, i + 1, x, .cons _ t, e => by
    obtain ⟨u, h1, h2⟩ := MVs.get (i := i) (v := x) t (by simpa using e)
    exact ⟨u, by simpa using h1, h2⟩
theorem MVs.append {K : PySem.W.Frag} {H : Hp} : ∀ {us vs : List V} {ds es : List (List Nat)}, MVs K H us ds → MVs K H vs es → MVs K H (us ++ vs) (ds ++ es)
  | _, _, _, _, .nil, h => h
  | _, _, _, _, .cons r t, h => .cons r (MVs.append t h)
/-- all memories of so many cells, in their order -/
def grow (m : List Nat) : List (List Nat) := [m ++ [0], m ++ [1], m ++ [2]]
def mems : Nat → List (List Nat)
  | 0 => [[]]
  | n + 1 => (mems n).flatMap grow
theorem mems_length : ∀ n, (mems n).length = 3 ^ n
  | 0 => rfl
  | n + 1 => by
    have h : ∀ l : List (List Nat), (l.flatMap grow).length = 3 * l.length := by
      intro l
      induction l with
      | nil => rfl
      | cons a l ih => rw [List.flatMap_cons, List.length_append, ih]; show 3 + _ = _; rw [List.length_cons]; omega
    show ((mems n).flatMap grow).length = _
    rw [h, mems_length n, Nat.pow_succ]
    omega
theorem mems_mem : ∀ {n : Nat} {m : List Nat}, m ∈ mems n → m.length = n ∧ ∀ x ∈ m, x < 3
  | 0, m, h => by
    cases List.mem_singleton.mp h
    exact ⟨rfl, fun x hx => nomatch hx⟩
  | n + 1, m, h => by
    obtain ⟨u, hu, hm⟩ := List.mem_flatMap.mp h
    obtain ⟨l, s⟩ := mems_mem hu
    have : m = u ++ [0] ∨ m = u ++ [1] ∨ m = u ++ [2] := by simpa [grow] using hm
    rcases this with rfl | rfl | rfl <;> refine ⟨by simp [l], fun x hx => ?_⟩ <;> (rcases List.mem_append.mp hx with z | z; exact s x z; have := List.mem_singleton.mp z; omega)
/-- what both read and what stands, as data -/
def datO (S : Sts) : PyData := .tuple [.list (wD S.ss), .list (wD S.os), .tuple (wD S.ws)]
/-- the same is read and stands -/
def same3 (S U : Sts) : Bool := decide (S.ss = U.ss) && (decide (S.os = U.os) && decide (S.ws = U.ws))
def partRow (c : List Nat) (ds es : List Deed) : Option (List Nat × Rule) := ([Rule.new, .left, .right, .wait].find? fun r => !same3 (out r (begin0 c ds es)) (out .old (begin0 c ds es))).map fun r => (c, r)
def partD (c : Nat) (ds es : List Deed) : Option (List Nat × Rule) := (mems c).findSome? fun m => partRow m ds es
def datP : Option (List Nat × Rule) → PyData
  | none => .none
  | some (m, r) => .tuple [.tuple (wD m), .str "old", .str r.name]
theorem MVs.buts {K : PySem.W.Frag} {H H' : Hp} {S : List Addr} {vs : List V} {ms : List (List Nat)} (b : Bt S H H') (hp : ∀ p ∈ S, ∃ us, H p = some (.lst us)) (q : MVs K H vs ms) : MVs K H' vs ms := Paired.mapP q fun _ _ ⟨a, h, s⟩ => ⟨a, h, t_but b hp s⟩
theorem it_list {K : PySem.W.Frag} {a : Addr} {xs : List V} {H0 : Hp} {B : V → Hp → (Hp → Prop) → Prop} {Qd : Hp → Prop} (Pv : Nat → Hp → Prop) (h0 : Pv 0 H0) (hl : ∀ i H, i ≤ xs.length → Pv i H → SqL K H a xs)
    (hs : ∀ i x H, xs[i]? = some x → Pv i H → B x H (Pv (i + 1))) (hd : ∀ H, Pv xs.length H → Qd H) :
    ∃ W : Nat → Nat → Hp → Prop, (∃ m, W 0 m H0) ∧ ∀ i m H, W i m H →
      ((Itl K a).stop i H ∧ Qd H) ∨ ((Itl K a).go i H ∧ ∃ Nx : Hp → Prop, (∀ H', Nx H' → ∃ m', m' < m ∧ W (i + 1) m' H') ∧ ∀ x H', (Itl K a).yld i H x H' → B x H' Nx) := by
  refine ⟨fun i m H => m = xs.length - i ∧ i ≤ xs.length ∧ Pv i H, ⟨xs.length, by simp, Nat.zero_le _, h0⟩, ?_⟩
  rintro i m H ⟨rfl, hi, p⟩
  have q := hl i H hi p
  by_cases hlt : i < xs.length
  · refine .inr ⟨⟨xs, xs[i], q, by simp [hlt]⟩, Pv (i + 1), fun H' p' => ⟨xs.length - (i + 1), by omega, rfl, hlt, p'⟩, fun x H' y => ?_⟩
    obtain ⟨e, y⟩ := y
    subst e
    exact hs i x _ (y xs q) p
  · have e : i = xs.length := by omega
    subst e
    exact .inl ⟨⟨xs, q, Nat.le_refl _⟩, hd H p⟩
theorem it_tup {K : PySem.W.Frag} {a : Addr} {xs : List V} {H0 : Hp} {B : V → Hp → (Hp → Prop) → Prop} {Qd : Hp → Prop} (Pv : Nat → Hp → Prop) (h0 : Pv 0 H0) (hl : ∀ i H, i ≤ xs.length → Pv i H → SqT K H a xs)
    (hs : ∀ i x H, xs[i]? = some x → Pv i H → B x H (Pv (i + 1))) (hd : ∀ H, Pv xs.length H → Qd H) :
    ∃ W : Nat → Nat → Hp → Prop, (∃ m, W 0 m H0) ∧ ∀ i m H, W i m H →
      ((Itt K a).stop i H ∧ Qd H) ∨ ((Itt K a).go i H ∧ ∃ Nx : Hp → Prop, (∀ H', Nx H' → ∃ m', m' < m ∧ W (i + 1) m' H') ∧ ∀ x H', (Itt K a).yld i H x H' → B x H' Nx) := by
  refine ⟨fun i m H => m = xs.length - i ∧ i ≤ xs.length ∧ Pv i H, ⟨xs.length, by simp, Nat.zero_le _, h0⟩, ?_⟩
  rintro i m H ⟨rfl, hi, p⟩
  have q := hl i H hi p
  by_cases hlt : i < xs.length
  · refine .inr ⟨⟨xs, xs[i], q, by simp [hlt]⟩, Pv (i + 1), fun H' p' => ⟨xs.length - (i + 1), by omega, rfl, hlt, p'⟩, fun x H' y => ?_⟩
    obtain ⟨e, y⟩ := y
    subst e
    exact hs i x _ (y xs q) p
  · have e : i = xs.length := by omega
    subst e
    exact .inl ⟨⟨xs, q, Nat.le_refl _⟩, hd H p⟩
theorem grow_at {m : List Nat} {k : Nat} (h : k < 3) : (grow m).take (k + 1) = (grow m).take k ++ [m ++ [k]] := by
  match k, h with
  | 0, _ => rfl
  | 1, _ => rfl
  | 2, _ => rfl
theorem flat_at {l : List (List Nat)} {j : Nat} {m : List Nat} (h : l[j]? = some m) : (l.take (j + 1)).flatMap grow = (l.take j).flatMap grow ++ grow m := by
  rw [List.take_add_one, h, List.flatMap_append]
  simp
section
variable {K : PySem.W.Frag} {te tl th : TE} {tu tz : TS} {D : Ends} {σ : L2.St} {H : Hp} {j : Nat} {R : Addr → Hp → Prop}
theorem q_forX (h : ∀ Q : VK, (∀ l H2, R l H2 → Q (.ref l) H2) → te σ H Q) (k : ∀ l H2, R l H2 → tSeq (tFor (iList K (tC (.ref l))) (gName j) tu) tz D σ H2) : tSeq (tFor (iList K te) (gName j) tu) tz D σ H := h _ fun l H2 r => k l H2 r
theorem s_forXT (h : ∀ Q : VK, (∀ l H2, R l H2 → Q (.ref l) H2) → te σ H Q) (k : ∀ l H2, R l H2 → tFor (iTup K (tC (.ref l))) (gName j) tu D σ H2) : tFor (iTup K te) (gName j) tu D σ H := h _ fun l H2 r => k l H2 r
end
theorem eqvA_w : ∀ a b : List Nat, PyData.eqvAll (wD a) (wD b) = decide (a = b)
  | [], [] => by simp [wD, PyData.eqvAll]
  | [], y :: b => by simp [wD, PyData.eqvAll]
  | x :: a, [] => by simp [wD, PyData.eqvAll]
  | x :: a, y :: b => by
    have h := eqvA_w a b
    show PyData.eqvAll (.int x :: wD a) (.int y :: wD b) = _
    rw [PyData.eqvAll, h]
    have e : PyData.eqv (.int (x : Int)) (.int (y : Int)) = decide (x = y) := by
      by_cases z : x = y
      · subst z
        simp [PyData.eqv]
      · rw [decide_eq_false z]
        simp only [PyData.eqv]
        have z2 : ¬ (x : Int) = (y : Int) := by omega
        simpa using z2
    rw [e]
    by_cases hx : x = y <;> by_cases hr : a = b <;> simp [hx, hr]
theorem eqv_o (S U : Sts) : PyData.eqv (datO S) (datO U) = same3 S U := by
  unfold datO same3
  simp only [PyData.eqv, PyData.eqvAll, eqvA_w, Bool.and_true]
theorem sh_w (ws : List Nat) : Sh 1 (.list (wD ws)) := sh_lst fun d hd => by
  obtain ⟨n, _, rfl⟩ := List.mem_map.mp hd
  exact sh_int
theorem sh_wT (ws : List Nat) : Sh 1 (.tuple (wD ws)) := sh_tup fun d hd => by
  obtain ⟨n, _, rfl⟩ := List.mem_map.mp hd
  exact sh_int
theorem sh_o (S : Sts) : Sh 2 (datO S) := sh_tup fun d hd => by
  simp only [List.mem_cons, List.not_mem_nil, or_false] at hd
  rcases hd with rfl | rfl | rfl
  · exact sh_w _
  · exact sh_w _
  · exact sh_wT _
theorem findSome_at {α β : Type} {f : α → Option β} : ∀ {l : List α} {i : Nat} {a : α} {b : β}, l[i]? = some a → (∀ j a', j < i → l[j]? = some a' → f a' = none) → f a = some b → l.findSome? f = some b
  | [], _, _, _, h, _, _ => by simp at h
  | x :: l, 0, a, b, h, _, e => by
    cases h
    rw [List.findSome?_cons, e]
  | x :: l, i + 1, a, b, h, n, e => by
    rw [List.findSome?_cons, n 0 x (by omega) rfl]
    exact findSome_at (l := l) (i := i) (by simpa using h) (fun j a' hj hb => n (j + 1) a' (by omega) (by simpa using hb)) e
theorem findSome_no {α β : Type} {f : α → Option β} : ∀ {l : List α}, (∀ j a', j < l.length → l[j]? = some a' → f a' = none) → l.findSome? f = none
  | [], _ => rfl
  | x :: l, n => by
    rw [List.findSome?_cons, n 0 x (by simp) rfl]
    exact findSome_no (l := l) fun j a' hj hb => n (j + 1) a' (by simp; omega) (by simpa using hb)
def others : List Rule := [.new, .left, .right, .wait]
theorem partRow_find (c : List Nat) (ds es : List Deed) : partRow c ds es = others.findSome? fun r => if same3 (out r (begin0 c ds es)) (out .old (begin0 c ds es)) = true then none else some (c, r) := by
  unfold partRow
  show (others.find? _).map _ = _
  generalize others = l
  induction l with
  | nil => rfl
  | cons r l ih =>
    rw [List.find?_cons, List.findSome?_cons]
    cases h : same3 (out r (begin0 c ds es)) (out .old (begin0 c ds es)) with
    | true => simpa [h] using ih
    | false => simp [h]
theorem s_forTn {K : PySem.W.Frag} {tl : TE} {tu : TS} {D : Ends} {σ : L2.St} {H : Hp} {a : Addr} {xs : List V} {j : Nat} (h : Ev tl σ H (.ref a)) (hx : SqT K H a xs) (Pv : Nat → L2.St → Hp → Prop) (h0 : ∀ H1, Ex H H1 → Pv 0 σ H1) (hl : ∀ i σ' H', i ≤ xs.length → Pv i σ' H' → SqT K H' a xs)
    (hs : ∀ i x σ' H', xs[i]? = some x → Pv i σ' H' → tu { D with nx := Pv (i + 1), ct := Pv (i + 1), bk := D.nx } (σ'.set j (some x)) H') (hd : ∀ σ' H', Pv xs.length σ' H' → D.nx σ' H') : tFor (iTup K tl) (gName j) tu D σ H :=
  s_forT h hx Pv h0 hl hs hd
theorem sl_tupK {X : Cx} (K : PySem.W.Frag) (e : X.K = K := by rfl) : SlR X (rSlT K) := by subst e; exact sl_tup
section
variable {K : PySem.W.Frag} {te tb : TE} {σ : L2.St} {H : Hp} {xs : List V} {v : V} {i : Int}
/-- a cell of a new list -/
theorem ev_ixNew (h : EvL te σ H xs) (hb : Ev tb σ H (.int i)) (ha : atI xs i = some v) : Ev (tOp (rIxL K) te tb) σ H v := fun H1 e Q q => h H1 e _ fun p H2 hp e2 hx => hb H2 (e.trans e2) _ fun H3 e3 => ⟨p, _, i, _, rfl, rfl, SqL.of (e3 _ _ hx), ha, q H3 (e2.trans e3)⟩
theorem eu_tupleOf (h : EvL te σ H xs) : EvU (tCB (fun xs H Q => ∃ p ys, xs = [.ref p] ∧ ((SqL K H p ys ∧ ∀ l, H l = none → Q (.ref l) (upd H l (.tup ys))) ∨ (SqT K H p ys ∧ Q (.ref p) H))) (tCons te tNil)) σ H xs := fun H1 e Q q =>
  h H1 e _ fun p H2 hp e2 hx => ⟨p, xs, rfl, .inl ⟨SqL.of hx, fun l hl => q l _ (fresh_back e2 hl) (e2.trans (Ex.new hl)) upd_same⟩⟩
end
/-- the i-th memory of so many cells, digit by digit -/
def dig (c i : Nat) : List Nat := (List.range c).map fun k => i / 3 ^ (c - 1 - k) % 3
theorem mems_dig : ∀ c, 1 ≤ c → c ≤ 4 → mems c = (List.range (3 ^ c)).map (dig c)
  | 1, _, _ => by decide +kernel
  | 2, _, _ => by decide +kernel
  | 3, _, _ => by decide +kernel
  | 4, _, _ => by decide +kernel
  | 0, h, _ => absurd h (by decide)
  | n + 5, _, h => absurd h (by omega)
theorem given_all (n : Nat) (v : Nat → V) : given n (fun _ => true) v = (List.range n).map v := by
  unfold given
  rw [List.filter_eq_self.mpr (fun _ _ => rfl)]
def t3 (S : Sts) : List Nat × List Nat × List Nat := (S.ss, S.os, S.ws)
theorem same3_iff (S U : Sts) : same3 S U = true ↔ t3 S = t3 U := by
  unfold same3 t3
  simp
theorem same3_comm (S U : Sts) : same3 S U = same3 U S := by
  rw [Bool.eq_iff_iff, same3_iff, same3_iff]
  exact ⟨Eq.symm, Eq.symm⟩
def rulesL : List Rule := [.old, .new, .left, .right, .wait]
def pairA : List V := [.int 0, .int 0, .int 0, .int 0, .int 1, .int 1, .int 1, .int 2, .int 2, .int 3]
def pairB : List V := [.int 1, .int 2, .int 3, .int 4, .int 2, .int 3, .int 4, .int 3, .int 4, .int 4]
theorem pair_at {k : Nat} (h : k < 10) : ∃ (a b : Nat) (rA rB : Rule), pairA[k]? = some (.int a) ∧ pairB[k]? = some (.int b) ∧ rulesL[a]? = some rA ∧ rulesL[b]? = some rB ∧ ((k < 4 ∧ rA = .old ∧ others[k]? = some rB) ∨ 4 ≤ k) := by
  match k, h with
  | 0, _ => exact ⟨0, 1, _, _, rfl, rfl, rfl, rfl, .inl ⟨by decide, rfl, rfl⟩⟩
  | 1, _ => exact ⟨0, 2, _, _, rfl, rfl, rfl, rfl, .inl ⟨by decide, rfl, rfl⟩⟩
  | 2, _ => exact ⟨0, 3, _, _, rfl, rfl, rfl, rfl, .inl ⟨by decide, rfl, rfl⟩⟩
  | 3, _ => exact ⟨0, 4, _, _, rfl, rfl, rfl, rfl, .inl ⟨by decide, rfl, rfl⟩⟩
  | 4, _ => exact ⟨1, 2, _, _, rfl, rfl, rfl, rfl, .inr (by decide)⟩
  | 5, _ => exact ⟨1, 3, _, _, rfl, rfl, rfl, rfl, .inr (by decide)⟩
  | 6, _ => exact ⟨1, 4, _, _, rfl, rfl, rfl, rfl, .inr (by decide)⟩
  | 7, _ => exact ⟨2, 3, _, _, rfl, rfl, rfl, rfl, .inr (by decide)⟩
  | 8, _ => exact ⟨2, 4, _, _, rfl, rfl, rfl, rfl, .inr (by decide)⟩
  | 9, _ => exact ⟨3, 4, _, _, rfl, rfl, rfl, rfl, .inr (by decide)⟩
  | n + 10, h => omega
theorem names_at {a : Nat} {r : Rule} (h : rulesL[a]? = some r) : ruleNames[a]? = some (.str r.name) := by
  have e : ruleNames = rulesL.map fun r => V.str r.name := rfl
  rw [e, List.getElem?_map, h]
  rfl
/-- told of the three, apart from a list -/
def O3 (K : PySem.W.Frag) (D : Addr) (X : Hp) (v : V) (S : Sts) : Prop := ∃ t s o m, v = .ref t ∧ X t = some (.tup [.ref s, .ref o, .ref m]) ∧ X s = some (.lst (S.ss.map wV)) ∧ X o = some (.lst (S.os.map wV)) ∧ SqT K X m (S.ws.map wV) ∧ s ≠ D ∧ o ≠ D
theorem O3.mono {K : PySem.W.Frag} {D : Addr} {X Y : Hp} {v : V} {S : Sts} (e : Ex X Y) (h : O3 K D X v S) : O3 K D Y v S := by
  obtain ⟨t, s, o, m, h1, h2, h3, h4, h5, h6, h7⟩ := h
  exact ⟨t, s, o, m, h1, e _ _ h2, e _ _ h3, e _ _ h4, ex_t e h5, h6, h7⟩
theorem O3.set {K : PySem.W.Frag} {D : Addr} {X : Hp} {v : V} {S : Sts} {bs cs : List V} (hD : X D = some (.lst bs)) (h : O3 K D X v S) : O3 K D (upd X D (.lst cs)) v S := by
  obtain ⟨t, s, o, m, h1, h2, h3, h4, h5, h6, h7⟩ := h
  have b : Bt [D] X (upd X D (.lst cs)) := (Bt.refl X).set (by simp)
  have nt : t ≠ D := ne_of h2 hD (by intro z; cases z)
  exact ⟨t, s, o, m, h1, b _ _ (by simp [nt]) h2, b _ _ (by simp [h6]) h3, b _ _ (by simp [h7]) h4, t_but b (by simp [hD]) h5, h6, h7⟩
/-! ### without a clash no rule matters -/
theorem beat_nc {r : Rule} {ws : List Nat} {d e : Deed} (h : clashD d e = false) : beat r ws d e = beat .old ws d e := by
  have cm : ∀ (a b x y : Nat), a ≠ b → (ws.set a x).set b y = (ws.set b y).set a x := fun a b x y n => List.set_comm x y n
  cases d with
  | rs => cases e <;> cases r <;> simp [beat, wrl, rdl]
  | rd c =>
    cases e with
    | rs => cases r <;> simp [beat, wrl, rdl]
    | rd c' => cases r <;> simp [beat, wrl, rdl]
    | wr c' y =>
      have n : c ≠ c' := fun z => by subst z; simp [clashD, Deed.cell, Deed.isW] at h
      cases r <;> simp [beat, wrl, rdl, List.getElem?_set, n, n.symm, List.getD_eq_getElem?_getD]
  | wr c x =>
    cases e with
    | rs => cases r <;> simp [beat, wrl, rdl]
    | rd c' =>
      have n : c ≠ c' := fun z => by subst z; simp [clashD, Deed.cell, Deed.isW] at h
      cases r <;> simp [beat, wrl, rdl, List.getElem?_set, n, n.symm, List.getD_eq_getElem?_getD]
    | wr c' y =>
      have n : c ≠ c' := fun z => by subst z; simp [clashD, Deed.cell, Deed.isW] at h
      cases r <;> simp [beat, wrl, rdl, cm c c' x y n]
theorem getD_tail (l : List Deed) (i : Nat) : l.tail.getD i .rs = l.getD (i + 1) .rs := by cases l <;> simp
theorem runF_nc {r : Rule} : ∀ (n : Nat) (S : Sts), (∀ i, clashD (S.l.getD i .rs) (S.r.getD i .rs) = false) → runF r n S = runF .old n S
  | 0, _, _ => rfl
  | n + 1, S, h => by
    have h0 : clashD (S.l.headD .rs) (S.r.headD .rs) = false := by
      have z := h 0
      rwa [getD_zero, getD_zero] at z
    show runF r n (stepS r S) = runF .old n (stepS .old S)
    by_cases hd : S.done
    · rw [stepS_done hd, stepS_done hd]
      exact runF_nc n S h
    · rw [stepS_of hd, stepS_of hd]
      have w : ∀ q : Rule, waits q S = false := fun q => by unfold waits; rw [h0, Bool.and_false]
      have e : ∀ q : Rule, one q S = after S (beat .old S.ws (S.l.headD .rs) (S.r.headD .rs)) false := fun q => by
        unfold one
        rw [w q, beat_nc h0]
        rfl
      rw [e r, e .old]
      refine runF_nc n _ fun i => ?_
      show clashD (S.l.tail.getD i .rs) (S.r.tail.getD i .rs) = false
      rw [getD_tail, getD_tail]
      exact h (i + 1)
theorem partD_nc {c : Nat} {ds es : List Deed} (h : clashesD ds es = []) : partD c ds es = none := by
  have nc : ∀ i, clashD (ds.getD i .rs) (es.getD i .rs) = false := fun i => by
    by_cases hi : i < min ds.length es.length
    · have z := List.filter_eq_nil_iff.mp h i (List.mem_range.mpr hi)
      simpa using z
    · by_cases h1 : i < ds.length
      · have e : es.getD i .rs = .rs := by rw [List.getD_eq_getElem?_getD, List.getElem?_eq_none (by omega)]; rfl
        rw [e]
        unfold clashD
        cases (ds.getD i .rs).cell <;> rfl
      · have e : ds.getD i .rs = .rs := by rw [List.getD_eq_getElem?_getD, List.getElem?_eq_none (by omega)]; rfl
        rw [e]
        rfl
  refine findSome_no fun j m _ _ => ?_
  rw [partRow_find]
  refine findSome_no fun k r _ _ => ?_
  rw [if_pos ((same3_iff _ _).mpr _)]
  have e : out r (begin0 m ds es) = out .old (begin0 m ds es) := runF_nc _ _ nc
  rw [e]
theorem nice_P {c : Nat} {ds es : List Deed} (hc : c ≤ 4) : Nice 2 (datP (partD c ds es)) := by
  cases h : partD c ds es with
  | none => exact .non
  | some z =>
    obtain ⟨m, r⟩ := z
    have hm : m ∈ mems c := by
      obtain ⟨a, ha, hb⟩ := List.exists_of_findSome?_eq_some h
      unfold partRow at hb
      obtain ⟨x, _, hx⟩ := Option.map_eq_some_iff.mp hb
      cases hx
      exact ha
    have hl := (mems_mem hm).1
    refine .tup (by simp) fun d hd => ?_
    simp only [List.mem_cons, List.not_mem_nil, or_false] at hd
    rcases hd with rfl | rfl | rfl
    · exact nice_wT (by omega)
    · exact .str (by decide +kernel)
    · exact .str (by cases r <;> decide +kernel)
/-- the deeds made over -/
def conv : Deed → Deed
  | .wr _ _ => .wr 0 1
  | _ => .rs
theorem conv_ok {d : Deed} {n : Nat} (h : 0 < n) : (conv d).ok n := by
  cases d with
  | wr c x => exact ⟨h, by decide⟩
  | rd c => exact True.intro
  | rs => exact True.intro
theorem eu_if {t : TT} {ta tb : TE} {σ : L2.St} {H : Hp} {b : Bool} {xs : List V} (h : EvT t σ H b) (h1 : b = true → EvU ta σ H xs) (h2 : b = false → EvU tb σ H xs) : EvU (tIf t ta tb) σ H xs := fun H1 e Q q => h H1 e _ fun H2 e2 => by
  cases b with
  | true =>
    show ta σ H2 Q
    exact h1 rfl H2 (e.trans e2) Q fun p H3 hp e3 h3 => q p H3 (fresh_back e2 hp) (e2.trans e3) h3
  | false =>
    show tb σ H2 Q
    exact h2 rfl H2 (e.trans e2) Q fun p H3 hp e3 h3 => q p H3 (fresh_back e2 hp) (e2.trans e3) h3
theorem conv_at {l : List Deed} {j : Nat} {d : Deed} (h : l[j]? = some d) : (l.take (j + 1)).map conv = (l.take j).map conv ++ [conv d] := by
  rw [List.take_add_one, h, List.map_append]
  rfl
theorem s_ifX {t : TT} {tu tw : TS} {D : Ends} {σ : L2.St} {H : Hp} {R : Bool → Hp → Prop} (h : ∀ Q : Bool → Hp → Prop, (∀ b H2, R b H2 → Q b H2) → t σ H Q) (h1 : ∀ H2, R true H2 → tu D σ H2) (h2 : ∀ H2, R false H2 → tw D σ H2) : tIfS t tu tw D σ H := h _ fun b H2 r => by
  cases b with
  | true =>
    show tu D σ H2
    exact h1 H2 r
  | false =>
    show tw D σ H2
    exact h2 H2 r
theorem s_conv {K : PySem.W.Frag} {i : Nat} {D : Ends} {σ : L2.St} {H : Hp} {p : Addr} {us : List V} {ds : List Deed} (hi : σ[i]? = some (some (.ref p))) (hl : SqL K H p us) (hP : PV K H us ds) (hz : ds.length ≤ 40) (hw : ∀ x, wipe ((wipe σ [9]).set 9 (some x)) [9] = wipe σ [9]) (hx : ∀ x, ((wipe σ [9]).set 9 (some x))[9]? = some (some x))
    (k : ∀ p' us' H', H p' = none → Ex H H' → H' p' = some (.lst us') → PV K H' us' (ds.map conv) → D.nx (σ.set i (some (.ref p'))) H') :
    tAsg (tLc (iList K (tVar i)) (gName 9) tYes (tIf (tTest (tOp rEq (tOp (rIxT K) (tVar 9) (tC (.int 0))) (tC (.str "write")))) (tTup (tCons (tC (.str "write")) (tCons (tC (.int 0)) (tCons (tC (.int 1)) tNil)))) (tTup (tCons (tC (.str "rest")) tNil))) [9]) (gName i) D σ H := by
  refine ⟨_, hi, p, rfl, ⟨us, hl⟩, fun L hL => ?_⟩
  have hlen := hP.length
  refine it_list (xs := us) (fun j X => ∃ bs, X L = some (.lst bs) ∧ PV K X bs ((ds.take j).map conv) ∧ Ex H X ∧ bs.length = j) ⟨[], upd_same, .nil, Ex.new hL, rfl⟩ (fun j X _ ⟨_, _, _, e, _⟩ => ex_l e hl) ?_ ?_
  · rintro j x X hj ⟨bs, hb, hB, eX, hn⟩
    have hju := (List.getElem?_eq_some_iff.mp hj).1
    obtain ⟨d, hd, a, rfl, hv⟩ := (hP.mono eX).get hj
    refine gn ?_
    refine ⟨hw _, ?_⟩
    have wd : decide (V.str d.tag = V.str "write") = d.isW := by
      cases d with
      | rd c => exact (by decide +kernel : decide (V.str "read" = V.str "write") = false)
      | wr c x => exact (by decide +kernel : decide (V.str "write" = V.str "write") = true)
      | rs => exact (by decide +kernel : decide (V.str "rest" = V.str "write") = false)
    have ev : EvU (tIf (tTest (tOp rEq (tOp (rIxT K) (tVar 9) (tC (.int 0))) (tC (.str "write")))) (tTup (tCons (tC (.str "write")) (tCons (tC (.int 0)) (tCons (tC (.int 1)) tNil)))) (tTup (tCons (tC (.str "rest")) tNil))) ((wipe σ [9]).set 9 (some (.ref a))) X (conv d).vals :=
      eu_if (b := d.isW) (et_test (ev_is (ev_op (x := .str d.tag) (y := .str "write") (ev_op (ev_var (hx _)) ev_c (DV.tag hv)) ev_c (rv_eq rfl)) (by rw [wd])))
        (fun hb => by
          cases d with
          | wr c x => exact eu_tup (vs := [.str "write", .int 0, .int 1]) (ea_cons ev_c (ea_cons ev_c (ea_cons ev_c ea_nil))) (by simp)
          | rd c => cases hb
          | rs => cases hb)
        (fun hb => by
          cases d with
          | wr c x => cases hb
          | rd c => exact eu_tup (vs := [.str "rest"]) (ea_cons ev_c ea_nil) (by simp)
          | rs => exact eu_tup (vs := [.str "rest"]) (ea_cons ev_c ea_nil) (by simp))
    refine ev X (Ex.refl X) _ fun t Y nt eY ht => ?_
    have hb2 := eY _ _ hb
    have b2 : Bt [L] Y (upd Y L (.lst (bs ++ [.ref t]))) := (Bt.refl Y).set (by simp)
    have l2 : ∀ q ∈ [L], ∃ us, Y q = some (.lst us) := by simp [hb2]
    refine ⟨bs, hb2, by show bs.length < 2 ^ 24; omega, bs ++ [.ref t], upd_same, ?_, (eX.trans eY).mut hL, by rw [List.length_append, hn]; rfl⟩
    rw [conv_at hd]
    exact (pv_buts b2 l2 (hB.mono eY)).append (.cons ⟨t, rfl, t_but b2 l2 (SqT.of ht)⟩ .nil)
  · rintro X ⟨bs, hb, hB, eX, hn⟩
    rw [hlen, List.take_length] at hB
    exact gn (k L bs X hL eX hb hB)
theorem q_conv {K : PySem.W.Frag} {i : Nat} {tz : TS} {D : Ends} {σ : L2.St} {H : Hp} {p : Addr} {us : List V} {ds : List Deed} (hi : σ[i]? = some (some (.ref p))) (hl : SqL K H p us) (hP : PV K H us ds) (hz : ds.length ≤ 40) (hw : ∀ x, wipe ((wipe σ [9]).set 9 (some x)) [9] = wipe σ [9]) (hx : ∀ x, ((wipe σ [9]).set 9 (some x))[9]? = some (some x))
    (k : ∀ p' us' H', H p' = none → Ex H H' → H' p' = some (.lst us') → PV K H' us' (ds.map conv) → tz D (σ.set i (some (.ref p'))) H') :
    tSeq (tAsg (tLc (iList K (tVar i)) (gName 9) tYes (tIf (tTest (tOp rEq (tOp (rIxT K) (tVar 9) (tC (.int 0))) (tC (.str "write")))) (tTup (tCons (tC (.str "write")) (tCons (tC (.int 0)) (tCons (tC (.int 1)) tNil)))) (tTup (tCons (tC (.str "rest")) tNil))) [9]) (gName i)) tz D σ H :=
  s_conv (D := { D with nx := tz D }) hi hl hP hz hw hx k
theorem eqv_list_w (a b : List Nat) : PyData.eqv (.list (wD a)) (.list (wD b)) = decide (a = b) := by simp only [PyData.eqv, eqvA_w]
section
variable {tz : TS} {D : Ends} {σ : L2.St} {H : Hp}
/-- a test whose value comes with what is made on the way -/
theorem q_whenX {t : TT} {tu : TS} {R : Hp → Prop} (h : ∀ Q : Bool → Hp → Prop, (∀ H2, R H2 → Q false H2) → t σ H Q) (k : ∀ H2, R H2 → tz D σ H2) : tSeq (tIfS t tu tNext) tz D σ H := h _ fun H2 r => k H2 r
theorem s_whenX {t : TT} {tu : TS} {R : Hp → Prop} (h : ∀ Q : Bool → Hp → Prop, (∀ H2, R H2 → Q false H2) → t σ H Q) (k : ∀ H2, R H2 → D.nx σ H2) : tIfS t tu tNext D σ H := h _ fun H2 r => k H2 r
end
section
variable {K : PySem.W.Frag} {σ : L2.St} {H : Hp} {ta te tb tw : TE} {t : TT} {tu : TS} {D : Ends} {tz : TS}
theorem el_rep {xs : List V} {n : Nat} (h : EvL te σ H xs) (hb : Ev tb σ H (.int n)) (hz : xs.length * n ≤ 100000) (hn : n ≤ 100000) : EvL (tOp rRep te tb) σ H (List.replicate n xs).flatten := fun H1 e Q q =>
  h H1 e _ fun p H2 hp e2 hx => hb H2 (e.trans e2) _ fun H3 e3 => ⟨p, n, xs, rfl, rfl, e3 _ _ hx, by omega, by omega, by rw [Int.toNat_natCast]; exact sz_of hz, fun p' hp' => by
    rw [Int.toNat_natCast]
    exact q p' _ (fresh_back (e2.trans e3) hp') ((e2.trans e3).trans (Ex.new hp')) upd_same⟩
theorem el_catN {xs ys : List V} (ha : EvL ta σ H xs) (hb : EvL tb σ H ys) (hz : xs.length + ys.length ≤ 100000) : EvL (tOp rCat ta tb) σ H (xs ++ ys) := fun H1 e Q q =>
  ha H1 e _ fun p H2 hp e2 hx => hb H2 (e.trans e2) _ fun p' H3 hp' e3 hy => ⟨p, p', xs, ys, rfl, rfl, e3 _ _ hx, hy, sz_of hz, fun p2 hp2 => q p2 _ (fresh_back (e2.trans e3) hp2) ((e2.trans e3).trans (Ex.new hp2)) upd_same⟩
/-- a while whose test draws -/
theorem s_whileX (W : Nat → L2.St → Hp → Prop) (m0 : Nat) (h0 : W m0 σ H)
    (hs : ∀ m σ' H', W m σ' H' → ∃ R : Bool → Hp → Prop, (∀ Q : Bool → Hp → Prop, (∀ b H1, R b H1 → Q b H1) → t σ' H' Q) ∧ (∀ H1, R true H1 → ∃ N : L2.St → Hp → Prop, (∀ σ2 H2, N σ2 H2 → ∃ m', m' < m ∧ W m' σ2 H2) ∧ tu { D with nx := N, ct := N, bk := D.nx } σ' H1) ∧ (∀ H1, R false H1 → D.nx σ' H1)) : tWhile t tu D σ H :=
  ⟨W, ⟨m0, h0⟩, fun m σ' H' hw => by
    obtain ⟨R, hb, h1, h2⟩ := hs m σ' H' hw
    refine hb _ fun b H1 r => ?_
    cases b with
    | true => exact h1 H1 r
    | false => exact h2 H1 r⟩
end
theorem cut_from {α : Type} (us : List α) (i : Nat) (g : List α → Option Int → Option Int → List α) (hg : ∀ l a b, g l a b = (l.drop (HT.sIx l.length 0 a)).take (HT.sIx l.length l.length b - HT.sIx l.length 0 a)) : g us (some (i : Int)) none = us.drop i := by
  have e1 : HT.sIx us.length 0 (some (i : Int)) = min i us.length := HT.sIx_nat _ _ _
  have e2 : HT.sIx us.length us.length none = us.length := HT.sIx_none _ _
  rw [hg, e1, e2]
  by_cases h : i ≤ us.length
  · rw [Nat.min_eq_left h, List.take_of_length_le (by rw [List.length_drop]; exact Nat.le_refl _)]
  · rw [Nat.min_eq_right (by omega), List.drop_of_length_le (Nat.le_refl _), List.drop_of_length_le (by omega)]
    simp
theorem cut_to {α : Type} (us : List α) (i : Nat) (g : List α → Option Int → Option Int → List α) (hg : ∀ l a b, g l a b = (l.drop (HT.sIx l.length 0 a)).take (HT.sIx l.length l.length b - HT.sIx l.length 0 a)) : g us none (some (i : Int)) = us.take i := by
  have e1 : HT.sIx us.length 0 none = 0 := HT.sIx_none _ _
  have e2 : HT.sIx us.length us.length (some (i : Int)) = min i us.length := HT.sIx_nat _ _ _
  rw [hg, e1, e2, List.drop_zero, Nat.sub_zero, ← List.take_eq_take_min]
theorem cutV_from (us : List V) (i : Nat) : cutV us (some (i : Int)) none = us.drop i := cut_from us i cutV fun _ _ _ => rfl
theorem cutV_to (us : List V) (i : Nat) : cutV us none (some (i : Int)) = us.take i := cut_to us i cutV fun _ _ _ => rfl
end Db

namespace Db
open PySem L2 Evl StX
/-! ### the right program fitted -/
structure FitS where
  prog : List Deed
  why : List (Nat × Nat)
  num : Nat
def FitS.done (es : List Deed) (S : FitS) : Prop := es.length ≤ S.num
def FitS.cl (ds es : List Deed) (S : FitS) : Bool := clashD (ds.getD S.prog.length .rs) (es.getD S.num .rs)
def fitOne (ds es : List Deed) (S : FitS) : FitS :=
  if S.cl ds es then ⟨S.prog ++ [.rs], S.why ++ [(S.prog.length, S.num)], S.num⟩ else ⟨S.prog ++ [es.getD S.num .rs], S.why, S.num + 1⟩
instance (es : List Deed) (S : FitS) : Decidable (S.done es) := inferInstanceAs (Decidable (_ ≤ _))
def fitStep (ds es : List Deed) (S : FitS) : FitS := if S.done es then S else fitOne ds es S
def FitS.meas (ds es : List Deed) (S : FitS) : Nat := (es.length - S.num) + (ds.length - S.prog.length)
theorem clash_rs (d : Deed) : clashD .rs d = false := by cases d <;> rfl
theorem clash_rs' (d : Deed) : clashD d .rs = false := by cases d <;> rfl
theorem cl_lt {ds es : List Deed} {S : FitS} (h : S.cl ds es = true) : S.prog.length < ds.length := by
  by_cases z : S.prog.length < ds.length
  · exact z
  · unfold FitS.cl at h
    rw [List.getD_eq_getElem?_getD, List.getElem?_eq_none (by omega)] at h
    have e := clash_rs (es.getD S.num .rs)
    simp only [Option.getD_none] at h
    rw [e] at h
    cases h
theorem fitOne_less {ds es : List Deed} {S : FitS} (h : ¬ S.done es) : (fitOne ds es S).meas ds es < S.meas ds es := by
  unfold FitS.done at h
  unfold fitOne
  by_cases hc : S.cl ds es = true
  · have := cl_lt hc
    rw [if_pos hc]
    unfold FitS.meas
    simp only [List.length_append, List.length_cons, List.length_nil]
    omega
  · rw [if_neg hc]
    unfold FitS.meas
    simp only [List.length_append, List.length_cons, List.length_nil]
    omega
def fitF (ds es : List Deed) : Nat → FitS → FitS
  | 0, S => S
  | n + 1, S => fitF ds es n (fitStep ds es S)
theorem fitF_done {ds es : List Deed} {S : FitS} (h : S.done es) : ∀ n, fitF ds es n S = S
  | 0 => rfl
  | n + 1 => by
    have e : fitStep ds es S = S := if_pos h
    rw [fitF, e]
    exact fitF_done h n
theorem fitF_more {ds es : List Deed} : ∀ (n : Nat) (S : FitS), S.meas ds es ≤ n → fitF ds es n S = fitF ds es (S.meas ds es) S
  | 0, S, h => by rw [show S.meas ds es = 0 by omega]
  | n + 1, S, h => by
    by_cases hd : S.done es
    · rw [fitF_done hd, fitF_done hd]
    · have hl := fitOne_less (ds := ds) hd
      obtain ⟨m, hm⟩ : ∃ m, S.meas ds es = m + 1 := ⟨S.meas ds es - 1, by omega⟩
      have e : fitStep ds es S = fitOne ds es S := if_neg hd
      rw [hm, fitF, fitF, e, fitF_more n _ (by omega)]
      by_cases z : m = n
      · rw [z, fitF_more n _ (by omega)]
      · exact (fitF_more m _ (by omega)).symm
  termination_by n => n
def fitEnd (ds es : List Deed) (S : FitS) : FitS := fitF ds es (S.meas ds es) S
theorem fitEnd_done {ds es : List Deed} {S : FitS} (h : S.done es) : fitEnd ds es S = S := fitF_done h _
theorem fitEnd_one {ds es : List Deed} {S : FitS} (h : ¬ S.done es) : fitEnd ds es (fitOne ds es S) = fitEnd ds es S := by
  unfold fitEnd
  have hl := fitOne_less (ds := ds) h
  obtain ⟨m, hm⟩ : ∃ m, S.meas ds es = m + 1 := ⟨S.meas ds es - 1, by omega⟩
  have e : fitStep ds es S = fitOne ds es S := if_neg h
  rw [hm, fitF, e, fitF_more m _ (by omega)]
def fit0 : FitS := ⟨[], [], 0⟩
/-- each tuple of a reason holds -/
def whyOk (ds es : List Deed) (ahead : Nat) (least : Int) : List (Int × Int) → Bool
  | [] => true
  | (b, n) :: r => (decide (least ≤ n ∧ n < es.length) && decide (b = n + ahead)) && (clashD (ds.getD b.toNat .rs) (es.getD n.toNat .rs) && whyOk ds es (ahead + 1) n r)
theorem whyOk_app {ds es : List Deed} : ∀ (r : List (Int × Int)) (ahead : Nat) (least b n : Int), whyOk ds es ahead least (r ++ [(b, n)]) = (whyOk ds es ahead least r && (decide (((r.map (·.2)).getLastD least) ≤ n ∧ n < es.length) && decide (b = n + (ahead + r.length : Nat)) && clashD (ds.getD b.toNat .rs) (es.getD n.toNat .rs)))
  | [], ahead, least, b, n => by
    show (_ && (_ && true)) = (true && _)
    simp
  | (b', n') :: r, ahead, least, b, n => by
    have h := whyOk_app (ds := ds) (es := es) r (ahead + 1) n' b n
    show (_ && (_ && whyOk ds es (ahead + 1) n' (r ++ [(b, n)]))) = ((_ && (_ && whyOk ds es (ahead + 1) n' r)) && _)
    rw [h]
    have e : ahead + 1 + r.length = ahead + ((b', n') :: r).length := by rw [List.length_cons]; omega
    rw [e]
    have e2 : (((b', n') :: r).map (·.2)).getLastD least = (r.map (·.2)).getLastD n' := by
      cases r with
      | nil => rfl
      | cons x r => rfl
    rw [e2]
    simp only [Bool.and_assoc]
def whyI (l : List (Nat × Nat)) : List (Int × Int) := l.map fun p => ((p.1 : Int), (p.2 : Int))
/-- the fewest rests, by trying all -/
def leastD (ds : List Deed) : Nat → List Deed → Nat → Nat
  | 0, _, _ => 0
  | f + 1, [], b => 0
  | f + 1, e :: t, b => if ds.length ≤ b then 0 else if clashD (ds.getD b .rs) e = true then 1 + leastD ds f (e :: t) (b + 1) else min (1 + leastD ds f (e :: t) (b + 1)) (leastD ds f t (b + 1))
theorem leastD_end {ds : List Deed} {f : Nat} {r : List Deed} {b : Nat} (h : ds.length ≤ b) : leastD ds f r b = 0 := by
  cases f with
  | zero => rfl
  | succ f =>
    cases r with
    | nil => rfl
    | cons e t => rw [leastD, if_pos h]
theorem leastD_nil {ds : List Deed} {f : Nat} {b : Nat} : leastD ds f [] b = 0 := by cases f <;> rfl
theorem leastD_B {ds : List Deed} {f : Nat} {r : List Deed} {b : Nat} : leastD ds (f + 1) r b ≤ 1 + leastD ds f r (b + 1) := by
  cases r with
  | nil => rw [leastD_nil]; omega
  | cons e t =>
    rw [leastD]
    split
    · omega
    · split
      · omega
      · omega
theorem leastD_C {ds : List Deed} : ∀ (f : Nat) (e : Deed) (t : List Deed) (b : Nat), ds.length ≤ b + f → leastD ds f t b ≤ 1 + leastD ds f (e :: t) b
  | 0, _, _, _, _ => by show 0 ≤ _; omega
  | f + 1, e, t, b, h => by
    have ih := leastD_C (ds := ds) f e t (b + 1) (by omega)
    have hB := leastD_B (ds := ds) (f := f) (r := t) (b := b)
    by_cases hb : ds.length ≤ b
    · rw [leastD_end hb]; omega
    · rw [leastD.eq_3, if_neg hb]
      split
      · omega
      · omega
theorem leastD_no {ds : List Deed} {f : Nat} {e : Deed} {t : List Deed} {b : Nat} (h : ds.length ≤ b + (f + 1)) (hc : clashD (ds.getD b .rs) e = false) : leastD ds (f + 1) (e :: t) b = leastD ds f t (b + 1) := by
  by_cases hb : ds.length ≤ b
  · rw [leastD_end hb, leastD_end (by omega)]
  · have hC := leastD_C (ds := ds) f e t (b + 1) (by omega)
    rw [leastD, if_neg hb, hc, if_neg Bool.false_ne_true]
    omega
theorem leastD_yes {ds : List Deed} {f : Nat} {e : Deed} {t : List Deed} {b : Nat} (hc : clashD (ds.getD b .rs) e = true) (hb : b < ds.length) : leastD ds (f + 1) (e :: t) b = 1 + leastD ds f (e :: t) (b + 1) := by
  rw [leastD, if_neg (by omega), if_pos hc]
/-- what stays through all steps -/
structure FitOk (ds es : List Deed) (c : Nat) (S : FitS) : Prop where
  num : S.num ≤ es.length
  len : S.prog.length = S.num + S.why.length
  all : S.prog.length + S.meas ds es ≤ ds.length + es.length
  free : ∀ j, clashD (ds.getD j .rs) (S.prog.getD j .rs) = false
  ok : ∀ d ∈ S.prog, d.ok c
  why : whyOk ds es 0 0 (whyI S.why) = true
  last : ((whyI S.why).map (·.2)).getLastD 0 ≤ S.num
  least : S.why.length + leastD ds (ds.length - S.prog.length) (es.drop S.num) S.prog.length = leastD ds ds.length es 0
theorem getD_snoc {l : List Deed} {d : Deed} {j : Nat} : (l ++ [d]).getD j .rs = if j = l.length then d else l.getD j .rs := by
  rw [List.getD_eq_getElem?_getD, List.getD_eq_getElem?_getD]
  by_cases h : j < l.length
  · rw [List.getElem?_append_left h, if_neg (by omega)]
  · rw [List.getElem?_append_right (by omega)]
    by_cases z : j = l.length
    · rw [if_pos z, z]; simp
    · rw [if_neg z, List.getElem?_eq_none (l := [d]) (by simp; omega), List.getElem?_eq_none (l := l) (by omega)]
theorem FitOk.one {ds es : List Deed} {c : Nat} {S : FitS} (F : FitOk ds es c S) (h : ¬ S.done es) (he : ∀ d ∈ es, d.ok c) : FitOk ds es c (fitOne ds es S) := by
  have hl := fitOne_less (ds := ds) h
  have hn : S.num < es.length := by unfold FitS.done at h; omega
  have h1 := F.len
  have h2 := F.all
  have hd : es.drop S.num = es.getD S.num .rs :: es.drop (S.num + 1) := by
    rw [List.drop_eq_getElem_cons hn, List.getD_eq_getElem?_getD, List.getElem?_eq_getElem hn]
    rfl
  by_cases hc : S.cl ds es = true
  · have e : fitOne ds es S = ⟨S.prog ++ [.rs], S.why ++ [(S.prog.length, S.num)], S.num⟩ := if_pos hc
    have hlt := cl_lt hc
    rw [e] at hl ⊢
    refine ⟨F.num, by simp only [List.length_append, List.length_singleton]; omega, by simp only [List.length_append, List.length_singleton]; omega, fun j => ?_, fun d hd => ?_, ?_, ?_, ?_⟩
    · show clashD _ ((S.prog ++ [Deed.rs]).getD j .rs) = false
      rw [getD_snoc]
      split
      · exact clash_rs' _
      · exact F.free j
    · rcases List.mem_append.mp hd with z | z
      · exact F.ok d z
      · rw [List.mem_singleton.mp z]; exact True.intro
    · show whyOk ds es 0 0 (whyI (S.why ++ [(S.prog.length, S.num)])) = true
      unfold whyI
      rw [List.map_append]
      show whyOk ds es 0 0 (whyI S.why ++ [((S.prog.length : Int), (S.num : Int))]) = true
      rw [whyOk_app, F.why, Bool.true_and]
      have l2 : (whyI S.why).length = S.why.length := by unfold whyI; rw [List.length_map]
      have la := F.last
      have c2 : clashD (ds.getD ((S.prog.length : Nat) : Int).toNat .rs) (es.getD ((S.num : Nat) : Int).toNat .rs) = true := by
        rw [Int.toNat_natCast, Int.toNat_natCast]; exact hc
      rw [c2, decide_eq_true (by refine ⟨la, ?_⟩; omega), decide_eq_true (by rw [l2]; omega)]
      rfl
    · show ((whyI (S.why ++ [(S.prog.length, S.num)])).map (·.2)).getLastD 0 ≤ (S.num : Int)
      unfold whyI
      rw [List.map_append, List.map_append]
      simp [List.getLastD_eq_getLast?]
    · have hL := F.least
      show (S.why ++ [(S.prog.length, S.num)]).length + leastD ds (ds.length - (S.prog ++ [Deed.rs]).length) (es.drop S.num) (S.prog ++ [Deed.rs]).length = _
      rw [hd] at hL ⊢
      obtain ⟨f, hf⟩ : ∃ f, ds.length - S.prog.length = f + 1 := ⟨ds.length - S.prog.length - 1, by omega⟩
      rw [hf, leastD_yes hc hlt] at hL
      rw [List.length_append, List.length_append, List.length_singleton, List.length_singleton, show ds.length - (S.prog.length + 1) = f by omega]
      omega
  · have hc' : S.cl ds es = false := by simpa using hc
    have e : fitOne ds es S = ⟨S.prog ++ [es.getD S.num .rs], S.why, S.num + 1⟩ := if_neg hc
    rw [e] at hl ⊢
    refine ⟨hn, by simp only [List.length_append, List.length_singleton]; omega, by simp only [List.length_append, List.length_singleton]; omega, fun j => ?_, fun d hd => ?_, F.why, ?_, ?_⟩
    · show clashD _ ((S.prog ++ [es.getD S.num .rs]).getD j .rs) = false
      rw [getD_snoc]
      split
      · rename_i z
        rw [z]
        exact hc'
      · exact F.free j
    · rcases List.mem_append.mp hd with z | z
      · exact F.ok d z
      · rw [List.mem_singleton.mp z, List.getD_eq_getElem?_getD, List.getElem?_eq_getElem hn]
        exact he _ (List.getElem_mem hn)
    · have la := F.last
      show ((whyI S.why).map (·.2)).getLastD 0 ≤ ((S.num + 1 : Nat) : Int)
      omega
    · have hL := F.least
      show S.why.length + leastD ds (ds.length - (S.prog ++ [es.getD S.num .rs]).length) (es.drop (S.num + 1)) (S.prog ++ [es.getD S.num .rs]).length = _
      rw [hd] at hL
      rw [List.length_append, List.length_singleton]
      by_cases hb : ds.length ≤ S.prog.length
      · rw [leastD_end hb] at hL
        rw [leastD_end (by omega)]
        exact hL
      · obtain ⟨f, hf⟩ : ∃ f, ds.length - S.prog.length = f + 1 := ⟨ds.length - S.prog.length - 1, by omega⟩
        rw [hf, leastD_no (by omega) hc'] at hL
        rw [show ds.length - (S.prog.length + 1) = f by omega]
        exact hL
theorem FitOk.begin (ds es : List Deed) (c : Nat) : FitOk ds es c fit0 := ⟨Nat.zero_le _, rfl, by show 0 + (_ - 0 + (_ - 0)) ≤ _; omega, fun j => by show clashD _ (([] : List Deed).getD j .rs) = false; simp [clash_rs'], (fun _ z => nomatch z), rfl, by show (0 : Int) ≤ 0; omega, by show 0 + leastD ds (ds.length - 0) (es.drop 0) 0 = _; simp⟩
theorem fitF_ok {ds es : List Deed} {c : Nat} (he : ∀ d ∈ es, d.ok c) : ∀ (n : Nat) (S : FitS), FitOk ds es c S → FitOk ds es c (fitF ds es n S)
  | 0, _, F => F
  | n + 1, S, F => by
    rw [fitF]
    refine fitF_ok he n _ ?_
    unfold fitStep
    split
    · exact F
    · rename_i h
      exact F.one h he
theorem fitEnd_isDone {ds es : List Deed} : ∀ (n : Nat) (S : FitS), S.meas ds es ≤ n → (fitF ds es n S).done es
  | 0, S, h => by
    unfold FitS.meas at h
    show es.length ≤ S.num
    omega
  | n + 1, S, h => by
    rw [fitF]
    by_cases hd : S.done es
    · have e : fitStep ds es S = S := if_pos hd
      rw [e, fitF_done hd]
      exact hd
    · have e : fitStep ds es S = fitOne ds es S := if_neg hd
      have hl := fitOne_less (ds := ds) hd
      rw [e]
      exact fitEnd_isDone n _ (by omega)
/-- the right program fitted, and why -/
def fitD (ds es : List Deed) : FitS := fitEnd ds es fit0
theorem fitD_ok {ds es : List Deed} {c : Nat} (he : ∀ d ∈ es, d.ok c) : FitOk ds es c (fitD ds es) := fitF_ok he _ _ (FitOk.begin ds es c)
theorem fitD_num {ds es : List Deed} {c : Nat} (he : ∀ d ∈ es, d.ok c) : (fitD ds es).num = es.length := by
  have h1 := (fitD_ok (ds := ds) he).num
  have h2 : (fitD ds es).done es := fitEnd_isDone _ _ (Nat.le_refl _)
  unfold FitS.done at h2
  omega
theorem fitD_len {ds es : List Deed} {c : Nat} (he : ∀ d ∈ es, d.ok c) : (fitD ds es).prog.length ≤ ds.length + es.length := by
  have h := (fitD_ok (ds := ds) he).all
  omega
theorem fitD_least {ds es : List Deed} {c : Nat} (he : ∀ d ∈ es, d.ok c) : leastD ds ds.length es 0 = (fitD ds es).why.length := by
  have h := (fitD_ok (ds := ds) he).least
  rw [fitD_num he, List.drop_of_length_le (Nat.le_refl _), leastD_nil] at h
  omega
theorem fitD_free {ds es : List Deed} {c : Nat} (he : ∀ d ∈ es, d.ok c) : clashesD ds (fitD ds es).prog = [] := by
  unfold clashesD
  refine List.filter_eq_nil_iff.mpr fun j _ => ?_
  rw [(fitD_ok (ds := ds) he).free j]
  exact Bool.false_ne_true
/-- pairs of two numbers -/
def IV (K : PySem.W.Frag) (H : Hp) (v : V) (p : Int × Int) : Prop := ∃ a, v = .ref a ∧ SqT K H a [.int p.1, .int p.2]
def IVs (K : PySem.W.Frag) (H : Hp) (vs : List V) (ps : List (Int × Int)) : Prop := Paired (IV K H) vs ps
theorem IV.mono {K : PySem.W.Frag} {H H' : Hp} {v : V} {p : Int × Int} (e : Ex H H') (q : IV K H v p) : IV K H' v p := by
  obtain ⟨a, h, s⟩ := q
  exact ⟨a, h, ex_t e s⟩
theorem IVs.mono {K : PySem.W.Frag} {H H' : Hp} {vs : List V} {ps : List (Int × Int)} (e : Ex H H') (q : IVs K H vs ps) : IVs K H' vs ps := Paired.mapP q fun _ _ => IV.mono e
theorem IVs.buts {K : PySem.W.Frag} {H H' : Hp} {S : List Addr} {vs : List V} {ps : List (Int × Int)} (b : Bt S H H') (hp : ∀ p ∈ S, ∃ us, H p = some (.lst us)) (q : IVs K H vs ps) : IVs K H' vs ps := Paired.mapP q fun _ _ ⟨a, h, s⟩ => ⟨a, h, t_but b hp s⟩
theorem IVs.length {K : PySem.W.Frag} {H : Hp} {vs : List V} {ps : List (Int × Int)} (q : IVs K H vs ps) : vs.length = ps.length := Paired.length q
theorem IVs.get {K : PySem.W.Frag} {H : Hp} : ∀ {vs : List V} {ps : List (Int × Int)} {i : Nat} {v : V}, IVs K H vs ps → vs[i]? = some v → ∃ m, ps[i]? = some m ∧ IV K H v m
  | _, _, _, _, .nil, e => by simp at e
  | _, _, 0, _, .cons r _, e => by simp at e; subst e; exact ⟨_, rfl, r⟩
  | _, _, i + 1, x, .cons _ t, e => by
    obtain ⟨u, h1, h2⟩ := IVs.get (i := i) (v := x) t (by simpa using e)
    exact ⟨u, by simpa using h1, h2⟩
theorem IVs.append {K : PySem.W.Frag} {H : Hp} : ∀ {us vs : List V} {ds es : List (Int × Int)}, IVs K H us ds → IVs K H vs es → IVs K H (us ++ vs) (ds ++ es)
  | _, _, _, _, .nil, h => h
  | _, _, _, _, .cons r t, h => .cons r (IVs.append t h)
theorem IVs.drop {K : PySem.W.Frag} {H : Hp} : ∀ {vs : List V} {ds : List (Int × Int)} (n : Nat), IVs K H vs ds → IVs K H (vs.drop n) (ds.drop n)
  | _, _, 0, h => h
  | _, _, n + 1, .nil => .nil
  | _, _, n + 1, .cons _ t => IVs.drop n t
theorem IVs.take {K : PySem.W.Frag} {H : Hp} : ∀ {vs : List V} {ds : List (Int × Int)} (n : Nat), IVs K H vs ds → IVs K H (vs.take n) (ds.take n)
  | _, _, 0, h => .nil
  | _, _, n + 1, .nil => .nil
  | _, _, n + 1, .cons r t => .cons r (IVs.take n t)
def iD (p : Int × Int) : PyData := .tuple [.int p.1, .int p.2]
theorem IVs.dpa {K : PySem.W.Frag} {H : Hp} {vs : List V} {ps : List (Int × Int)} (h : IVs K H vs ps) : DpAll K H vs (ps.map iD) := by
  induction h with
  | nil => exact .nil
  | cons a _ ih =>
    obtain ⟨a', rfl, h2⟩ := a
    exact .cons (.tup h2 (.cons (.int _) (.cons (.int _) .nil))) ih
theorem nice_i {n : Nat} (p : Int × Int) : Nice (n + 1) (iD p) := .tup (by simp) fun d hd => by
  simp only [List.mem_cons, List.not_mem_nil, or_false] at hd
  rcases hd with rfl | rfl <;> exact .int _
theorem nice_is {n : Nat} {ps : List (Int × Int)} (h : ps.length ≤ 1000) : Nice (n + 2) (.list (ps.map iD)) := .lst (by rw [List.length_map]; exact h) fun d hd => by
  obtain ⟨p, _, rfl⟩ := List.mem_map.mp hd
  exact nice_i p
theorem nice_d {n : Nat} (d : Deed) : Nice (n + 1) (.tuple d.dat) := .tup (by cases d <;> simp [Deed.dat]) fun x hx => by
  cases d <;> simp only [Deed.dat, List.mem_cons, List.not_mem_nil, or_false] at hx
  · rcases hx with rfl | rfl
    · exact .str sk_read
    · exact .int _
  · rcases hx with rfl | rfl | rfl
    · exact .str sk_write
    · exact .int _
    · exact .int _
  · subst hx
    exact .str sk_rest
theorem nice_ds {n : Nat} {ds : List Deed} (h : ds.length ≤ 1000) : Nice (n + 2) (.list (ds.map fun d => .tuple d.dat)) := .lst (by rw [List.length_map]; exact h) fun x hx => by
  obtain ⟨d, _, rfl⟩ := List.mem_map.mp hx
  exact nice_d d
/-- what fitted tells: two new lists -/
def ToldF (K : PySem.W.Frag) (H H' : Hp) (v : V) (S : FitS) : Prop := ∃ (t pl rl : Addr) (us rs : List V), v = .ref t ∧ H' t = some (.tup [.ref pl, .ref rl]) ∧ H' pl = some (.lst us) ∧ PV K H' us S.prog ∧ H' rl = some (.lst rs) ∧ IVs K H' rs (whyI S.why) ∧ H pl = none ∧ H rl = none ∧ pl ≠ rl ∧ Ex H H'
def datF (S : FitS) : PyData := .tuple [.list (S.prog.map fun d => .tuple d.dat), .list ((whyI S.why).map iD)]
theorem ToldF.dp {K : PySem.W.Frag} {H H' : Hp} {v : V} {S : FitS} (h : ToldF K H H' v S) : Dp K H' v (datF S) := by
  obtain ⟨t, pl, rl, us, rs, rfl, h1, h2, h3, h4, h5, _⟩ := h
  exact .tup (SqT.of h1) (.cons (PV.dp (SqL.of h2) h3) (.cons (.lst (SqL.of h4) h5.dpa) .nil))
theorem nice_f {S : FitS} (h1 : S.prog.length ≤ 1000) (h2 : S.why.length ≤ 1000) : Nice 3 (datF S) := .tup (by simp) fun d hd => by
  simp only [List.mem_cons, List.not_mem_nil, or_false] at hd
  rcases hd with rfl | rfl
  · exact nice_ds h1
  · exact nice_is (by unfold whyI; rw [List.length_map]; exact h2)
/-- the written bound of the fitting's file -/
structure TxF (mg : Str → Option Value) (t20 : Tok) : Prop where
  g_MOST_TO_FIT : mg "MOST_TO_FIT" = some (.int 20 t20)
theorem txf_mk {K : PySem.W.Frag} {h : Heap} {mg : Str → Option Value} {t20 : Tok} (X : K.In h) (G : h.Ns mainGlobals mg) (a1 : PySem.W.nsIn K mainGlobals "MOST_TO_FIT" = some (some (.int 20 t20))) : TxF mg t20 :=
  ⟨PySem.W.mg_of X G a1⟩
theorem getD_at {l : List Deed} {i : Nat} {d : Deed} (h : l[i]? = some d) : l.getD i .rs = d := by rw [List.getD_eq_getElem?_getD, h]; rfl
/-- what shows so many tuples is no longer than the fewest rests -/
theorem why_bound {ds es : List Deed} : ∀ (f j a : Nat) (least : Int) (r : List (Int × Int)), ds.length ≤ a + j + f → (j : Int) ≤ least → whyOk ds es a least r = true → r.length ≤ leastD ds f (es.drop j) (a + j)
  | _, _, _, _, [], _, _, _ => Nat.zero_le _
  | 0, j, a, least, (b, n) :: r, hf, hj, h => by
    exfalso
    have h' : ((decide (least ≤ n ∧ n < es.length) && decide (b = n + a)) && (clashD (ds.getD b.toNat .rs) (es.getD n.toNat .rs) && whyOk ds es (a + 1) n r)) = true := h
    simp only [Bool.and_eq_true, decide_eq_true_eq] at h'
    obtain ⟨⟨⟨h1, h2⟩, h3⟩, h4, h5⟩ := h'
    have hb : ds.length ≤ b.toNat := by omega
    rw [List.getD_eq_getElem?_getD, List.getElem?_eq_none hb] at h4
    have e := clash_rs (es.getD n.toNat .rs)
    simp only [Option.getD_none] at h4
    rw [e] at h4
    cases h4
  | f + 1, j, a, least, (b, n) :: r, hf, hj, h => by
    have h' : ((decide (least ≤ n ∧ n < es.length) && decide (b = n + a)) && (clashD (ds.getD b.toNat .rs) (es.getD n.toNat .rs) && whyOk ds es (a + 1) n r)) = true := h
    simp only [Bool.and_eq_true, decide_eq_true_eq] at h'
    obtain ⟨⟨⟨h1, h2⟩, h3⟩, h4, h5⟩ := h'
    have hje : j < es.length := by omega
    have hd : es.drop j = es.getD j .rs :: es.drop (j + 1) := by
      rw [List.drop_eq_getElem_cons hje, List.getD_eq_getElem?_getD, List.getElem?_eq_getElem hje]
      rfl
    have hbl : b.toNat < ds.length := by
      by_cases z : b.toNat < ds.length
      · exact z
      · rw [List.getD_eq_getElem?_getD, List.getElem?_eq_none (by omega)] at h4
        have e := clash_rs (es.getD n.toNat .rs)
        simp only [Option.getD_none] at h4
        rw [e] at h4
        cases h4
    have r1 := why_bound f j (a + 1) n r (by omega) (by omega) h5
    rw [show a + 1 + j = a + j + 1 by omega] at r1
    have hlt : a + j < ds.length := by omega
    rw [hd] at r1 ⊢
    rw [leastD, if_neg (by omega)]
    rw [List.length_cons]
    by_cases hc : clashD (ds.getD (a + j) .rs) (es.getD j .rs) = true
    · rw [if_pos hc]
      omega
    · rw [if_neg hc]
      have hjn : (j : Int) < n := by
        by_cases z : (j : Int) = n
        · exfalso
          apply hc
          have e1 : a + j = b.toNat := by omega
          have e2 : j = n.toNat := by omega
          rw [e1, ← e1, e1, e2]
          exact h4
        · omega
      have hk : whyOk ds es a n ((b, n) :: r) = true := by
        show ((decide (n ≤ n ∧ n < es.length) && decide (b = n + a)) && (clashD (ds.getD b.toNat .rs) (es.getD n.toNat .rs) && whyOk ds es (a + 1) n r)) = true
        rw [decide_eq_true (⟨Int.le_refl _, h2⟩ : n ≤ n ∧ n < (es.length : Int)), decide_eq_true h3, h4, h5]
        rfl
      have r2 := why_bound f (j + 1) a n ((b, n) :: r) (by omega) (by omega) hk
      rw [List.length_cons, show a + (j + 1) = a + j + 1 by omega] at r2
      omega
theorem why_most {ds es : List Deed} {c : Nat} (he : ∀ d ∈ es, d.ok c) {r : List (Int × Int)} (h : whyOk ds es 0 0 r = true) : r.length ≤ (fitD ds es).why.length := by
  have z := why_bound ds.length 0 0 0 r (by omega) (Int.le_refl _) h
  rw [List.drop_zero] at z
  have e := fitD_least (ds := ds) he
  rw [← e]
  exact z
theorem IVs.draw {K : PySem.W.Frag} {H H' : Hp} {h l : Addr} {vs : List V} {ps : List (Int × Int)} (D : Draw H h l) (e : Bt [h, l] H H') (q : IVs K H vs ps) : IVs K H' vs ps := Paired.mapP q fun _ _ ⟨a, h1, s⟩ => ⟨a, h1, D.t e s⟩
/-- a range whose end is drawn -/
theorem q_forRX {σ : L2.St} {H : Hp} {tu tz : TS} {D : Ends} {ta : TA} {j : Nat} {R : Int → Hp → Prop} (h : ∀ Q : List V → Hp → Prop, (∀ n H1, R n H1 → Q [.int n] H1) → ta σ H Q) (k : ∀ n H1, R n H1 → tSeq (tFor (iRng1 (tCons (tC (.int n)) tNil)) (gName j) tu) tz D σ H1) : tSeq (tFor (iRng1 ta) (gName j) tu) tz D σ H := h _ fun n H1 r => k n H1 r
end Db

namespace Db
open PySem L2 Evl
def top (i : Nat) : Stmt := PySem.Challenge.pw_doorbeat_k07_reasons_judged.main.body.getD i (.Pass ⟨0, 0, 0, 0⟩)
abbrev s_is_whole : Stmt := top 8
theorem sc_is_whole : FnScope ["value"] ["value"] (defScope s_is_whole) := ⟨rfl, rfl, rfl, by decide +kernel, rfl, by decide +kernel, by decide +kernel⟩
abbrev s_is_cell : Stmt := top 9
theorem sc_is_cell : FnScope ["value", "cells"] ["value", "cells"] (defScope s_is_cell) := ⟨rfl, rfl, rfl, by decide +kernel, rfl, by decide +kernel, by decide +kernel⟩
abbrev s_is_worth : Stmt := top 10
theorem sc_is_worth : FnScope ["value"] ["value"] (defScope s_is_worth) := ⟨rfl, rfl, rfl, by decide +kernel, rfl, by decide +kernel, by decide +kernel⟩
abbrev s_is_deed : Stmt := top 11
theorem sc_is_deed : FnScope ["deed", "cells"] ["deed", "cells"] (defScope s_is_deed) := ⟨rfl, rfl, rfl, by decide +kernel, rfl, by decide +kernel, by decide +kernel⟩
abbrev s_check_program : Stmt := top 12
theorem sc_check_program : FnScope ["door", "program", "cells", "most", "place", "deed"] ["door", "program", "cells", "most"] (defScope s_check_program) := ⟨rfl, rfl, rfl, by decide +kernel, rfl, by decide +kernel, by decide +kernel⟩
abbrev s_check_programs : Stmt := top 13
theorem sc_check_programs : FnScope ["left", "right", "cells", "most"] ["left", "right", "cells", "most"] (defScope s_check_programs) := ⟨rfl, rfl, rfl, by decide +kernel, rfl, by decide +kernel, by decide +kernel⟩
abbrev s_clash : Stmt := top 14
theorem sc_clash : FnScope ["deed", "other"] ["deed", "other"] (defScope s_clash) := ⟨rfl, rfl, rfl, by decide +kernel, rfl, by decide +kernel, by decide +kernel⟩
abbrev s_due : Stmt := top 16
theorem sc_due : FnScope ["program", "place"] ["program", "place"] (defScope s_due) := ⟨rfl, rfl, rfl, by decide +kernel, rfl, by decide +kernel, by decide +kernel⟩
abbrev s_fitted : Stmt := top 19
theorem sc_fitted : FnScope ["left", "right", "program", "reason", "number", "deed"] ["left", "right"] (defScope s_fitted) := ⟨rfl, rfl, rfl, by decide +kernel, rfl, by decide +kernel, by decide +kernel⟩
abbrev s_shows : Stmt := top 20
theorem sc_shows : FnScope ["left", "right", "reason", "least", "ahead", "beat", "number"] ["left", "right", "reason"] (defScope s_shows) := ⟨rfl, rfl, rfl, by decide +kernel, rfl, by decide +kernel, by decide +kernel⟩
abbrev s_law_mix : Stmt := top 22
theorem sc_law_mix : FnScope ["_law_script", "_law_seed", "_law_mixed", "_law_cell"] ["_law_script", "_law_seed"] (defScope s_law_mix) := ⟨rfl, rfl, rfl, by decide +kernel, rfl, by decide +kernel, by decide +kernel⟩
abbrev s_law_next : Stmt := top 23
theorem sc_law_next : FnScope ["_law_h", "_law_many", "_law_at_here", "_law_cell"] ["_law_h", "_law_many"] (defScope s_law_next) := ⟨rfl, rfl, rfl, by decide +kernel, rfl, by decide +kernel, by decide +kernel⟩
abbrev s_law_alike : Stmt := top 24
theorem sc_law_alike : FnScope ["_law_found", "_law_due", "_law_k"] ["_law_found", "_law_due"] (defScope s_law_alike) := ⟨rfl, rfl, rfl, by decide +kernel, rfl, by decide +kernel, by decide +kernel⟩
abbrev s_law_deed : Stmt := top 25
theorem sc_law_deed : FnScope ["_law_h", "_law_cells", "_law_cell"] ["_law_h", "_law_cells"] (defScope s_law_deed) := ⟨rfl, rfl, rfl, by decide +kernel, rfl, by decide +kernel, by decide +kernel⟩
abbrev s_law_program : Stmt := top 26
theorem sc_law_program : FnScope ["_law_h", "_law_cells", "_law_most", "_law_k"] ["_law_h", "_law_cells", "_law_most"] (defScope s_law_program) := ⟨rfl, rfl, rfl, by decide +kernel, rfl, by decide +kernel, by decide +kernel⟩
abbrev s_law_meet : Stmt := top 27
theorem sc_law_meet : FnScope ["_law_one", "_law_other", "_law_some", "_law_deed_here"] ["_law_one", "_law_other"] (defScope s_law_meet) := ⟨rfl, rfl, rfl, by decide +kernel, rfl, by decide +kernel, by decide +kernel⟩
abbrev s_law_at : Stmt := top 28
theorem sc_law_at : FnScope ["_law_program_here", "_law_beat"] ["_law_program_here", "_law_beat"] (defScope s_law_at) := ⟨rfl, rfl, rfl, by decide +kernel, rfl, by decide +kernel, by decide +kernel⟩
abbrev s_law_shows : Stmt := top 29
theorem sc_law_shows : FnScope ["_law_left", "_law_right", "_law_reason", "_law_k", "_law_beat", "_law_number"] ["_law_left", "_law_right", "_law_reason"] (defScope s_law_shows) := ⟨rfl, rfl, rfl, by decide +kernel, rfl, by decide +kernel, by decide +kernel⟩
abbrev s_law_any : Stmt := top 30
theorem sc_law_any : FnScope ["_law_h", "_law_left", "_law_right", "_law_found", "_law_number"] ["_law_h", "_law_left", "_law_right"] (defScope s_law_any) := ⟨rfl, rfl, rfl, by decide +kernel, rfl, by decide +kernel, by decide +kernel⟩
abbrev s_law_turned : Stmt := top 31
theorem sc_law_turned : FnScope ["_law_h", "_law_reason", "_law_k", "_law_beat", "_law_number", "_law_turn", "_law_far", "_law_new"] ["_law_h", "_law_reason"] (defScope s_law_turned) := ⟨rfl, rfl, rfl, by decide +kernel, rfl, by decide +kernel, by decide +kernel⟩
abbrev s_law : Stmt := top 32
theorem sc_law : FnScope ["_law_script", "_law_h", "_law_turn", "_law_cells", "_law_left", "_law_right", "_law_least", "_law_again", "_law_reason", "_law_change", "_law_handed", "_law_due"] ["_law_script"] (defScope s_law) := ⟨rfl, rfl, rfl, by decide +kernel, rfl, by decide +kernel, by decide +kernel⟩
local macro_rules | `(tactic| walk_at "sq") => `(tactic| first | assumption | exact SqL.of (by assumption) | exact SqT.of (by assumption))
local macro_rules | `(tactic| walk_at "at") => `(tactic| first | assumption | exact rfl | exact atI_nat (by assumption))
local macro_rules | `(tactic| walk_at "ea") => `(tactic| first
  | (with_reducible exact ea_nil)
  | ((with_reducible apply ea_cons); (· walk_at "ev"); (· walk_at "ea"))
  | assumption)
local macro_rules | `(tactic| walk_at "rc") => `(tactic| first
  | assumption
  | ((apply rc_lenL); (· walk_at "sq"))
  | ((apply rc_lenT); (· walk_at "sq"))
  | ((with_reducible apply rc_isiB); (· first | exact tys_int | exact tys_str | exact tys_bl | exact tys_non | exact tys_tup (by walk_at "sq") | exact tys_lst (by walk_at "sq") | assumption); (· decide +kernel))
  | (exact rc_max))
local macro_rules | `(tactic| walk_at "rv") => `(tactic| first
  | assumption
  | (with_reducible exact rv_I0)
  | ((with_reducible apply rv_eq); (· exact rfl))
  | ((with_reducible apply rv_ne); (· exact rfl))
  | ((with_reducible apply rv_ixT); (· walk_at "sq"); (· walk_at "at"))
  | ((with_reducible apply rv_ixL); (· walk_at "sq"); (· walk_at "at"))
  | ((with_reducible apply rv_I); (· first | assumption | decide | omega | exact Or.inr ⟨by decide, by decide⟩ | exact Or.inl ⟨by decide, by decide⟩ | exact ⟨by decide, by decide, by decide⟩ | exact ⟨by omega, by omega⟩ | exact Or.inl ⟨by omega, by omega⟩ | exact Or.inr ⟨by omega, by omega⟩)))
local macro_rules | `(tactic| walk_at "ev") => `(tactic| first
  | (with_reducible exact ev_c)
  | ((with_reducible apply ev_var); (· exact rfl))
  | assumption
  | ((with_reducible apply ev_op); (· walk_at "ev"); (· walk_at "ev"); (· walk_at "rv"))
  | ((with_reducible apply ev_cb); (· walk_at "ea"); (· walk_at "rc"))
  | ((with_reducible apply ev_call); (· walk_at "ea"); (· assumption))
  | exact ev_c)

section
variable {P : Program} {w : World} {K : PySem.W.Frag} {mg : Str → Option Value} {base : Heap}
def sp_is_whole : Sp := spF 1 fun vs _ v => ∃ i : Int, vs = [.int i] ∧ v = .bl true
theorem sp_is_whole_v {H : Hp} {i : Int} : SpV sp_is_whole [.int i] H (.bl true) := spF_v rfl fun _ _ => ⟨i, rfl, rfl⟩
theorem d_is_whole (T : Nb mg) (h : Has K mg "is_whole" s_is_whole) : Dn P w K mg base CX0 "is_whole" ["value"] 1 sp_is_whole := by
  refine dn_of h (fun f fd F => F.binds fun _ _ _ _ _ _ us hl => match us, hl with | [_], _ => rfl) fun f fd F _ => F.ok sc_is_whole (fun vs H Q E h => h.1) (fun cdv A outer s H vs Q E hr h => ?_)
  obtain ⟨_, v, ⟨i, rfl, rfl⟩, k⟩ := h
  refine ⟨_, (pss_one (ps_ret (pe_and (pe_callB (call_isiK2 K) (by rfl) T.n_isinstance PyProof.Rows.boot_isinstance (pa_cons (pv 0) (pa_cons (pe_bltn (v := .ty "int") rfl T.n_int PyProof.Rows.boot_int rfl) pa_nil))) (pe_one (pe_not (pe_callB (call_isiK2 K) (by rfl) T.n_isinstance PyProof.Rows.boot_isinstance (pa_cons (pv 0) (pa_cons (pe_bltn (v := .ty "bool") rfl T.n_bool PyProof.Rows.boot_bool rfl) pa_nil)))))))), ?_⟩
  exact s_ret (v := .bl true) (ev_is (ev_andV (a := true) (b := true) (by walk_at "ev") (fun _ => ev_is (ev_notV (a := false) (by walk_at "ev")) rfl)) rfl) fun H1 f1 => k H1 f1

def sp_is_cell : Sp := spF 2 fun vs _ v => ∃ i n : Int, vs = [.int i, .int n] ∧ v = .bl (decide (0 ≤ i ∧ i < n))
theorem sp_is_cell_v {H : Hp} {i n : Int} : SpV sp_is_cell [.int i, .int n] H (.bl (decide (0 ≤ i ∧ i < n))) := spF_v rfl fun _ _ => ⟨i, n, rfl, rfl⟩
theorem d_is_cell (D_is_whole : Dn P w K mg base CX0 "is_whole" ["value"] 1 sp_is_whole) (h : Has K mg "is_cell" s_is_cell) : Dn P w K mg base CX0 "is_cell" ["value", "cells"] 2 sp_is_cell := by
  refine dn_of h (fun f fd F => F.binds fun _ _ _ _ _ _ us hl => match us, hl with | [_, _], _ => rfl) fun f fd F _ => F.ok sc_is_cell (fun vs H Q E h => h.1) (fun cdv A outer s H vs Q E hr h => ?_)
  obtain ⟨_, v, ⟨i, n, rfl, rfl⟩, k⟩ := h
  refine ⟨_, (pss_one (ps_ret (pe_and (pe_dn D_is_whole hr (by omega) pass0 (pa_cons (pv 0) pa_nil)) (pe_one (pe_chain op_le op_lt pe_int (pv 0) (pv 1)))))), ?_⟩
  have c := @sp_is_whole_v H i
  exact s_ret (v := .bl (decide (0 ≤ i ∧ i < n))) (ev_is (ev_andV (a := true) (b := decide (0 ≤ i) && decide (i < n)) (by walk_at "ev") (fun _ => ev_chain (by walk_at "ev") (by walk_at "ev") rv_I0 (fun _ => by walk_at "ev") (fun _ => rv_I0))) (by rw [Bool.true_and, ← Bool.decide_and])) fun H1 f1 => k H1 f1

def sp_is_worth : Sp := spF 1 fun vs _ v => ∃ i : Int, vs = [.int i] ∧ v = .bl (decide (0 ≤ i ∧ i < 3))
theorem sp_is_worth_v {H : Hp} {i : Int} : SpV sp_is_worth [.int i] H (.bl (decide (0 ≤ i ∧ i < 3))) := spF_v rfl fun _ _ => ⟨i, rfl, rfl⟩
theorem d_is_worth {aREST aWORTHS : Addr} {t4 t40 : Tok} (G : TxP K mg aREST aWORTHS t4 t40) (D_is_whole : Dn P w K mg base CX0 "is_whole" ["value"] 1 sp_is_whole) (h : Has K mg "is_worth" s_is_worth) : Dn P w K mg base CX0 "is_worth" ["value"] 2 sp_is_worth := by
  refine dn_of h (fun f fd F => F.binds fun _ _ _ _ _ _ us hl => match us, hl with | [_], _ => rfl) fun f fd F _ => F.ok sc_is_worth (fun vs H Q E h => h.1) (fun cdv A outer s H vs Q E hr h => ?_)
  obtain ⟨_, v, ⟨i, rfl, rfl⟩, k⟩ := h
  refine ⟨_, (pss_one (ps_ret (pe_and (pe_dn D_is_whole hr (by omega) pass0 (pa_cons (pv 0) pa_nil)) (pe_one (pe_cmpR (op_in_seqK K) (pv 0) (pe_glob (v := .ref aWORTHS) rfl G.g_WORTHS rfl) (by rfl)))))), ?_⟩
  have c := @sp_is_whole_v H i
  exact s_ret (v := .bl (decide (0 ≤ i ∧ i < 3))) (ev_is (ev_andV (a := true) (b := inV (.int i) [.int 0, .int 1, .int 2]) (by walk_at "ev") (fun _ => ev_op (by walk_at "ev") (by walk_at "ev") (rv_isT (G.WORTHS H) rfl rfl))) (by rw [Bool.true_and, in_worths])) fun H1 f1 => k H1 f1

def sp_is_deed (K : PySem.W.Frag) : Sp := spF 2 fun vs H v => ∃ (a : V) (d : Deed) (n : Nat), vs = [a, .int n] ∧ DV K H a d ∧ d.ok n ∧ v = .bl true
theorem sp_is_deed_v {H : Hp} {a : V} {d : Deed} {n : Nat} (h : DV K H a d) (ho : d.ok n) : SpV (sp_is_deed K) [a, .int n] H (.bl true) := spF_v rfl fun _ f => ⟨a, d, n, rfl, h.mono f, ho, rfl⟩
theorem d_is_deed {aREST aWORTHS : Addr} {t4 t40 : Tok} (T : Nb mg) (G : TxP K mg aREST aWORTHS t4 t40) (D_is_cell : Dn P w K mg base CX0 "is_cell" ["value", "cells"] 2 sp_is_cell) (D_is_worth : Dn P w K mg base CX0 "is_worth" ["value"] 2 sp_is_worth)
    (h : Has K mg "is_deed" s_is_deed) : Dn P w K mg base CX0 "is_deed" ["deed", "cells"] 3 (sp_is_deed K) := by
  refine dn_of h (fun f fd F => F.binds fun _ _ _ _ _ _ us hl => match us, hl with | [_, _], _ => rfl) fun f fd F _ => F.ok sc_is_deed (fun vs H Q E h => h.1) (fun cdv A outer s H vs Q E hr h => ?_)
  obtain ⟨_, v, ⟨_, d, n, rfl, ⟨a, rfl, h1⟩, ho, rfl⟩, k⟩ := h
  refine ⟨_, (pss_cons (ps_if (PW.pt (pw_or (pt_not (pt_val (pe_callB (call_isiK2 K) (by rfl) T.n_isinstance PyProof.Rows.boot_isinstance (pa_cons (pv 0) (pa_cons (pe_bltn (v := .ty "tuple") rfl T.n_tuple PyProof.Rows.boot_tuple rfl) pa_nil))))) (pw_or1 (pt_cmpR op_eq (pe_callB (call_len_seqK K) (by rfl) T.n_len PySem.boot_len (pa_cons (pv 0) pa_nil)) pe_int (nomark _))))) (pss_one (ps_ret pe_bl)) pss_nil)
    (pss_cons (ps_if (pt_cmpR op_eq (pe_ix (ix_tupK K) (pv 0) pe_int (fun _ _ => rfl)) pe_str (nomark _)) (pss_one (ps_ret (pe_and (pe_cmpR op_eq (pe_callB (call_len_seqK K) (by rfl) T.n_len PySem.boot_len (pa_cons (pv 0) pa_nil)) pe_int (nomark _)) (pe_one (pe_dn D_is_cell hr (by omega) pass0 (pa_cons (pe_ix (ix_tupK K) (pv 0) pe_int (fun _ _ => rfl)) (pa_cons (pv 1) pa_nil))))))) pss_nil)
    (pss_cons (ps_if (pt_cmpR op_eq (pe_ix (ix_tupK K) (pv 0) pe_int (fun _ _ => rfl)) pe_str (nomark _)) (pss_one (ps_ret (pe_and (pe_cmpR op_eq (pe_callB (call_len_seqK K) (by rfl) T.n_len PySem.boot_len (pa_cons (pv 0) pa_nil)) pe_int (nomark _)) (pe_and (pe_dn D_is_cell hr (by omega) pass0 (pa_cons (pe_ix (ix_tupK K) (pv 0) pe_int (fun _ _ => rfl)) (pa_cons (pv 1) pa_nil))) (pe_one (pe_dn D_is_worth hr (by omega) pass0 (pa_cons (pe_ix (ix_tupK K) (pv 0) pe_int (fun _ _ => rfl)) pa_nil))))))) pss_nil)
    (pss_one (ps_ret (pe_cmpR (op_eqDK K rfl hr.units) (pv 0) (pe_glob (v := .ref aREST) rfl G.g_REST rfl) (nomark _))))))), ?_⟩
  have hlen : d.vals.length ≠ 0 := by cases d <;> simp [Deed.vals]
  refine q_when (b := false) (et_is (et_or (a := false) (b := decide (V.int (d.vals.length : Int) = V.int 0)) (et_not (a := true) (et_B (by walk_at "ev"))) (fun _ => et_test (ev_op (by walk_at "ev") (by walk_at "ev") (rv_eq rfl))))
    (by rw [Bool.false_or]; exact decide_eq_false fun z => hlen (by have := V.int.inj z; omega))) (fun z => nomatch z) (fun _ H1 f1 => ?_)
  have g1 := ex_t f1 h1
  refine q_when (b := decide (V.str d.tag = V.str "read")) (et_test (ev_op (ev_op (by walk_at "ev") (by walk_at "ev") (DV.tag g1)) (by walk_at "ev") (rv_eq rfl))) (fun hb H2 f2 => ?_) (fun hb H2 f2 => ?_)
  · cases d with
    | wr c w => exact absurd hb (by show ¬ decide (V.str "write" = V.str "read") = true; decide +kernel)
    | rs => exact absurd hb (by show ¬ decide (V.str "rest" = V.str "read") = true; decide +kernel)
    | rd c =>
      have g2 := ex_t f2 g1
      have hc : c < n := ho
      have q := @sp_is_cell_v H2 c n
      exact s_ret (v := .bl true) (ev_is (ev_andV (a := true) (b := decide (0 ≤ (c : Int) ∧ (c : Int) < (n : Int))) (ev_is (ev_op (ev_cb (by walk_at "ea") (rc_lenT g2)) (by walk_at "ev") (rv_eq rfl)) rfl) (fun _ => ev_call (ea_cons (ev_op (by walk_at "ev") (by walk_at "ev") (rv_ixT g2 rfl)) (ea_cons (by walk_at "ev") ea_nil)) q))
        (by rw [decide_eq_true (show 0 ≤ (c : Int) ∧ (c : Int) < (n : Int) by omega)]; rfl)) fun H3 f3 => k H3 ((f1.trans f2).trans f3)
  · have g2 := ex_t f2 g1
    refine q_when (b := decide (V.str d.tag = V.str "write")) (et_test (ev_op (ev_op (by walk_at "ev") (by walk_at "ev") (DV.tag g2)) (by walk_at "ev") (rv_eq rfl))) (fun hb2 H3 f3 => ?_) (fun hb2 H3 f3 => ?_)
    · cases d with
      | rd c => exact absurd hb (by show ¬ decide (V.str "read" = V.str "read") = false; decide +kernel)
      | rs => exact absurd hb2 (by show ¬ decide (V.str "rest" = V.str "write") = true; decide +kernel)
      | wr c w =>
        have g3 := ex_t f3 g2
        obtain ⟨hc, hw⟩ : c < n ∧ w < 3 := ho
        have q := @sp_is_cell_v H3 c n
        have q2 := @sp_is_worth_v H3 w
        exact s_ret (v := .bl true) (ev_is (ev_andV (a := true) (b := decide (0 ≤ (c : Int) ∧ (c : Int) < (n : Int)) && decide (0 ≤ (w : Int) ∧ (w : Int) < 3)) (ev_is (ev_op (ev_cb (by walk_at "ea") (rc_lenT g3)) (by walk_at "ev") (rv_eq rfl)) rfl) (fun _ => ev_andV (ev_call (ea_cons (ev_op (by walk_at "ev") (by walk_at "ev") (rv_ixT g3 rfl)) (ea_cons (by walk_at "ev") ea_nil)) q) (fun _ => ev_call (ea_cons (ev_op (by walk_at "ev") (by walk_at "ev") (rv_ixT g3 rfl)) ea_nil) q2)))
          (by rw [decide_eq_true (show 0 ≤ (c : Int) ∧ (c : Int) < (n : Int) by omega), decide_eq_true (show 0 ≤ (w : Int) ∧ (w : Int) < 3 by omega)]; rfl)) fun H4 f4 => k H4 (((f1.trans f2).trans f3).trans f4)
    · cases d with
      | rd c => exact absurd hb (by show ¬ decide (V.str "read" = V.str "read") = false; decide +kernel)
      | wr c w => exact absurd hb2 (by show ¬ decide (V.str "write" = V.str "write") = false; decide +kernel)
      | rs =>
        have g3 := ex_t f3 g2
        exact s_ret (v := .bl true) (ev_is (ev_op (by walk_at "ev") (by walk_at "ev") (rv_eqD (n := 1) (m := 1) (DV.dp ⟨a, rfl, g3⟩) (DV.dp (d := .rs) ⟨_, rfl, G.REST _⟩) (Deed.sh _) (Deed.sh _) (by decide) (by decide))) (by rw [Deed.eqv_rs]; rfl)) fun H4 f4 => k H4 (((f1.trans f2).trans f3).trans f4)

def sp_check_program (K : PySem.W.Frag) : Sp := spF 4 fun vs H v => ∃ (door : V) (p : Addr) (n m : Nat) (us : List V) (ds : List Deed), vs = [door, .ref p, .int n, .int m] ∧ SqL K H p us ∧ PV K H us ds ∧ ds.length ≤ m ∧ (∀ d ∈ ds, d.ok n) ∧ v = .non
theorem sp_check_program_v {H : Hp} {door : V} {p : Addr} {n m : Nat} {us : List V} {ds : List Deed} (h1 : SqL K H p us) (h2 : PV K H us ds) (h3 : ds.length ≤ m) (h4 : ∀ d ∈ ds, d.ok n) : SpV (sp_check_program K) [door, .ref p, .int n, .int m] H .non :=
  spF_v rfl fun _ f => ⟨door, p, n, m, us, ds, rfl, ex_l f h1, h2.mono f, h3, h4, rfl⟩
theorem d_check_program {aREST aWORTHS : Addr} {t4 t40 : Tok} (T : Nb mg) (G : TxP K mg aREST aWORTHS t4 t40) (D_is_deed : Dn P w K mg base CX0 "is_deed" ["deed", "cells"] 3 (sp_is_deed K)) (h : Has K mg "check_program" s_check_program) :
    Dn P w K mg base CX0 "check_program" ["door", "program", "cells", "most"] 4 (sp_check_program K) := by
  refine dn_of h (fun f fd F => F.binds fun _ _ _ _ _ _ us hl => match us, hl with | [_, _, _, _], _ => rfl) fun f fd F _ => F.ok sc_check_program (fun vs H Q E h => h.1) (fun cdv A outer s H vs Q E hr h => ?_)
  obtain ⟨_, v, ⟨door, p, n, m, us, ds, rfl, h1, h2, h3, h4, rfl⟩, k⟩ := h
  refine ⟨_, (pss_cons (ps_if (pt_not (pt_val (pe_callB (call_isiK2 K) (by rfl) T.n_isinstance PyProof.Rows.boot_isinstance (pa_cons (pv 1) (pa_cons (pe_bltn (v := .ty "list") rfl T.n_list PyProof.Rows.boot_list rfl) pa_nil))))) pss_never pss_nil)
    (pss_one (ps_for PassesOwn.never rfl (pi_enum (by rfl) T.n_enumerate (pa_cons (pv 1) pa_nil)) (pg_tup rfl (pgs_cons (pg_name (i := 4) sc_check_program.nd rfl (Or.inl rfl)) (pgs_cons (pg_name (i := 5) sc_check_program.nd rfl (Or.inl rfl)) pgs_nil)))
      (pss_one (ps_if (PW.pt (pw_or (pt_cmpR op_eq (pv 4) (pv 3) (nomark _)) (pw_or1 (pt_not (pt_val (pe_dn D_is_deed hr (by omega) pass0 (pa_cons (pv 5) (pa_cons (pv 2) pa_nil)))))))) pss_never pss_nil))))), ?_⟩
  refine q_when (b := false) (et_is (et_not (a := true) (et_B (by walk_at "ev"))) rfl) (fun z => nomatch z) (fun _ H1 f1 => ?_)
  have g1 := ex_l f1 h1
  refine ⟨_, rfl, p, us, rfl, g1, for_it walk_enum (fun _ σ' H' => ∃ v w, σ' = [some door, some (.ref p), some (.int n), some (.int m), v, w] ∧ Ex H H') ⟨none, none, rfl, f1⟩ (fun i σ' H' _ ⟨_, _, _, e⟩ => ex_l e h1) ?_ ?_⟩
  · rintro i x σ' H' H2 hi ⟨v, w, rfl, e⟩ ⟨q, a, b, rfl, hq, rfl, ha, hb⟩
    cases ha
    obtain ⟨d, hd, dv⟩ := h2.get hb
    have e2 := e.trans (Ex.new (o := .tup [.int (i : Int), b]) hq)
    refine ⟨q, _, rfl, SqT.of upd_same, rfl, _, _, rfl, _, _, rfl, rfl, ?_⟩
    have c := sp_is_deed_v (dv.mono e2) (h4 d (List.mem_of_getElem? hd))
    refine s_when (b := false) (et_is (et_or (a := false) (b := false) (et_is (et_test (ev_op (ev_var (v := .int (i : Int)) rfl) (ev_var (v := .int (m : Int)) rfl) (rv_eq rfl))) (decide_eq_false fun z => ?_)) (fun _ => et_is (et_not (et_B (ev_call (ea_cons (ev_var (v := b) rfl) (ea_cons (by walk_at "ev") ea_nil)) c))) rfl)) rfl) (fun z => nomatch z) (fun _ H3 f3 => ⟨_, _, rfl, e2.trans f3⟩)
    have := V.int.inj z
    have := h2.length
    omega
  · rintro σ' H' ⟨v, w, rfl, e⟩
    exact k H' e

def sp_check_programs (K : PySem.W.Frag) : Sp := spF 4 fun vs H v => ∃ (p q : Addr) (n m : Nat) (us ws : List V) (ds es : List Deed), vs = [.ref p, .ref q, .int n, .int m] ∧ SqL K H p us ∧ PV K H us ds ∧ ds.length ≤ m ∧ (∀ d ∈ ds, d.ok n) ∧
  SqL K H q ws ∧ PV K H ws es ∧ es.length ≤ m ∧ (∀ d ∈ es, d.ok n) ∧ v = .non
theorem sp_check_programs_v {H : Hp} {p q : Addr} {n m : Nat} {us ws : List V} {ds es : List Deed} (h1 : SqL K H p us) (h2 : PV K H us ds) (h3 : ds.length ≤ m) (h4 : ∀ d ∈ ds, d.ok n) (h5 : SqL K H q ws) (h6 : PV K H ws es) (h7 : es.length ≤ m) (h8 : ∀ d ∈ es, d.ok n) :
    SpV (sp_check_programs K) [.ref p, .ref q, .int n, .int m] H .non := spF_v rfl fun _ f => ⟨p, q, n, m, us, ws, ds, es, rfl, ex_l f h1, h2.mono f, h3, h4, ex_l f h5, h6.mono f, h7, h8, rfl⟩
theorem o_check_programs (D_check_program : Dn P w K mg base CX0 "check_program" ["door", "program", "cells", "most"] 4 (sp_check_program K)) {f : Addr} {fd : FuncData} (F : FunD K "check_programs" "check_programs" (defArgs s_check_programs) (defBody s_check_programs) (defScope s_check_programs) [.int 40] [] f fd) :
    FnOk P w K mg base CX0 5 f fd ["left", "right", "cells", "most"] (sp_check_programs K) := by
  refine FunD.ok0 F sc_check_programs (fun vs H Q E h => h.1) (fun cdv A outer s H vs Q E hr h => ?_)
  obtain ⟨_, v, ⟨p, q, n, m, us, ws, ds, es, rfl, h1, h2, h3, h4, h5, h6, h7, h8, rfl⟩, k⟩ := h
  refine ⟨_, (pss_cons (ps_expr (pe_dn D_check_program hr (by omega) pass0 (pa_cons pe_int (pa_cons (pv 0) (pa_cons (pv 2) (pa_cons (pv 3) pa_nil))))))
    (pss_one (ps_expr (pe_dn D_check_program hr (by omega) pass0 (pa_cons pe_int (pa_cons (pv 1) (pa_cons (pv 2) (pa_cons (pv 3) pa_nil)))))))), ?_⟩
  have c := sp_check_program_v (door := .int 0) h1 h2 h3 h4
  refine q_drop (v := .non) (by walk_at "ev") fun H1 f1 => ?_
  have c := sp_check_program_v (door := .int 1) (ex_l f1 h5) (h6.mono f1) h7 h8
  exact s_drop (v := .non) (by walk_at "ev") fun H2 f2 => k H2 (f1.trans f2)
/-- with at most forty deeds, not written -/
theorem d_check_programs (D_check_program : Dn P w K mg base CX0 "check_program" ["door", "program", "cells", "most"] 4 (sp_check_program K)) (h : HasD K mg "check_programs" s_check_programs [.int 40]) : Dq P w K mg base CX0 "check_programs" ["left", "right", "cells", "most"] [.int 40] 5 (sp_check_programs K) :=
  dq_of (dvs := [.int 40]) 3 0 h (by simp) rfl (fun T kV doc pm an cdv ct us its h1 h2 => match us, h1, its, h2 with | [_, _, _], _, [_], _ => ⟨_, rfl, rfl⟩) fun f fd F => o_check_programs D_check_program F
/-- with so many deeds, written -/
theorem d_check_programs4 (D_check_program : Dn P w K mg base CX0 "check_program" ["door", "program", "cells", "most"] 4 (sp_check_program K)) (h : HasD K mg "check_programs" s_check_programs [.int 40]) : Dq P w K mg base CX0 "check_programs" ["left", "right", "cells", "most"] [] 5 (sp_check_programs K) :=
  dq_of (dvs := [.int 40]) 4 1 h (by simp) rfl (fun T kV doc pm an cdv ct us its h1 h2 => match us, h1, its, h2 with | [_, _, _, _], _, [_], _ => ⟨_, rfl, rfl⟩) fun f fd F => o_check_programs D_check_program F

def sp_clash (K : PySem.W.Frag) : Sp := spF 2 fun vs H v => ∃ a b d e, vs = [a, b] ∧ DV K H a d ∧ DV K H b e ∧ v = .bl (clashD d e)
theorem sp_clash_v {H : Hp} {a b : V} {d e : Deed} (h1 : DV K H a d) (h2 : DV K H b e) : SpV (sp_clash K) [a, b] H (.bl (clashD d e)) := spF_v rfl fun _ f => ⟨a, b, d, e, rfl, h1.mono f, h2.mono f, rfl⟩
theorem d_clash {aREST aWORTHS : Addr} {t4 t40 : Tok} (G : TxP K mg aREST aWORTHS t4 t40) (h : Has K mg "clash" s_clash) : Dn P w K mg base CX0 "clash" ["deed", "other"] 1 (sp_clash K) := by
  refine dn_of h (fun f fd F => F.binds fun _ _ _ _ _ _ us hl => match us, hl with | [_, _], _ => rfl) fun f fd F _ => F.ok sc_clash (fun vs H Q E h => h.1) (fun cdv A outer s H vs Q E hr h => ?_)
  obtain ⟨_, v, ⟨_, _, d, e, rfl, ⟨a, rfl, h1⟩, ⟨b, rfl, h2⟩, rfl⟩, k⟩ := h
  refine ⟨_, (pss_cons (ps_if (PW.pt (pw_or (pt_cmpR (op_eqDK K rfl hr.units) (pv 0) (pe_glob (v := .ref aREST) rfl G.g_REST rfl) (nomark _)) (pw_or1 (pt_cmpR (op_eqDK K rfl hr.units) (pv 1) (pe_glob (v := .ref aREST) rfl G.g_REST rfl) (nomark _))))) (pss_one (ps_ret pe_bl)) pss_nil)
    (pss_one (ps_ret (pe_and (pe_cmpR op_eq (pe_ix (ix_tupK K) (pv 0) pe_int (fun _ _ => rfl)) (pe_ix (ix_tupK K) (pv 1) pe_int (fun _ _ => rfl)) (nomark _)) (pe_one (pe_or (pe_cmpR op_eq (pe_ix (ix_tupK K) (pv 0) pe_int (fun _ _ => rfl)) pe_str (nomark _)) (pe_one (pe_cmpR op_eq (pe_ix (ix_tupK K) (pv 1) pe_int (fun _ _ => rfl)) pe_str (nomark _))))))))), ?_⟩
  refine q_when (b := decide (d = .rs) || decide (e = .rs)) (et_or (et_is (et_test (ev_op (by walk_at "ev") (by walk_at "ev") (rv_eqD (n := 1) (m := 1) (DV.dp ⟨a, rfl, h1⟩) (DV.dp (d := .rs) ⟨_, rfl, G.REST _⟩) (Deed.sh _) (Deed.sh _) (by decide) (by decide)))) (Deed.eqv_rs d))
    (fun _ => et_is (et_test (ev_op (by walk_at "ev") (by walk_at "ev") (rv_eqD (n := 1) (m := 1) (DV.dp ⟨b, rfl, h2⟩) (DV.dp (d := .rs) ⟨_, rfl, G.REST _⟩) (Deed.sh _) (Deed.sh _) (by decide) (by decide)))) (Deed.eqv_rs e))) (fun hb H1 f1 => ?_) (fun hb H1 f1 => ?_)
  · have hc : clashD d e = false := by
      cases d <;> cases e <;> first | rfl | (simp at hb)
    exact s_ret (v := .bl (clashD d e)) (by rw [hc]; exact ev_c) fun H2 f2 => k H2 (f1.trans f2)
  · obtain ⟨hd, he⟩ : d ≠ .rs ∧ e ≠ .rs := by
      rw [Bool.or_eq_false_iff] at hb
      exact ⟨of_decide_eq_false hb.1, of_decide_eq_false hb.2⟩
    have g1 := ex_t f1 h1
    have g2 := ex_t f1 h2
    obtain ⟨c1, hc1⟩ : ∃ c, d.cell = some c := by cases d <;> first | exact ⟨_, rfl⟩ | exact absurd rfl hd
    obtain ⟨c2, hc2⟩ : ∃ c, e.cell = some c := by cases e <;> first | exact ⟨_, rfl⟩ | exact absurd rfl he
    have i1 : atI d.vals 1 = some (.int (c1 : Int)) := by cases d <;> cases hc1 <;> rfl
    have i2 : atI e.vals 1 = some (.int (c2 : Int)) := by cases e <;> cases hc2 <;> rfl
    have i4 : clashD d e = (decide (c1 = c2) && (d.isW || e.isW)) := by unfold clashD; rw [hc1, hc2]
    have w1 : decide (V.str d.tag = V.str "write") = d.isW := by
      cases d with
      | rs => exact absurd rfl hd
      | rd c => show decide (V.str "read" = V.str "write") = false; decide +kernel
      | wr c w => show decide (V.str "write" = V.str "write") = true; decide +kernel
    have w2 : decide (V.str e.tag = V.str "write") = e.isW := by
      cases e with
      | rs => exact absurd rfl he
      | rd c => show decide (V.str "read" = V.str "write") = false; decide +kernel
      | wr c w => show decide (V.str "write" = V.str "write") = true; decide +kernel
    have q : decide (V.int (c1 : Int) = V.int (c2 : Int)) = decide (c1 = c2) := decide_eq_decide.mpr ⟨fun z => by have := V.int.inj z; omega, fun z => by rw [z]⟩
    exact s_ret (v := .bl (clashD d e)) (ev_is (ev_andV (a := decide (V.int (c1 : Int) = V.int (c2 : Int))) (b := decide (V.str d.tag = V.str "write") || decide (V.str e.tag = V.str "write")) (ev_op (ev_op (by walk_at "ev") (by walk_at "ev") (rv_ixT g1 i1)) (ev_op (by walk_at "ev") (by walk_at "ev") (rv_ixT g2 i2)) (rv_eq rfl))
      (fun _ => ev_orV (ev_op (ev_op (by walk_at "ev") (by walk_at "ev") (DV.tag g1)) (by walk_at "ev") (rv_eq rfl)) (fun _ => ev_op (ev_op (by walk_at "ev") (by walk_at "ev") (DV.tag g2)) (by walk_at "ev") (rv_eq rfl)))) (by rw [i4, w1, w2, q])) fun H2 f2 => k H2 (f1.trans f2)

def sp_due (K : PySem.W.Frag) : Sp := fun vs H Q _ => ∃ (p : Addr) (us : List V) (ds : List Deed) (i : Nat), vs = [.ref p, .int i] ∧ SqL K H p us ∧ PV K H us ds ∧ ∀ (v : V) (H' : Hp), Ex H H' → DV K H' v (ds.getD i .rs) → Q v H'
theorem d_due {aREST aWORTHS : Addr} {t4 t40 : Tok} (T : Nb mg) (G : TxP K mg aREST aWORTHS t4 t40) (h : Has K mg "due" s_due) : Dn P w K mg base CX0 "due" ["program", "place"] 1 (sp_due K) := by
  refine dn_of h (fun f fd F => F.binds fun _ _ _ _ _ _ us hl => match us, hl with | [_, _], _ => rfl) fun f fd F _ => F.ok sc_due (fun vs H Q E h => ?_) (fun cdv A outer s H vs Q E hr h => ?_)
  · obtain ⟨_, _, _, _, rfl, _⟩ := h
    rfl
  obtain ⟨p, us, ds, i, rfl, h1, h2, k⟩ := h
  refine ⟨_, (pss_cons (ps_if (pt_cmpR op_lt (pv 1) (pe_callB (call_len_seqK K) (by rfl) T.n_len PySem.boot_len (pa_cons (pv 0) pa_nil)) (nomark _)) (pss_one (ps_ret (pe_ix (ix_listK K) (pv 0) (pv 1) (fun _ _ => rfl)))) pss_nil)
    (pss_one (ps_ret (pe_glob (v := .ref aREST) rfl G.g_REST rfl)))), ?_⟩
  have hl := h2.length
  refine q_when (b := decide ((i : Int) < (us.length : Int))) (et_test (by walk_at "ev")) (fun hb H1 f1 => ?_) (fun hb H1 f1 => ?_)
  · have hi : i < us.length := by have := of_decide_eq_true hb; omega
    obtain ⟨d, hd, dv⟩ := h2.get (List.getElem?_eq_getElem hi)
    refine s_ret (v := us[i]) (ev_op (by walk_at "ev") (by walk_at "ev") (rv_ixL (ex_l f1 h1) (atI_nat (List.getElem?_eq_getElem hi)))) fun H2 f2 => k _ H2 (f1.trans f2) ?_
    rw [List.getD_eq_getElem?_getD, hd]
    exact dv.mono (f1.trans f2)
  · have hi : ¬ i < us.length := by have := of_decide_eq_false hb; omega
    refine s_ret (v := .ref aREST) (by walk_at "ev") fun H2 f2 => k _ H2 (f1.trans f2) ?_
    rw [List.getD_eq_getElem?_getD, List.getElem?_eq_none_iff.mpr (by omega)]
    exact ⟨aREST, rfl, G.REST _⟩

def sp_fitted (K : PySem.W.Frag) : Sp := fun vs H Q _ => ∃ (p q : Addr) (us xs : List V) (ds es : List Deed), vs = [.ref p, .ref q] ∧ SqL K H p us ∧ PV K H us ds ∧ ds.length ≤ 20 ∧ (∀ d ∈ ds, d.ok 4) ∧ SqL K H q xs ∧ PV K H xs es ∧ es.length ≤ 20 ∧ (∀ d ∈ es, d.ok 4) ∧
  ∀ (v : V) (H' : Hp), ToldF K H H' v (fitD ds es) → Q v H'
theorem d_fitted {aREST aWORTHS : Addr} {t4 t40 t20 : Tok} (T : Nb mg) (G : TxP K mg aREST aWORTHS t4 t40) (FT : TxF mg t20) (D_check_programs4 : Dq P w K mg base CX0 "check_programs" ["left", "right", "cells", "most"] [] 5 (sp_check_programs K)) (D_clash : Dn P w K mg base CX0 "clash" ["deed", "other"] 1 (sp_clash K))
    (D_due : Dn P w K mg base CX0 "due" ["program", "place"] 1 (sp_due K)) (h : Has K mg "fitted" s_fitted) : Dn P w K mg base CX0 "fitted" ["left", "right"] 6 (sp_fitted K) := by
  refine dn_of h (fun f fd F => F.binds fun _ _ _ _ _ _ us hl => match us, hl with | [_, _], _ => rfl) fun f fd F _ => F.ok sc_fitted (fun vs H Q E h => ?_) (fun cdv A outer s H vs Q E hr h => ?_)
  · obtain ⟨_, _, _, _, _, _, rfl, _⟩ := h
    rfl
  obtain ⟨p, q, us, xs, ds, es, rfl, hp, hP, hl, hok, hq, hX, hl2, hok2, k⟩ := h
  refine ⟨_, (pss_cons (ps_expr (pe_dq D_check_programs4 hr (by omega) pass0 (pa_cons (pv 0) (pa_cons (pv 1) (pa_cons (pe_glob (v := .int 4) rfl G.g_MOST_CELLS ⟨_, rfl⟩) (pa_cons (pe_glob (v := .int 20) rfl FT.g_MOST_TO_FIT ⟨_, rfl⟩) pa_nil))))))
    (pss_cons (ps_set (i := 2) sc_fitted.nd rfl (Or.inl rfl) (pe_lst pa_nil))
    (pss_cons (ps_set (i := 3) sc_fitted.nd rfl (Or.inl rfl) (pe_lst pa_nil))
    (pss_cons (ps_for PassesOwn.never rfl (pi_enum (by rfl) T.n_enumerate (pa_cons (pv 1) pa_nil)) (pg_tup rfl (pgs_cons (pg_name (i := 4) sc_fitted.nd rfl (Or.inl rfl)) (pgs_cons (pg_name (i := 5) sc_fitted.nd rfl (Or.inl rfl)) pgs_nil)))
      (pss_cons (ps_while PassesOwn.never (pt_val (pe_dn D_clash hr (by omega) pass0 (pa_cons (pe_dn D_due hr (by omega) pass0 (pa_cons (pv 0) (pa_cons (pe_callB (call_len_seqK K) (by rfl) T.n_len PySem.boot_len (pa_cons (pv 2) pa_nil)) pa_nil))) (pa_cons (pv 5) pa_nil))))
        (pss_cons (ps_expr (pe_bm PySem.F.plainAttrs_list PySem.F.slot_list_append PySem.F.type_list_append mt_append (pv 3) (pa_cons (pe_tup (pa_cons (pe_callB (call_len_seqK K) (by rfl) T.n_len PySem.boot_len (pa_cons (pv 2) pa_nil)) (pa_cons (pv 4) pa_nil))) pa_nil)))
        (pss_one (ps_expr (pe_bm PySem.F.plainAttrs_list PySem.F.slot_list_append PySem.F.type_list_append mt_append (pv 2) (pa_cons (pe_glob (v := .ref aREST) rfl G.g_REST rfl) pa_nil))))))
      (pss_one (ps_expr (pe_bm PySem.F.plainAttrs_list PySem.F.slot_list_append PySem.F.type_list_append mt_append (pv 2) (pa_cons (pv 5) pa_nil))))))
    (pss_one (ps_ret (pe_tup (pa_cons (pv 2) (pa_cons (pv 3) pa_nil))))))))), ?_⟩
  have c := sp_check_programs_v (n := 4) (m := 20) hp hP hl hok hq hX hl2 hok2
  refine q_drop (v := .non) (ev_call (ea_cons (by walk_at "ev") (ea_cons (by walk_at "ev") (ea_cons ev_c (ea_cons ev_c ea_nil)))) (dvs := []) c) fun H1 f1 => ?_
  refine q_asgL (xs := []) (el_lst ea_nil (by decide)) fun pl H2 npl f2 hpl => ?_
  refine q_asgL (xs := []) (el_lst ea_nil (by decide)) fun rl H3 nrl f3 hrl => ?_
  have f13 := (f1.trans f2).trans f3
  have npr : pl ≠ rl := ne_of_none hpl nrl
  have np0 : H pl = none := fresh_back f1 npl
  have nr0 : H rl = none := fresh_back (f1.trans f2) nrl
  have lx := hX.length
  refine ⟨_, rfl, q, xs, rfl, ex_l f13 hq, for_it walk_enum (fun i σ' H' => ∃ (S : FitS) (ps rs : List V) (v4 v5 : Option V), σ' = [some (.ref p), some (.ref q), some (.ref pl), some (.ref rl), v4, v5] ∧ S.num = i ∧ fitEnd ds es S = fitD ds es ∧ FitOk ds es 4 S ∧ H' pl = some (.lst ps) ∧ PV K H' ps S.prog ∧ H' rl = some (.lst rs) ∧ IVs K H' rs (whyI S.why) ∧ Ex H H')
    ⟨fit0, [], [], none, none, rfl, rfl, rfl, FitOk.begin _ _ _, f3 _ _ hpl, .nil, hrl, .nil, f13⟩ (fun i σ' H' _ ⟨_, _, _, _, _, _, _, _, _, _, _, _, _, e⟩ => ex_l e hq) ?_ ?_⟩
  · rintro i x σ' H' H6 hi ⟨S, ps, rs, v4, v5, rfl, hn, hE, F, gp, gP, gr, gR, ge⟩ ⟨t, a, b, rfl, nt, rfl, ha, hb⟩
    cases ha
    have x1 := Ex.new (o := .tup [.int (i : Nat), b]) nt
    refine ⟨t, _, rfl, SqT.of upd_same, rfl, _, _, rfl, _, _, rfl, rfl, ?_⟩
    replace gp := x1 _ _ gp
    replace gP := gP.mono x1
    replace gr := x1 _ _ gr
    replace gR := gR.mono x1
    replace ge := ge.trans x1
    generalize upd H' t (.tup [.int (i : Nat), b]) = H7 at gp gP gr gR ge ⊢
    clear x1 nt
    dsimp only
    obtain ⟨e, he, _⟩ := hX.get hb
    have ge0 : es.getD i .rs = e := getD_at he
    refine q_while (fun mm σ' H' => ∃ (S : FitS) (ps rs : List V), mm = S.meas ds es ∧ σ' = [some (.ref p), some (.ref q), some (.ref pl), some (.ref rl), some (.int (i : Nat)), some b] ∧ S.num = i ∧ fitEnd ds es S = fitD ds es ∧ FitOk ds es 4 S ∧ H' pl = some (.lst ps) ∧ PV K H' ps S.prog ∧ H' rl = some (.lst rs) ∧ IVs K H' rs (whyI S.why) ∧ Ex H H') (S.meas ds es)
      ⟨S, ps, rs, rfl, rfl, hn, hE, F, gp, gP, gr, gR, ge⟩ ?_
    clear gp gP gr gR ge hn hE F
    rintro mm σ' H8 ⟨S, ps, rs, rfl, rfl, hn, hE, F, gp, gP, gr, gR, ge⟩
    have nd : ¬ S.done es := by unfold FitS.done; omega
    have less := fitOne_less (ds := ds) nd
    have F1 := F.one nd hok2
    have E1 := (fitEnd_one (ds := ds) nd).trans hE
    have lp := gP.length
    have lr := gR.length
    have lw : (whyI S.why).length = S.why.length := by unfold whyI; rw [List.length_map]
    have z1 := F.all
    have z2 := F.len
    refine ⟨S.cl ds es, (fun H9 f9 Q z => ⟨_, rfl, _, rfl, pl, ps, rfl, .inl (SqL.of (f9 _ _ gp)), p, us, ds, ps.length, rfl, ex_l (ge.trans f9) hp, hP.mono (ge.trans f9), fun v H10 f10 dv => ⟨_, rfl, ?_⟩⟩), fun hb2 H10 f10 => ?_, fun hb2 H10 f10 => ?_⟩
    · obtain ⟨e2, he2, dv2⟩ := (hX.mono ((ge.trans f9).trans f10)).get hb
      rw [he] at he2
      cases he2
      have cl := sp_clash_v dv dv2
      show sp_clash K [v, b] H10 (fun x H1 => ∃ c, x = V.bl c ∧ Q c H1) E0
      refine cl H10 (Ex.refl _) _ (fun H11 f11 => ⟨_, rfl, ?_⟩) _
      have e3 : clashD (ds.getD ps.length .rs) e = S.cl ds es := by unfold FitS.cl; rw [hn, ge0, lp]
      rw [e3]
      exact z H11 (f10.trans f11)
    · -- a rest
      have e1 : fitOne ds es S = ⟨S.prog ++ [.rs], S.why ++ [(S.prog.length, S.num)], S.num⟩ := if_pos hb2
      rw [e1] at less F1 E1
      refine ⟨fun σ2 H2 => ∃ (S2 : FitS) (ps rs : List V), S2.meas ds es < S.meas ds es ∧ σ2 = [some (.ref p), some (.ref q), some (.ref pl), some (.ref rl), some (.int (i : Nat)), some b] ∧ S2.num = i ∧ fitEnd ds es S2 = fitD ds es ∧ FitOk ds es 4 S2 ∧ H2 pl = some (.lst ps) ∧ PV K H2 ps S2.prog ∧ H2 rl = some (.lst rs) ∧ IVs K H2 rs (whyI S2.why) ∧ Ex H H2, ?_, ?_⟩
      · rintro σ2 H2 ⟨S2, ps2, rs2, q1, q2⟩
        exact ⟨S2.meas ds es, q1, S2, ps2, rs2, rfl, q2⟩
      have gp10 := f10 _ _ gp
      have gr10 := f10 _ _ gr
      refine ⟨_, rfl, Or.inl ⟨rfl, _, SqL.of gr10⟩, _, rfl, pl, ps, rfl, .inl (SqL.of gp10), _, rfl, by show 2 ≤ sizeLine; decide, fun t nt => ⟨rl, rs, .ref t, rfl, rfl, Ex.new nt _ _ gr10, sz_lt (by omega), ?_⟩⟩
      have x1 := Ex.new (o := .tup [.int (ps.length : Int), .int (i : Nat)]) nt
      have ht := upd_same (H := H10) (a := t) (o := .tup [.int (ps.length : Int), .int (i : Nat)])
      have gp11 := x1 _ _ gp10
      have gr11 := x1 _ _ gr10
      have f11 := f10.trans x1
      generalize upd H10 t (.tup [.int (ps.length : Int), .int (i : Nat)]) = H11 at ht gp11 gr11 f11 ⊢
      clear x1
      have b12 : Bt [rl] H11 (upd H11 rl (.lst (rs ++ [.ref t]))) := (Bt.refl H11).set (by simp)
      have l12 : ∀ z ∈ [rl], ∃ us, H11 z = some (.lst us) := by simp [gr11]
      have gp12 := b12 pl _ (by simp [npr]) gp11
      have gr12 := upd_same (H := H11) (a := rl) (o := .lst (rs ++ [.ref t]))
      have gP12 := pv_buts b12 l12 (gP.mono f11)
      have gR12 := (gR.mono f11).buts b12 l12
      have ht12 := t_but (K := K) b12 l12 (SqT.of ht)
      have ge12 : Ex H (upd H11 rl (.lst (rs ++ [.ref t]))) := (ge.trans f11).mut nr0
      generalize upd H11 rl (.lst (rs ++ [.ref t])) = H12 at gp12 gr12 gP12 gR12 ht12 ge12 ⊢
      refine s_app (l := pl) (v := .ref aREST) gp12 (ev_var rfl) ev_c (by omega) fun H13 f13 => ?_
      have b14 : Bt [pl] H13 (upd H13 pl (.lst (ps ++ [.ref aREST]))) := (Bt.refl H13).set (by simp)
      have l14 : ∀ z ∈ [pl], ∃ us, H13 z = some (.lst us) := by simp [f13 _ _ gp12]
      refine ⟨_, ps ++ [.ref aREST], rs ++ [.ref t], less, rfl, hn, E1, F1, upd_same, ?_, ?_, ?_, (ge12.trans f13).mut np0⟩
      · exact (pv_buts b14 l14 (gP12.mono f13)).append (.cons ⟨aREST, rfl, G.REST _⟩ .nil)
      · rw [upd_ne npr.symm]; exact f13 _ _ gr12
      · have z := ((gR12.mono f13).buts b14 l14).append (.cons ⟨t, rfl, t_but b14 l14 (ex_t f13 ht12)⟩ .nil : IVs K _ [.ref t] [((ps.length : Int), (i : Int))])
        unfold whyI at z ⊢
        rw [List.map_append]
        rw [lp] at z
        show IVs K _ _ (_ ++ [((S.prog.length : Int), (S.num : Int))])
        rw [hn]
        exact z
    · -- the deed
      have e1 : fitOne ds es S = ⟨S.prog ++ [es.getD S.num .rs], S.why, S.num + 1⟩ := if_neg (by rw [hb2]; exact Bool.false_ne_true)
      rw [e1] at F1 E1
      refine s_app (l := pl) (v := b) (f10 _ _ gp) (ev_var rfl) (ev_var rfl) (by omega) fun H13 f13 => ?_
      have f113 := f10.trans f13
      have b14 : Bt [pl] H13 (upd H13 pl (.lst (ps ++ [b]))) := (Bt.refl H13).set (by simp)
      have l14 : ∀ z ∈ [pl], ∃ us, H13 z = some (.lst us) := by simp [f113 _ _ gp]
      obtain ⟨e2, he2, dv2⟩ := (hX.mono (ge.trans f113)).get hb
      rw [he] at he2
      cases he2
      refine ⟨_, ps ++ [b], rs, _, _, rfl, by show S.num + 1 = i + 1; rw [hn], E1, F1, upd_same, ?_, by rw [upd_ne npr.symm]; exact f113 _ _ gr, (gR.mono f113).buts b14 l14, (ge.trans f113).mut np0⟩
      show PV K _ _ (S.prog ++ [es.getD S.num .rs])
      rw [hn, ge0]
      exact (pv_buts b14 l14 (gP.mono f113)).append (.cons (dv_buts b14 l14 dv2) .nil)
  · rintro σ' H' ⟨S, ps, rs, v4, v5, rfl, hn, hE, F, gp, gP, gr, gR, ge⟩
    have hd : S.done es := by unfold FitS.done; omega
    rw [fitEnd_done hd] at hE
    subst hE
    refine ⟨_, rfl, _, rfl, by show 2 ≤ sizeLine; decide, fun t nt => ?_⟩
    have x1 := Ex.new (o := .tup [.ref pl, .ref rl]) nt
    exact k _ _ ⟨t, pl, rl, ps, rs, rfl, upd_same, x1 _ _ gp, gP.mono x1, x1 _ _ gr, gR.mono x1, np0, nr0, npr, ge.trans x1⟩

def sp_shows (K : PySem.W.Frag) : Sp := fun vs H Q _ => ∃ (p q r : Addr) (us xs ys : List V) (ds es : List Deed) (rs : List (Int × Int)), vs = [.ref p, .ref q, .ref r] ∧ SqL K H p us ∧ PV K H us ds ∧ ds.length ≤ 20 ∧ (∀ d ∈ ds, d.ok 4) ∧ SqL K H q xs ∧ PV K H xs es ∧ es.length ≤ 20 ∧ (∀ d ∈ es, d.ok 4) ∧
  SqL K H r ys ∧ IVs K H ys rs ∧ ∀ (H' : Hp), Ex H H' → Q (.bl (whyOk ds es 0 0 rs)) H'
theorem sp_shows_v {H : Hp} {p q r : Addr} {us xs ys : List V} {ds es : List Deed} {rs : List (Int × Int)} (h1 : SqL K H p us) (h2 : PV K H us ds) (h3 : ds.length ≤ 20) (h4 : ∀ d ∈ ds, d.ok 4) (h5 : SqL K H q xs) (h6 : PV K H xs es) (h7 : es.length ≤ 20) (h8 : ∀ d ∈ es, d.ok 4) (h9 : SqL K H r ys) (h10 : IVs K H ys rs) :
    SpV (sp_shows K) [.ref p, .ref q, .ref r] H (.bl (whyOk ds es 0 0 rs)) := fun H1 e Q k _ => ⟨p, q, r, us, xs, ys, ds, es, rs, rfl, ex_l e h1, h2.mono e, h3, h4, ex_l e h5, h6.mono e, h7, h8, ex_l e h9, h10.mono e, k⟩
theorem d_shows {aREST aWORTHS : Addr} {t4 t40 t20 : Tok} (T : Nb mg) (G : TxP K mg aREST aWORTHS t4 t40) (FT : TxF mg t20) (D_is_whole : Dn P w K mg base CX0 "is_whole" ["value"] 1 sp_is_whole) (D_check_programs4 : Dq P w K mg base CX0 "check_programs" ["left", "right", "cells", "most"] [] 5 (sp_check_programs K)) (D_clash : Dn P w K mg base CX0 "clash" ["deed", "other"] 1 (sp_clash K))
    (D_due : Dn P w K mg base CX0 "due" ["program", "place"] 1 (sp_due K)) (h : Has K mg "shows" s_shows) : Dn P w K mg base CX0 "shows" ["left", "right", "reason"] 6 (sp_shows K) := by
  refine dn_of h (fun f fd F => F.binds fun _ _ _ _ _ _ us hl => match us, hl with | [_, _, _], _ => rfl) fun f fd F _ => F.ok sc_shows (fun vs H Q E h => ?_) (fun cdv A outer s H vs Q E hr h => ?_)
  · obtain ⟨_, _, _, _, _, _, _, _, _, rfl, _⟩ := h
    rfl
  obtain ⟨p, q, r, us, xs, ys, ds, es, rs, rfl, hp, hP, hl, hok, hq, hX, hl2, hok2, hr1, hR, k⟩ := h
  refine ⟨_, (pss_cons (ps_expr (pe_dq D_check_programs4 hr (by omega) pass0 (pa_cons (pv 0) (pa_cons (pv 1) (pa_cons (pe_glob (v := .int 4) rfl G.g_MOST_CELLS ⟨_, rfl⟩) (pa_cons (pe_glob (v := .int 20) rfl FT.g_MOST_TO_FIT ⟨_, rfl⟩) pa_nil))))))
    (pss_cons (ps_set (i := 3) sc_shows.nd rfl (Or.inl rfl) pe_int)
    (pss_cons (ps_for PassesOwn.never rfl (pi_enum (by rfl) T.n_enumerate (pa_cons (pv 2) pa_nil)) (pg_tup rfl (pgs_cons (pg_name (i := 4) sc_shows.nd rfl (Or.inl rfl)) (pgs_cons (pg_tup rfl (pgs_cons (pg_name (i := 5) sc_shows.nd rfl (Or.inl rfl)) (pgs_cons (pg_name (i := 6) sc_shows.nd rfl (Or.inl rfl)) pgs_nil))) pgs_nil)))
      (pss_cons (ps_if (PW.pt (pw_or (pt_not (pt_val (pe_dn D_is_whole hr (by omega) pass0 (pa_cons (pv 5) pa_nil)))) (pw_or1 (pt_not (pt_val (pe_dn D_is_whole hr (by omega) pass0 (pa_cons (pv 6) pa_nil))))))) (pss_one (ps_ret pe_bl)) pss_nil)
      (pss_cons (ps_if (PW.pt (pw_or (pt_not (pt_chain op_le op_lt (pv 3) (pv 6) (pe_callB (call_len_seqK K) (by rfl) T.n_len PySem.boot_len (pa_cons (pv 1) pa_nil)))) (pw_or1 (pt_cmpR op_ne (pv 5) (pe_op op_add (pv 6) (pv 4)) (nomark _))))) (pss_one (ps_ret pe_bl)) pss_nil)
      (pss_cons (ps_if (pt_not (pt_val (pe_dn D_clash hr (by omega) pass0 (pa_cons (pe_dn D_due hr (by omega) pass0 (pa_cons (pv 0) (pa_cons (pv 5) pa_nil))) (pa_cons (pe_ix (ix_listK K) (pv 1) (pv 6) (fun _ _ => rfl)) pa_nil))))) (pss_one (ps_ret pe_bl)) pss_nil)
      (pss_one (ps_set (i := 3) sc_shows.nd rfl (Or.inl rfl) (pv 6)))))))
    (pss_one (ps_ret pe_bl))))), ?_⟩
  have c := sp_check_programs_v (n := 4) (m := 20) hp hP hl hok hq hX hl2 hok2
  refine q_drop (v := .non) (ev_call (ea_cons (by walk_at "ev") (ea_cons (by walk_at "ev") (ea_cons ev_c (ea_cons ev_c ea_nil)))) (dvs := []) c) fun H1 f1 => ?_
  refine q_asg (v := .int 0) ev_c fun H2 f2 => ?_
  have f12 := f1.trans f2
  have lx := hX.length
  have ly := hR.length
  refine ⟨_, rfl, r, ys, rfl, ex_l f12 hr1, for_it walk_enum (fun i σ' H' => ∃ (least : Int) (v4 v5 v6 : Option V), σ' = [some (.ref p), some (.ref q), some (.ref r), some (.int least), v4, v5, v6] ∧ whyOk ds es 0 0 rs = whyOk ds es i least (rs.drop i) ∧ 0 ≤ least ∧ Ex H H')
    ⟨0, none, none, none, rfl, rfl, Int.le_refl _, f12⟩ (fun i σ' H' _ ⟨_, _, _, _, _, _, _, e⟩ => ex_l e hr1) ?_ ?_⟩
  · rintro i x σ' H' H6 hi ⟨least, v4, v5, v6, rfl, hw, hl0, ge⟩ ⟨t, a, b, rfl, nt, rfl, ha, hb⟩
    cases ha
    have x1 := Ex.new (o := .tup [.int (i : Nat), b]) nt
    obtain ⟨⟨bb, nn⟩, hbn, pa, rfl, hpa⟩ := (hR.mono (ge.trans x1)).get hb
    refine ⟨t, _, rfl, SqT.of upd_same, rfl, _, _, rfl, _, _, rfl, ⟨pa, _, rfl, hpa, rfl, _, _, rfl, _, _, rfl, rfl, rfl, ?_⟩⟩
    replace ge := ge.trans x1
    generalize upd H' t (.tup [.int (i : Nat), .ref pa]) = H7 at ge hpa ⊢
    clear x1 nt
    dsimp only
    have hi2 : i < rs.length := by omega
    have ed : rs.drop i = (bb, nn) :: rs.drop (i + 1) := by
      rw [List.drop_eq_getElem_cons hi2]
      rw [List.getElem?_eq_getElem hi2] at hbn
      rw [Option.some.inj hbn]
    rw [ed] at hw
    have hw2 : whyOk ds es i least ((bb, nn) :: rs.drop (i + 1)) = ((decide (least ≤ nn ∧ nn < es.length) && decide (bb = nn + i)) && (clashD (ds.getD bb.toNat .rs) (es.getD nn.toNat .rs) && whyOk ds es (i + 1) nn (rs.drop (i + 1)))) := rfl
    rw [hw2] at hw
    refine q_when (b := false) (et_is (et_or (a := false) (b := false) (et_is (et_not (a := true) (et_B (ev_call (ea_cons (ev_var (v := .int bb) rfl) ea_nil) sp_is_whole_v))) rfl) (fun _ => et_is (et_not (a := true) (et_B (ev_call (ea_cons (ev_var (v := .int nn) rfl) ea_nil) sp_is_whole_v))) rfl)) rfl) (fun z => nomatch z) (fun _ H8 f8 => ?_)
    have ge8 := ge.trans f8
    refine q_when (b := !(decide (least ≤ nn) && decide (nn < (xs.length : Int))) || !decide (V.int bb = V.int (nn + i))) (et_or (et_not (et_test (ev_chain (a := decide (least ≤ nn)) (b := decide (nn < (xs.length : Int))) (ev_var (v := .int least) rfl) (ev_var (v := .int nn) rfl) rv_I0 (fun _ => ev_cb (ea_cons (ev_var (v := .ref q) rfl) ea_nil) (rc_lenL (ex_l ge8 hq))) (fun _ => rv_I0))))
      (fun _ => et_test (ev_op (ev_var (v := .int bb) rfl) (ev_op (x := .int nn) (y := .int (i : Nat)) (ev_var rfl) (ev_var rfl) rv_I0) (rv_ne rfl)))) (fun hb1 H9 f9 => ?_) (fun hb1 H9 f9 => ?_)
    · refine s_ret (v := .bl (whyOk ds es 0 0 rs)) ?_ fun H10 f10 => k H10 ((ge8.trans f9).trans f10)
      have e : whyOk ds es 0 0 rs = false := by
        rw [hw]
        rw [Bool.or_eq_true] at hb1
        rcases hb1 with z | z
        · have z2 : (decide (least ≤ nn) && decide (nn < (xs.length : Int))) = false := by rw [Bool.not_eq_true'] at z; exact z
          have z3 : decide (least ≤ nn ∧ nn < (es.length : Int)) = false := by
            rw [← lx, Bool.decide_and]
            exact z2
          rw [z3]
          rfl
        · have z2 : ¬ V.int bb = V.int (nn + i) := by simpa using z
          have z3 : decide (bb = nn + (i : Int)) = false := decide_eq_false fun y => z2 (by rw [y])
          rw [z3, Bool.and_false]
          rfl
      rw [e]
      exact ev_c
    · rw [Bool.or_eq_false_iff] at hb1
      obtain ⟨y1, y2⟩ := hb1
      have y1 : (decide (least ≤ nn) && decide (nn < (xs.length : Int))) = true := by simpa using y1
      rw [Bool.and_eq_true] at y1
      have c1 : least ≤ nn := of_decide_eq_true y1.1
      have c2 : nn < (xs.length : Int) := of_decide_eq_true y1.2
      have c3 : bb = nn + i := by
        have z : V.int bb = V.int (nn + i) := by simpa using y2
        exact V.int.inj z
      rw [decide_eq_true (⟨c1, by omega⟩ : least ≤ nn ∧ nn < (es.length : Int)), decide_eq_true c3] at hw
      have ge9 := ge8.trans f9
      obtain ⟨nb, hnb⟩ : ∃ nb : Nat, bb = nb := ⟨bb.toNat, by omega⟩
      obtain ⟨nu, hnu⟩ : ∃ nu : Nat, nn = nu := ⟨nn.toNat, by omega⟩
      have tb : bb.toNat = nb := by omega
      have tn : nn.toNat = nu := by omega
      have hlt : nu < xs.length := by omega
      rw [tb, tn] at hw
      refine q_when (b := !clashD (ds.getD nb .rs) (es.getD nu .rs)) (et_not (fun H10 f10 Q z => ⟨_, rfl, _, rfl, p, us, ds, nb, by rw [hnb]; rfl, ex_l (ge9.trans f10) hp, hP.mono (ge9.trans f10), fun v H11 f11 dv => ⟨_, rfl, _, rfl, q, xs, nn, xs[nu], rfl, rfl, ex_l ((ge9.trans f10).trans f11) hq, by rw [hnu]; exact atI_nat (List.getElem?_eq_getElem hlt), ?_⟩⟩)) (fun hb2 H10 f10 => ?_) (fun hb2 H10 f10 => ?_)
      · obtain ⟨e2, he2, dv2⟩ := (hX.mono ((ge9.trans f10).trans f11)).get (List.getElem?_eq_getElem hlt)
        have cl := sp_clash_v dv dv2
        show sp_clash K [v, xs[nu]] H11 (fun x H1 => ∃ c, x = V.bl c ∧ Q c H1) E0
        refine cl H11 (Ex.refl _) _ (fun H12 f12 => ⟨_, rfl, ?_⟩) _
        rw [← getD_at he2]
        exact z H12 (f11.trans f12)
      · refine s_ret (v := .bl (whyOk ds es 0 0 rs)) ?_ fun H11 f11 => k H11 ((ge9.trans f10).trans f11)
        have z : clashD (ds.getD nb .rs) (es.getD nu .rs) = false := by simpa using hb2
        rw [hw, z]
        exact ev_c
      · have z : clashD (ds.getD nb .rs) (es.getD nu .rs) = true := by simpa using hb2
        rw [z] at hw
        refine s_asg (v := .int nn) (ev_var rfl) fun H11 f11 => ⟨nn, _, _, _, rfl, by rw [hw]; rfl, by omega, (ge9.trans f10).trans f11⟩
  · rintro σ' H' ⟨least, v4, v5, v6, rfl, hw, hl0, ge⟩
    rw [List.drop_of_length_le (by omega)] at hw
    have e : whyOk ds es 0 0 rs = true := hw
    rw [e] at k
    exact k H' ge

/-- whether two deeds clash -/
def sp_law_meet (K : PySem.W.Frag) : Sp := spF 2 fun vs H v => ∃ a b d e, vs = [a, b] ∧ DV K H a d ∧ DV K H b e ∧ v = .bl (clashD d e)
theorem sp_law_meet_v {H : Hp} {a b : V} {d e : Deed} (h1 : DV K H a d) (h2 : DV K H b e) : SpV (sp_law_meet K) [a, b] H (.bl (clashD d e)) := spF_v rfl fun _ f => ⟨a, b, d, e, rfl, h1.mono f, h2.mono f, rfl⟩
theorem d_law_meet (T : Nb mg) (h : Has K mg "_law_meet" s_law_meet) : Dn P w K mg base CX0 "_law_meet" ["_law_one", "_law_other"] 1 (sp_law_meet K) := by
  refine dn_of h (fun f fd F => F.binds fun _ _ _ _ _ _ us hl => match us, hl with | [_, _], _ => rfl) fun f fd F _ => F.ok sc_law_meet (fun vs H Q E h => h.1) (fun cdv A outer s H vs Q E hr h => ?_)
  · obtain ⟨_, v, ⟨_, _, d, e, rfl, ⟨a, rfl, h1⟩, ⟨b, rfl, h2⟩, rfl⟩, k⟩ := h
    refine ⟨_, (pss_cons (ps_setLc (i := 2) (own := [("_law_deed_here", 3)]) rfl sc_law_meet.nd rfl rfl (sw_true rfl rfl rfl (by decide +kernel)) (pi_tup (pe_tup (pa_cons (pv 0) (pa_cons (pv 1) pa_nil)))) (blkOk_by (own := [("_law_deed_here", 3)]) (N := ["_law_one", "_law_other", "_law_some", "_law_deed_here"]) (sc := defScope s_law_meet) (by decide +kernel)) (fun _ _ _ _ _ => (pg_name (i := 3) sc_law_meet.nd rfl (Or.inl rfl))) (fun _ _ _ _ _ => pts_one (pt_cmpR op_ne (pe_ix (ix_tupK K) (pv 3) pe_int (fun _ _ => rfl)) pe_str (nomark _))) (fun _ _ _ _ _ => (pv 3)))
    (pss_one (ps_ret (pe_and (pe_cmpR op_eq (pe_callB (call_len_seqK K) (by rfl) T.n_len PySem.boot_len (pa_cons (pv 2) pa_nil)) pe_int (nomark _)) (pe_and (pe_cmpR op_eq (pe_ix (ix_tupK K) (pe_ix (ix_listK K) (pv 2) pe_int (fun _ _ => rfl)) pe_int (fun _ _ => rfl)) (pe_ix (ix_tupK K) (pe_ix (ix_listK K) (pv 2) pe_int (fun _ _ => rfl)) pe_int (fun _ _ => rfl)) (nomark _)) (pe_one (pe_cmpR (op_in_seqK K) pe_str (pe_tup (pa_cons (pe_ix (ix_tupK K) (pv 0) pe_int (fun _ _ => rfl)) (pa_cons (pe_ix (ix_tupK K) (pv 1) pe_int (fun _ _ => rfl)) pa_nil))) (by rfl)))))))), ?_⟩
    have f0 : ∀ (i : Nat) (x : V) (H1 : Hp), Ex H H1 → ([.ref a, .ref b] : List V)[i]? = some x → EvT (tTest (tOp rNe (tOp (rIxT K) (tVar 3) (tC (.int 0))) (tC (.str "rest")))) ((wipe (start ["_law_one", "_law_other", "_law_some", "_law_deed_here"] [.ref a, .ref b]) [3]).set 3 (some x)) H1 ([!decide (d = .rs), !decide (e = .rs)].getD i false) := by
      intro i x H1 f1 hi
      match i, hi with
      | 0, hi =>
        cases hi
        exact et_is (et_test (ev_op (ev_op (by walk_at "ev") (by walk_at "ev") (DV.tag (ex_t f1 h1))) (by walk_at "ev") (rv_ne rfl))) (tag_rest d)
      | 1, hi =>
        cases hi
        exact et_is (et_test (ev_op (ev_op (by walk_at "ev") (by walk_at "ev") (DV.tag (ex_t f1 h2))) (by walk_at "ev") (rv_ne rfl))) (tag_rest e)
      | i + 2, hi => simp at hi
    refine q_asgL (by
      have q := el_lcNT (K := K) (σ := start ["_law_one", "_law_other", "_law_some", "_law_deed_here"] [.ref a, .ref b]) (H := H) (j := 3) (vs := [3]) (te := tVar 3) (fun i => [!decide (d = .rs), !decide (e = .rs)].getD i false) (fun i => ([.ref a, .ref b] : List V).getD i .non)
        (eu_tup (ea_cons (ev_var (i := 0) rfl) (ea_cons (ev_var (i := 1) rfl) ea_nil)) (by simp)) (by simp) (fun x => rfl) f0 (fun i x H1 f1 hi _ => ev_is (ev_var (v := x) rfl) (by rw [List.getD_eq_getElem?_getD, hi]; rfl))
      exact q) fun p H1 hp f1 e1 => ?_
    have g1 := ex_t f1 h1
    have g2 := ex_t f1 h2
    have e2 : given 2 (fun i => [!decide (d = .rs), !decide (e = .rs)].getD i false) (fun i => ([.ref a, .ref b] : List V).getD i .non) = (if d = .rs then [] else [.ref a]) ++ (if e = .rs then [] else [.ref b]) := by
      rw [given_two]
      by_cases hd : d = .rs <;> by_cases he : e = .rs <;> simp [hd, he]
    have e3 : H1 p = some (.lst ((if d = .rs then [] else [.ref a]) ++ (if e = .rs then [] else [.ref b]))) := by rw [← e2]; exact e1
    have nope : ∀ xs : List V, H1 p = some (.lst xs) → xs.length ≠ 2 → clashD d e = false → Ev (tAndV (tOp rEq (tCB (rLenS K) (tCons (tVar 2) tNil)) (tC (.int 2))) (tAndV (tOp rEq (tOp (rIxT K) (tOp (rIxL K) (tVar 2) (tC (.int 0))) (tC (.int 1))) (tOp (rIxT K) (tOp (rIxL K) (tVar 2) (tC (.int 1))) (tC (.int 1)))) (tOp (rIn K false) (tC (.str "write")) (tTup (tCons (tOp (rIxT K) (tVar 0) (tC (.int 0))) (tCons (tOp (rIxT K) (tVar 1) (tC (.int 0))) tNil)))))) ((start ["_law_one", "_law_other", "_law_some", "_law_deed_here"] [.ref a, .ref b]).set 2 (some (.ref p))) H1 (.bl (clashD d e)) := by
      intro xs hx hl hc
      rw [hc]
      refine ev_is (ev_andV (a := false) (b := false) (ev_is (ev_op (ev_cb (by walk_at "ea") (rc_lenL (SqL.of hx))) (by walk_at "ev") (rv_eq rfl)) ?_) (fun z => nomatch z)) rfl
      have q : ¬ (V.int (xs.length : Int) = V.int 2) := fun z => hl (by have := V.int.inj z; omega)
      rw [decide_eq_false q]
    have yes : ∀ (c1 c2 : Nat), d.cell = some c1 → e.cell = some c2 → H1 p = some (.lst [.ref a, .ref b]) → Ev (tAndV (tOp rEq (tCB (rLenS K) (tCons (tVar 2) tNil)) (tC (.int 2))) (tAndV (tOp rEq (tOp (rIxT K) (tOp (rIxL K) (tVar 2) (tC (.int 0))) (tC (.int 1))) (tOp (rIxT K) (tOp (rIxL K) (tVar 2) (tC (.int 1))) (tC (.int 1)))) (tOp (rIn K false) (tC (.str "write")) (tTup (tCons (tOp (rIxT K) (tVar 0) (tC (.int 0))) (tCons (tOp (rIxT K) (tVar 1) (tC (.int 0))) tNil)))))) ((start ["_law_one", "_law_other", "_law_some", "_law_deed_here"] [.ref a, .ref b]).set 2 (some (.ref p))) H1 (.bl (clashD d e)) := by
      intro c1 c2 hc1 hc2 hx
      have i1 : atI d.vals 1 = some (.int (c1 : Int)) := by cases d <;> cases hc1 <;> rfl
      have i2 : atI e.vals 1 = some (.int (c2 : Int)) := by cases e <;> cases hc2 <;> rfl
      have i3 : inV (.str "write") [.str d.tag, .str e.tag] = (d.isW || e.isW) := by
        cases d <;> cases e <;> first | cases hc1; done | cases hc2; done | exact in_rr | exact in_rw | exact in_wr | exact in_ww
      have i4 : clashD d e = (decide (c1 = c2) && (d.isW || e.isW)) := by unfold clashD; rw [hc1, hc2]
      rw [i4]
      refine ev_is (ev_andV (a := true) (b := decide (V.int (c1 : Int) = V.int (c2 : Int)) && (d.isW || e.isW)) (ev_is (ev_op (ev_cb (by walk_at "ea") (rc_lenL (SqL.of hx))) (by walk_at "ev") (rv_eq rfl)) rfl) (fun _ => ev_andV (ev_op (ev_op (by walk_at "ev") (by walk_at "ev") (rv_ixT g1 i1)) (ev_op (by walk_at "ev") (by walk_at "ev") (rv_ixT g2 i2)) (rv_eq rfl)) (fun _ => ev_is (ev_inU (by walk_at "ev") (eu_tup (ea_cons (ev_op (by walk_at "ev") (by walk_at "ev") (DV.tag g1)) (ea_cons (ev_op (by walk_at "ev") (by walk_at "ev") (DV.tag g2)) ea_nil)) (by simp)) rfl rfl) (by rw [i3])))) ?_
      have q : decide (V.int (c1 : Int) = V.int (c2 : Int)) = decide (c1 = c2) := decide_eq_decide.mpr ⟨fun z => by have := V.int.inj z; omega, fun z => by rw [z]⟩
      rw [q]
      rfl
    refine s_ret (v := .bl (clashD d e)) ?_ fun H2 f2 => k H2 (f1.trans f2)
    cases d with
    | rs => cases e with
      | rs => exact nope _ e3 (by simp) rfl
      | rd c => exact nope _ e3 (by simp) rfl
      | wr c w => exact nope _ e3 (by simp) rfl
    | rd c => cases e with
      | rs => exact nope _ e3 (by simp) rfl
      | rd c' => exact yes _ _ rfl rfl e3
      | wr c' w => exact yes _ _ rfl rfl e3
    | wr c w => cases e with
      | rs => exact nope _ e3 (by simp) rfl
      | rd c' => exact yes _ _ rfl rfl e3
      | wr c' w' => exact yes _ _ rfl rfl e3

/-- the deed at a place, a rest behind the last one -/
def sp_law_at (K : PySem.W.Frag) : Sp := fun vs H Q _ => ∃ (p : Addr) (us : List V) (ds : List Deed) (i : Nat), vs = [.ref p, .int i] ∧ SqL K H p us ∧ PV K H us ds ∧ us.length ≤ 1000 ∧ ∀ (v : V) (H' : Hp), Ex H H' → DV K H' v (ds.getD i .rs) → Q v H'
theorem d_law_at (h : Has K mg "_law_at" s_law_at) : Dn P w K mg base CX0 "_law_at" ["_law_program_here", "_law_beat"] 1 (sp_law_at K) := by
  refine dn_of h (fun f fd F => F.binds fun _ _ _ _ _ _ us hl => match us, hl with | [_, _], _ => rfl) fun f fd F _ => F.ok sc_law_at (fun vs H Q E h => ?_) (fun cdv A outer s H vs Q E hr h => ?_)
  · obtain ⟨_, _, _, _, rfl, _⟩ := h
    rfl
  · obtain ⟨p, us, ds, i, rfl, hS, hP, hz, k⟩ := h
    refine ⟨_, (pss_one (ps_ret (pe_ix (ix_listK K) (pe_op op_cat (pe_slice sl_list (pv 0) (po_some (pv 1)) (po_some (pe_op op_add (pv 1) pe_int))) (pe_lst (pa_cons (pe_tup (pa_cons pe_str pa_nil)) pa_nil))) pe_int (fun _ _ => rfl)))), ?_⟩
    refine (el_sl (lo := some (i : Int)) (hi := some ((i : Int) + 1)) (ev_var rfl) (eo_some (ev_var rfl)) (eo_some (ev_op (ev_var rfl) ev_c rv_I0)) hS) H (Ex.refl H) _ fun p1 H1 n1 f1 h1 => ?_
    rw [cut_at] at h1
    refine ⟨by show 1 ≤ sizeLine; decide, fun p2 n2 => ⟨by show 1 ≤ sizeLine; decide, fun p3 n3 => ?_⟩⟩
    have g1 := Ex.new (o := .tup [.str "rest"]) n2
    have g2 := Ex.new (o := .lst [.ref p2]) n3
    refine ⟨p1, p3, _, _, rfl, rfl, g2 _ _ (g1 _ _ h1), upd_same, ?_, fun p4 n4 => ?_⟩
    · have q2 : (2000 : Nat) ≤ sizeLine := by decide
      have q3 : ((us.drop i).take 1).length ≤ 1 := by rw [List.length_take]; omega
      show ((us.drop i).take 1).length + 1 ≤ sizeLine
      omega
    have g3 := Ex.new (o := .lst ((us.drop i).take 1 ++ [.ref p2])) n4
    have e2 : DV K (upd (upd (upd H1 p2 (.tup [.str "rest"])) p3 (.lst [.ref p2])) p4 (.lst ((us.drop i).take 1 ++ [.ref p2]))) (.ref p2) .rs := ⟨p2, rfl, SqT.of (g3 _ _ (g2 _ _ upd_same))⟩
    have f4 := ((f1.trans g1).trans g2).trans g3
    cases hi : us[i]? with
    | none =>
      have hl : us.length ≤ i := List.getElem?_eq_none_iff.mp hi
      have hd : ds.length ≤ i := by rw [← hP.length]; exact hl
      have e : us.drop i = [] := List.drop_of_length_le hl
      refine ⟨p4, _, 0, .ref p2, rfl, rfl, SqL.of upd_same, by rw [e]; rfl, k _ _ f4 ?_⟩
      rw [List.getD_eq_getElem?_getD, List.getElem?_eq_none_iff.mpr hd]
      exact e2
    | some v =>
      obtain ⟨d, hd, dv⟩ := hP.get hi
      have hl := (List.getElem?_eq_some_iff.mp hi).1
      have e : (us.drop i).take 1 = [v] := by
        rw [List.drop_eq_getElem_cons hl]
        have q := (List.getElem?_eq_some_iff.mp hi).2
        rw [q]
        rfl
      refine ⟨p4, _, 0, v, rfl, rfl, SqL.of upd_same, by rw [e]; rfl, k _ _ f4 ?_⟩
      rw [List.getD_eq_getElem?_getD, hd]
      exact dv.mono f4

/-- the i-th of so many draws: a number from 0 on, below m -/
def sp_law_next : Sp := fun vs H Q _ => ∃ (h l : Addr) (m : Int), vs = [.ref h, .int m] ∧ Draw H h l ∧ 0 < m ∧ m < 1073741824 ∧ ∀ (r : Int) (H' : Hp), 0 ≤ r → r < m → Drew H H' h l → Q (.int r) H'
theorem d_law_next (T : Nb mg) (h : Has K mg "_law_next" s_law_next) : Dn P w K mg base CX0 "_law_next" ["_law_h", "_law_many"] 1 sp_law_next := by
  refine dn_of h (fun f fd F => F.binds fun _ _ _ _ _ _ us hl => match us, hl with | [_, _], _ => rfl) fun f fd F _ => F.ok sc_law_next (fun vs H Q E h => ?_) (fun cdv A outer s H vs Q E hr h => ?_)
  · obtain ⟨_, _, _, rfl, _⟩ := h
    rfl
  · obtain ⟨h, l, m, rfl, D, hm, hm2, k⟩ := h
    refine ⟨_, (pss_cons (ps_set (i := 2) sc_law_next.nd rfl (Or.inl rfl) (pe_op op_mod (pe_ix (ix_listK K) (pv 0) pe_int (fun _ _ => rfl)) (pe_callB (call_max2 rfl) (by rfl) T.n_max PyProof.Rows.boot_max (pa_cons pe_int (pa_cons (pe_callB (call_len_seqK K) (by rfl) T.n_len PySem.boot_len (pa_cons (pe_ix (ix_listK K) (pv 0) pe_int (fun _ _ => rfl)) pa_nil)) pa_nil)))))
    (pss_cons (ps_set (i := 3) sc_law_next.nd rfl (Or.inl rfl) (pe_ifExp (pt_cmpR (op_neDK K rfl hr.units) (pe_ix (ix_listK K) (pv 0) pe_int (fun _ _ => rfl)) (pe_lst pa_nil) (nomark _)) (pe_ix (ix_listK K) (pe_ix (ix_listK K) (pv 0) pe_int (fun _ _ => rfl)) (pv 2) (fun _ _ => rfl)) pe_int))
    (pss_cons (ps_if (pt_cmpR op_ge (pv 3) (pe_op op_pow pe_int pe_int) (nomark _)) (pss_cons (ps_asg (pe_op op_fdiv (pv 3) (pv 1)) (pg_sub (pe_ix (ix_listK K) (pv 0) pe_int (fun _ _ => rfl)) (pv 2) set_list))
      (pss_one (ps_ret (pe_op op_mod (pv 3) (pv 1))))) pss_nil)
    (pss_cons (ps_asg (pe_op op_mod (pe_op op_add (pe_op op_add (pe_op op_mul (pe_ix (ix_listK K) (pv 0) pe_int (fun _ _ => rfl)) pe_int) (pe_op op_mul (pv 3) pe_int)) pe_int) pe_int) (pg_sub (pv 0) pe_int set_list))
    (pss_cons (ps_asg (pe_op op_add (pe_ix (ix_listK K) (pv 0) pe_int (fun _ _ => rfl)) pe_int) (pg_sub (pv 0) pe_int set_list))
    (pss_one (ps_ret (pe_op op_mod (pe_op op_fdiv (pe_ix (ix_listK K) (pv 0) pe_int (fun _ _ => rfl)) pe_int) (pv 1))))))))), ?_⟩
    obtain ⟨a, p, ns, e1, e2, e3⟩ := D.st
    have hhl := D.ne
    have hM : (0 : Int) < (if ((ns.map V.int).length : Int) > 1 then ((ns.map V.int).length : Int) else 1) := by split <;> omega
    refine q_asg (v := .int (p % (if ((ns.map V.int).length : Int) > 1 then ((ns.map V.int).length : Int) else 1))) (by walk_at "ev") fun H1 f1 => ?_
    have a0 := Int.emod_nonneg p (Int.ne_of_gt hM)
    have a1 := Int.emod_lt_of_pos p hM
    generalize hat : p % (if ((ns.map V.int).length : Int) > 1 then ((ns.map V.int).length : Int) else 1) = t at *
    have c1 := f1 _ _ e1
    have c2 := f1 _ _ e2
    obtain ⟨c, hc⟩ : ∃ c : Int, Ev (tIf (tTest (tOp (rNeD K) (tOp (rIxL K) (tVar 0) (tC (.int 1))) (tLst tNil))) (tOp (rIxL K) (tOp (rIxL K) (tVar 0) (tC (.int 1))) (tVar 2)) (tC (.int 0))) ((start ["_law_h", "_law_many", "_law_at", "_law_cell"] [.ref h, .int m]).set 2 (some (.int t))) H1 (.int c)
        ∧ (c ≠ 0 → ∃ j : Nat, t = (j : Int) ∧ j < ns.length) := by
      cases ns with
      | nil =>
        refine ⟨0, ev_ifF (et_test (ev_is (ev_opL (xs := []) (by walk_at "ev") (el_lst ea_nil (by decide)) fun p H2 hp f2 => rv_neD (n := 1) (m := 1) (d := .list []) (e := .list []) (.lst (SqL.of (f2 _ _ c2)) .nil) (.lst (SqL.of hp) .nil) (sh_lst fun _ z => nomatch z) (sh_lst fun _ z => nomatch z) (by decide) (by decide)) rfl)) ev_c, fun z => absurd rfl z⟩
      | cons n r =>
        obtain ⟨j, rfl⟩ : ∃ j : Nat, t = (j : Int) := ⟨t.toNat, by omega⟩
        have hj : j < (n :: r).length := by
          have q : ((n :: r).map V.int).length = (n :: r).length := List.length_map ..
          rw [q] at a1
          have q2 : (n :: r).length = r.length + 1 := rfl
          split at a1 <;> omega
        have hx : ((n :: r).map V.int)[j]? = some (.int (n :: r)[j]) := by rw [List.getElem?_map, List.getElem?_eq_getElem hj]; rfl
        refine ⟨(n :: r)[j], ev_ifT (et_test (ev_is (ev_opL (xs := []) (by walk_at "ev") (el_lst ea_nil (by decide)) fun p H2 hp f2 => rv_neD (n := 1) (m := 1) (d := .list ((n :: r).map PyData.int)) (e := .list []) (.lst (SqL.of (f2 _ _ c2)) (dpa_ints _)) (.lst (SqL.of hp) .nil) (sh_ints _) (sh_lst fun _ z => nomatch z) (by decide) (by decide)) rfl)) (by walk_at "ev"), fun _ => ⟨j, rfl, hj⟩⟩
    refine q_asg hc.1 fun H2 f2 => ?_
    have d1 := f2 _ _ c1
    have d2 := f2 _ _ c2
    have f02 := f1.trans f2
    refine q_when (b := decide ((10 : Int) ^ (18 : Int).toNat ≤ c)) (et_test (by walk_at "ev")) (fun hb H3 f3 => ?_) (fun hb H3 f3 => ?_)
    · have hb := of_decide_eq_true hb
      have e18 : (10 : Int) ^ (18 : Int).toNat = 1000000000000000000 := by decide
      rw [e18] at hb
      have e1 := f3 _ _ d1
      have e2 := f3 _ _ d2
      obtain ⟨j, rfl, hj⟩ := hc.2 (by omega)
      refine q_setL (l := l) (v := .int (c / m)) (j := j) e2 (by walk_at "ev") (by walk_at "ev") (by walk_at "ev") (by rw [List.length_map]; exact hj) fun H4 f4 => ?_
      refine s_ret (v := .int (c % m)) (by walk_at "ev") fun H5 f5 => ?_
      have g0 : Bt [h, l] H (upd H4 l (.lst ((ns.map V.int).set j (.int (c / m))))) := (Bt.of_ex ((f02.trans f3).trans f4)).upd (.inl (by simp))
      refine k _ _ (Int.emod_nonneg _ (by omega)) (Int.emod_lt_of_pos _ hm) ⟨Draw.mono f5 ⟨a, p, ns.set j (c / m), ?_, ?_, ?_⟩, g0.trans (Bt.of_ex f5)⟩
      · rw [upd_ne hhl]; exact f4 _ _ e1
      · rw [List.map_set]; exact upd_same
      · rw [List.length_set]; exact e3
    · have e1 := f3 _ _ d1
      have e2 := f3 _ _ d2
      refine q_setL (l := h) (v := .int ((a * 48271 + c * 69621 + 11) % 2147483647)) (j := 0) e1 (by walk_at "ev") (by walk_at "ev") (by walk_at "ev") (by simp) fun H4 f4 => ?_
      have g1 : (upd H4 h (.lst (([.int a, .ref l, .int p] : List V).set 0 (.int ((a * 48271 + c * 69621 + 11) % 2147483647))))) h = some (.lst [.int ((a * 48271 + c * 69621 + 11) % 2147483647), .ref l, .int p]) := upd_same
      refine q_setL (l := h) (v := .int (p + 1)) (j := 2) g1 (by walk_at "ev") (by walk_at "ev") (by walk_at "ev") (by simp) fun H5 f5 => ?_
      have g2 : (upd H5 h (.lst (([.int ((a * 48271 + c * 69621 + 11) % 2147483647), .ref l, .int p] : List V).set 2 (.int (p + 1))))) h = some (.lst [.int ((a * 48271 + c * 69621 + 11) % 2147483647), .ref l, .int (p + 1)]) := upd_same
      refine s_ret (v := .int ((a * 48271 + c * 69621 + 11) % 2147483647 / 7 % m)) (by walk_at "ev") fun H6 f6 => ?_
      refine k _ _ (Int.emod_nonneg _ (by omega)) (Int.emod_lt_of_pos _ hm) ⟨Draw.mono f6 ⟨_, p + 1, ns, g2, ?_, e3⟩, ?_⟩
      · rw [upd_ne hhl.symm]
        refine f5 _ _ ?_
        rw [upd_ne hhl.symm]
        exact f4 _ _ e2
      · have b1 : Bt [h, l] H (upd H4 h (.lst (([.int a, .ref l, .int p] : List V).set 0 (.int ((a * 48271 + c * 69621 + 11) % 2147483647))))) := (Bt.of_ex ((f02.trans f3).trans f4)).upd (.inl (by simp))
        exact ((b1.trans (Bt.of_ex f5)).upd (.inl (by simp))).trans (Bt.of_ex f6)

/-- the draws are laid -/
def sp_law_mix (K : PySem.W.Frag) : Sp := fun vs H Q _ => ∃ (a : Addr) (s : Int) (ns : List Int), vs = [.ref a, .int s] ∧ SqL K H a (ns.map V.int) ∧ ns.length ≤ 63 ∧ ∀ (h l : Addr) (H' : Hp), Ex H H' → Draw H' h l → Q (.ref h) H'
theorem d_law_mix (T : Nb mg) (h : Has K mg "_law_mix" s_law_mix) : Dn P w K mg base CX0 "_law_mix" ["_law_script", "_law_seed"] 1 (sp_law_mix K) := by
  refine dn_of h (fun f fd F => F.binds fun _ _ _ _ _ _ us hl => match us, hl with | [_, _], _ => rfl) fun f fd F _ => F.ok sc_law_mix (fun vs H Q E h => ?_) (fun cdv A outer s H vs Q E hr h => ?_)
  · obtain ⟨_, _, _, rfl, _⟩ := h
    rfl
  · obtain ⟨a, sd, ns, rfl, hS, hn, k⟩ := h
    refine ⟨_, (pss_cons (ps_set (i := 2) sc_law_mix.nd rfl (Or.inl rfl) (pv 1))
    (pss_cons (ps_for PassesOwn.never rfl (pi_list (pv 0)) (pg_name (i := 3) sc_law_mix.nd rfl (Or.inl rfl))
      (pss_one (ps_set (i := 2) sc_law_mix.nd rfl (Or.inl rfl) (pe_op op_mod (pe_op op_add (pe_op op_add (pe_op op_mul (pv 2) pe_int) (pe_op op_mod (pv 3) pe_int)) pe_int) pe_int))))
    (pss_one (ps_ret (pe_lst (pa_cons (pv 2) (pa_cons (pe_callTy (call_list_ofK K) (by rfl) T.n_list PyProof.Rows.boot_list (pa_cons (pv 0) pa_nil)) (pa_cons pe_int pa_nil)))))))), ?_⟩
    refine q_asg (v := .int sd) (by walk_at "ev") fun H1 f1 => ?_
    refine q_forLn (a := a) (xs := ns.map V.int) (by walk_at "ev") (ex_l f1 hS) (fun _ σ' H' => ∃ (z : Int) (v : Option V), σ' = [some (.ref a), some (.int sd), some (.int z), v] ∧ Ex H H')
      (fun H2 f2 => ⟨sd, none, rfl, f1.trans f2⟩) (fun i σ' H' _ ⟨_, _, _, e⟩ => ex_l e hS) ?_ ?_
    · rintro i x σ' H' hi ⟨z, v, rfl, e⟩
      obtain ⟨n, rfl⟩ : ∃ n, x = V.int n := by
        rw [List.getElem?_map] at hi
        cases q : ns[i]? with
        | none => rw [q] at hi; cases hi
        | some n => rw [q] at hi; exact ⟨n, (Option.some.inj hi).symm⟩
      exact s_asg (v := .int ((z * 48271 + n % 2147483629 + 1) % 2147483647)) (by walk_at "ev") fun H2 f2 => ⟨_, _, rfl, e.trans f2⟩
    · rintro σ' H' ⟨z, v, rfl, e⟩
      refine ⟨_, rfl, _, rfl, a, _, rfl, .inl (ex_l e hS), fun l hl => ⟨by show 3 ≤ sizeLine; decide, fun h hh => ?_⟩⟩
      have hlh : l ≠ h := ne_of_none upd_same hh
      refine k h l _ ((e.trans (Ex.new hl)).trans (Ex.new hh)) ⟨z, 0, ns, upd_same, ?_, hn⟩
      rw [upd_ne hlh]
      exact upd_same

/-- a deed at so many cells is drawn -/
def sp_law_deed (K : PySem.W.Frag) : Sp := fun vs H Q _ => ∃ (h l : Addr) (n : Nat), vs = [.ref h, .int n] ∧ Draw H h l ∧ 0 < n ∧ n ≤ 4 ∧ ∀ (v : V) (d : Deed) (H' : Hp), DV K H' v d → d.ok n → Drew H H' h l → Q v H'
theorem d_law_deed (T : Nb mg) (D_law_next : Dn P w K mg base CX0 "_law_next" ["_law_h", "_law_many"] 1 sp_law_next) (h : Has K mg "_law_deed" s_law_deed) : Dn P w K mg base CX0 "_law_deed" ["_law_h", "_law_cells"] 2 (sp_law_deed K) := by
  refine dn_of h (fun f fd F => F.binds fun _ _ _ _ _ _ us hl => match us, hl with | [_, _], _ => rfl) fun f fd F _ => F.ok sc_law_deed (fun vs H Q E h => ?_) (fun cdv A outer s H vs Q E hr h => ?_)
  · obtain ⟨_, _, _, rfl, _⟩ := h
    rfl
  · obtain ⟨h, l, n, rfl, D, hn, hn4, k⟩ := h
    refine ⟨_, (pss_cons (ps_set (i := 2) sc_law_deed.nd rfl (Or.inl rfl) (pe_dn D_law_next hr (by omega) pass0 (pa_cons (pv 0) (pa_cons (pv 1) pa_nil))))
    (pss_one (ps_ret (pe_ix (ix_listK K) (pe_lst (pa_cons (pe_tup (pa_cons pe_str (pa_cons (pv 2) pa_nil))) (pa_cons (pe_tup (pa_cons pe_str (pa_cons (pv 2) (pa_cons (pe_dn D_law_next hr (by omega) pass0 (pa_cons (pv 0) (pa_cons pe_int pa_nil))) pa_nil)))) (pa_cons (pe_tup (pa_cons pe_str (pa_cons (pv 2) pa_nil))) (pa_cons (pe_tup (pa_cons pe_str pa_nil)) pa_nil))))) (pe_op op_fdiv (pe_dn D_law_next hr (by omega) pass0 (pa_cons (pv 0) (pa_cons pe_int pa_nil))) pe_int) (fun _ _ => rfl))))), ?_⟩
    -- the cell
    refine ⟨_, rfl, _, rfl, h, l, n, rfl, D, by omega, by omega, fun c H1 c0 c1 D1 => ?_⟩
    obtain ⟨c, rfl⟩ : ∃ j : Nat, c = (j : Int) := ⟨c.toNat, by omega⟩
    -- the first tuple
    refine ⟨_, rfl, by show 2 ≤ sizeLine; decide, fun p1 n1 => ?_⟩
    have D2 := D1.new (o := .tup [.str "read", .int c]) n1
    -- the second one, its worth
    refine ⟨_, rfl, _, rfl, h, l, 3, rfl, D2.dr, by decide, by decide, fun r H3 r0 r1 D3 => ⟨by show 3 ≤ sizeLine; decide, fun p2 n2 => ?_⟩⟩
    obtain ⟨r, rfl⟩ : ∃ j : Nat, r = (j : Int) := ⟨r.toNat, by omega⟩
    have t1 : SqT K H3 p1 (Deed.rd c).vals := D2.dr.t D3.bt (SqT.of upd_same)
    have D4 := D3.new (o := .tup [.str "write", .int c, .int r]) n2
    -- the third one, the fourth one, the list
    refine ⟨_, rfl, by show 2 ≤ sizeLine; decide, fun p3 n3 => ⟨by show 1 ≤ sizeLine; decide, fun p4 n4 => ⟨by show 4 ≤ sizeLine; decide, fun pl nl => ?_⟩⟩⟩
    have D5 := D4.new (o := .tup [.str "read", .int c]) n3
    have D6 := D5.new (o := .tup [.str "rest"]) n4
    have D7 := D6.new (o := .lst [.ref p1, .ref p2, .ref p3, .ref p4]) nl
    -- which one
    refine ⟨_, rfl, h, l, 7, rfl, D7.dr, by decide, by decide, fun z H8 z0 z1 D8 => ?_⟩
    have e1 : SqT K H8 p1 (Deed.rd c).vals := D7.dr.t D8.bt (ex_t (Ex.new nl) (ex_t (Ex.new n4) (ex_t (Ex.new n3) (ex_t (Ex.new n2) t1))))
    have e2 : SqT K H8 p2 (Deed.wr c r).vals := D7.dr.t D8.bt (ex_t (Ex.new nl) (ex_t (Ex.new n4) (ex_t (Ex.new n3) (SqT.of upd_same))))
    have e3 : SqT K H8 p3 (Deed.rd c).vals := D7.dr.t D8.bt (ex_t (Ex.new nl) (ex_t (Ex.new n4) (SqT.of upd_same)))
    have e4 : SqT K H8 p4 Deed.rs.vals := D7.dr.t D8.bt (ex_t (Ex.new nl) (SqT.of upd_same))
    have hl7 : ¬ pl ∈ [h, l] := by
      obtain ⟨_, _, _, q1, q2, _⟩ := D6.dr.st
      simp only [List.mem_cons, List.not_mem_nil, or_false]
      rintro (rfl | rfl)
      · rw [nl] at q1; cases q1
      · rw [nl] at q2; cases q2
    have el : H8 pl = some (.lst [.ref p1, .ref p2, .ref p3, .ref p4]) := D8.bt _ _ hl7 upd_same
    have DD : Drew H H8 h l := (D2.trans D7).trans D8
    refine ⟨z, 2, rfl, rfl, ⟨by decide, by decide⟩, pl, _, z / 2, ?v, rfl, rfl, SqL.of el, ?w, ?q⟩
    case v => exact if z < 2 then .ref p1 else if z < 4 then .ref p2 else if z < 6 then .ref p3 else .ref p4
    case w =>
      by_cases h2 : z < 2
      · have : z / 2 = 0 := by omega
        rw [this, if_pos h2]; rfl
      · by_cases h4 : z < 4
        · have : z / 2 = 1 := by omega
          rw [this, if_neg h2, if_pos h4]; rfl
        · by_cases h6 : z < 6
          · have : z / 2 = 2 := by omega
            rw [this, if_neg h2, if_neg h4, if_pos h6]; rfl
          · have : z / 2 = 3 := by omega
            rw [this, if_neg h2, if_neg h4, if_neg h6]; rfl
    case q =>
      refine k _ (if z < 2 then .rd c else if z < 4 then .wr c r else if z < 6 then .rd c else .rs) H8 ?_ ?_ DD
      · split
        · exact ⟨p1, rfl, e1⟩
        · split
          · exact ⟨p2, rfl, e2⟩
          · split
            · exact ⟨p3, rfl, e3⟩
            · exact ⟨p4, rfl, e4⟩
      · split
        · show c < n; omega
        · split
          · exact ⟨by omega, by omega⟩
          · split
            · show c < n; omega
            · exact True.intro

/-- a program of up to so many deeds is drawn -/
def sp_law_program (K : PySem.W.Frag) : Sp := fun vs H Q _ => ∃ (h l : Addr) (n m : Nat), vs = [.ref h, .int n, .int m] ∧ Draw H h l ∧ 0 < n ∧ n ≤ 4 ∧ m ≤ 40 ∧
  ∀ (p : Addr) (us : List V) (ds : List Deed) (H' : Hp), H p = none → H' p = some (.lst us) → PV K H' us ds → ds.length ≤ m → (∀ d ∈ ds, d.ok n) → Drew H H' h l → Q (.ref p) H'
theorem d_law_program (T : Nb mg) (D_law_next : Dn P w K mg base CX0 "_law_next" ["_law_h", "_law_many"] 1 sp_law_next) (D_law_deed : Dn P w K mg base CX0 "_law_deed" ["_law_h", "_law_cells"] 2 (sp_law_deed K))
    (h : Has K mg "_law_program" s_law_program) : Dn P w K mg base CX0 "_law_program" ["_law_h", "_law_cells", "_law_most"] 3 (sp_law_program K) := by
  refine dn_of h (fun f fd F => F.binds fun _ _ _ _ _ _ us hl => match us, hl with | [_, _, _], _ => rfl) fun f fd F _ => F.ok sc_law_program (fun vs H Q E h => ?_) (fun cdv A outer s H vs Q E hr h => ?_)
  · obtain ⟨_, _, _, _, rfl, _⟩ := h
    rfl
  · obtain ⟨h, l, n, m, rfl, D, hn, hn4, hm, k⟩ := h
    refine ⟨_, (pss_one (ps_ret (pe_lc (own := [("_law_k", 3)]) rfl sc_law_program.nd (pi_range1 rfl T.n_range (pa_cons (pe_dn D_law_next hr (by omega) pass0 (pa_cons (pv 0) (pa_cons (pe_op op_add (pv 2) pe_int) pa_nil))) pa_nil)) (blkOk_by (own := [("_law_k", 3)]) (N := ["_law_h", "_law_cells", "_law_most", "_law_k"]) (sc := defScope s_law_program) (by decide +kernel)) (fun _ _ _ _ _ => (pg_name (i := 3) sc_law_program.nd rfl (Or.inl rfl))) (fun _ _ _ _ _ => pts_nil) (fun _ _ _ _ _ => (pe_dn D_law_deed hr (by omega) pass0 (pa_cons (pv 0) (pa_cons (pv 1) pa_nil))))))), ?_⟩
    refine ⟨_, rfl, _, rfl, _, _, rfl, rfl, h, l, (m : Int) + 1, rfl, D, by omega, by omega, fun c H1 c0 c1 D1 => ?_⟩
    obtain ⟨c, rfl⟩ : ∃ j : Nat, c = (j : Int) := ⟨c.toNat, by omega⟩
    refine ⟨(c : Int), rfl, by omega, by omega, fun p hp => ?_⟩
    have hp0 : ¬ p ∈ [h, l] := by
      obtain ⟨_, _, _, q1, q2, _⟩ := D1.dr.st
      simp only [List.mem_cons, List.not_mem_nil, or_false]
      rintro (rfl | rfl)
      · rw [hp] at q1; cases q1
      · rw [hp] at q2; cases q2
    refine lc_range (lo := 0) (n := (c : Int).toNat) (fun i H' => ∃ us ds, H' p = some (.lst us) ∧ PV K H' us ds ∧ ds.length = i ∧ (∀ d ∈ ds, d.ok n) ∧ Drew H H' h l)
      ⟨[], [], upd_same, .nil, rfl, (fun _ z => nomatch z), D1.new hp⟩ ?_ ?_
    · rintro i H' hi ⟨us, ds, e1, e2, e3, e4, e5⟩
      refine ⟨rfl, _, rfl, _, rfl, h, l, n, rfl, e5.dr, hn, hn4, fun v d H2 g1 g2 g3 => ⟨us, g3.bt p _ hp0 e1, ?_, us ++ [v], ds ++ [d], upd_same, ?_, ?_, ?_, ?_⟩⟩
      · have q := e2.length
        have q2 : (1000 : Nat) < sizeLine := by decide
        omega
      · have a1 : PV K H2 us ds := e5.dr.pv g3.bt e2
        have a2 := PV.snoc g1 a1
        have b : Bt [p] H2 (upd H2 p (.lst (us ++ [v]))) := (Bt.refl H2).upd (.inl (by simp))
        exact pv_map (fun v d q => dv_but b (g3.bt p _ hp0 e1) q) a2
      · rw [List.length_append, e3]; rfl
      · intro x hx
        rcases List.mem_append.mp hx with hx | hx
        · exact e4 x hx
        · rw [List.mem_singleton.mp hx]; exact g2
      · have g := e5.trans g3
        refine ⟨?_, g.bt.upd (.inr (D1.bt.free hp0 hp))⟩
        obtain ⟨a, p', ns, q1, q2, q3⟩ := g.dr.st
        refine ⟨a, p', ns, ?_, ?_, q3⟩
        · rw [upd_ne (fun z => hp0 (by rw [← z]; simp))]; exact q1
        · rw [upd_ne (fun z => hp0 (by rw [← z]; simp))]; exact q2
    · rintro H' ⟨us, ds, e1, e2, e3, e4, e5⟩
      exact k p us ds H' (D1.bt.free hp0 hp) e1 e2 (by omega) e4 e5

/-- two that are the same data are found alike -/
def sp_law_alike (K : PySem.W.Frag) : Nat → Sp
  | 0 => fun _ _ _ _ => False
  | n + 1 => fun vs H Q _ => ∃ (a b : V) (d : PyData), vs = [a, b] ∧ Dp K H a d ∧ Dp K H b d ∧ Nice n d ∧ ∀ H', Ex H H' → Q (.bl true) H'
theorem sp_law_alike_v {n : Nat} {H : Hp} {a b : V} {d : PyData} (h1 : Dp K H a d) (h2 : Dp K H b d) (h3 : Nice n d) : SpV (sp_law_alike K (n + 1)) [a, b] H (.bl true) := fun H1 e Q q _ =>
  ⟨a, b, d, rfl, dp_mono e d a h1, dp_mono e d b h2, h3, q⟩
theorem d_law_alike (T : Nb mg) (h : Has K mg "_law_alike" s_law_alike) : ∀ n, Dn P w K mg base CX0 "_law_alike" ["_law_found", "_law_due"] (n + 1) (sp_law_alike K n)
  | 0 => by
    refine dn_of h (fun f fd F => F.binds fun _ _ _ _ _ _ us hl => match us, hl with | [_, _], _ => rfl) fun f fd F _ => ⟨fun _ _ _ _ z => z.elim, fun _ _ _ _ _ _ _ _ _ _ _ _ _ z => z.elim⟩
  | n + 1 => by
    have D_law_alike := d_law_alike T h n
    refine dn_of h (fun f fd F => F.binds fun _ _ _ _ _ _ us hl => match us, hl with | [_, _], _ => rfl) fun f fd F _ => F.ok sc_law_alike (fun vs H Q E h => ?_) (fun cdv A outer s H vs Q E hr h => ?_)
    · obtain ⟨_, _, _, rfl, _⟩ := h
      rfl
    · obtain ⟨a, b, d, rfl, h1, h2, h3, k⟩ := h
      refine ⟨_, (pss_cons (ps_if (pt_val (pe_callB (call_isiTK K) (by rfl) T.n_isinstance PyProof.Rows.boot_isinstance (pa_cons (pv 1) (pa_cons (pe_tup (pa_cons (pe_bltn (v := .ty "tuple") rfl T.n_tuple PyProof.Rows.boot_tuple rfl) (pa_cons (pe_bltn (v := .ty "list") rfl T.n_list PyProof.Rows.boot_list rfl) pa_nil))) pa_nil)))) (pss_cons (ps_if (PW.pt (pw_or (pt_not (pt_val (pe_callB (call_isiTK K) (by rfl) T.n_isinstance PyProof.Rows.boot_isinstance (pa_cons (pv 0) (pa_cons (pe_tup (pa_cons (pe_bltn (v := .ty "tuple") rfl T.n_tuple PyProof.Rows.boot_tuple rfl) (pa_cons (pe_bltn (v := .ty "list") rfl T.n_list PyProof.Rows.boot_list rfl) pa_nil))) pa_nil))))) (pw_or1 (pt_cmpR op_ne (pe_callB (call_isiK2 K) (by rfl) T.n_isinstance PyProof.Rows.boot_isinstance (pa_cons (pv 0) (pa_cons (pe_bltn (v := .ty "list") rfl T.n_list PyProof.Rows.boot_list rfl) pa_nil))) (pe_callB (call_isiK2 K) (by rfl) T.n_isinstance PyProof.Rows.boot_isinstance (pa_cons (pv 1) (pa_cons (pe_bltn (v := .ty "list") rfl T.n_list PyProof.Rows.boot_list rfl) pa_nil))) (nomark _))))) (pss_one (ps_ret pe_bl)) pss_nil)
      (pss_cons (ps_if (pt_cmpR op_ne (pe_callB (call_len_seqK K) (by rfl) T.n_len PySem.boot_len (pa_cons (pv 0) pa_nil)) (pe_callB (call_len_seqK K) (by rfl) T.n_len PySem.boot_len (pa_cons (pv 1) pa_nil)) (nomark _)) (pss_one (ps_ret pe_bl)) pss_nil)
      (pss_one (ps_ret (pe_cmpR (op_eqDK K rfl hr.units) (pe_lc (own := [("_law_k", 2)]) rfl sc_law_alike.nd (pi_range1 rfl T.n_range (pa_cons (pe_callB (call_len_seqK K) (by rfl) T.n_len PySem.boot_len (pa_cons (pv 1) pa_nil)) pa_nil)) (blkOk_by (own := [("_law_k", 2)]) (N := ["_law_found", "_law_due", "_law_k"]) (sc := defScope s_law_alike) (by decide +kernel)) (fun _ _ _ _ _ => (pg_name (i := 2) sc_law_alike.nd rfl (Or.inl rfl))) (fun _ _ _ _ _ => pts_one (pt_not (pt_val (pe_dn D_law_alike hr (by omega) pass0 (pa_cons (pe_ix (ix_anyK K) (pv 0) (pv 2) (fun _ _ => rfl)) (pa_cons (pe_ix (ix_anyK K) (pv 1) (pv 2) (fun _ _ => rfl)) pa_nil)))))) (fun _ _ _ _ _ => (pv 2))) (pe_lst pa_nil) (nomark _)))))) pss_nil)
    (pss_cons (ps_if (pt_cmpR op_isN (pv 1) pe_non (nomark _)) (pss_one (ps_ret (pe_cmpR op_isN (pv 0) pe_non (nomark _)))) pss_nil)
    (pss_cons (ps_if (pt_val (pe_callB (call_isiK2 K) (by rfl) T.n_isinstance PyProof.Rows.boot_isinstance (pa_cons (pv 1) (pa_cons (pe_bltn (v := .ty "str") rfl T.n_str PyProof.Rows.boot_str rfl) pa_nil)))) (pss_one (ps_ret (pe_and (pe_callB (call_isiK2 K) (by rfl) T.n_isinstance PyProof.Rows.boot_isinstance (pa_cons (pv 0) (pa_cons (pe_bltn (v := .ty "str") rfl T.n_str PyProof.Rows.boot_str rfl) pa_nil))) (pe_one (pe_cmpR op_eq (pv 0) (pv 1) (nomark _)))))) pss_nil)
    (pss_cons (ps_if (PW.pt (pw_or (pt_val (pe_callB (call_isiK2 K) (by rfl) T.n_isinstance PyProof.Rows.boot_isinstance (pa_cons (pv 1) (pa_cons (pe_bltn (v := .ty "bool") rfl T.n_bool PyProof.Rows.boot_bool rfl) pa_nil)))) (pw_or1 (pt_val (pe_callB (call_isiK2 K) (by rfl) T.n_isinstance PyProof.Rows.boot_isinstance (pa_cons (pv 0) (pa_cons (pe_bltn (v := .ty "bool") rfl T.n_bool PyProof.Rows.boot_bool rfl) pa_nil))))))) (pss_one (ps_ret (pe_and (pe_callB (call_isiK2 K) (by rfl) T.n_isinstance PyProof.Rows.boot_isinstance (pa_cons (pv 1) (pa_cons (pe_bltn (v := .ty "bool") rfl T.n_bool PyProof.Rows.boot_bool rfl) pa_nil))) (pe_and (pe_callB (call_isiK2 K) (by rfl) T.n_isinstance PyProof.Rows.boot_isinstance (pa_cons (pv 0) (pa_cons (pe_bltn (v := .ty "bool") rfl T.n_bool PyProof.Rows.boot_bool rfl) pa_nil))) (pe_one (pe_cmpR op_eq (pv 0) (pv 1) (nomark _))))))) pss_nil)
    (pss_one (ps_ret (pe_and (pe_callB (call_isiK2 K) (by rfl) T.n_isinstance PyProof.Rows.boot_isinstance (pa_cons (pv 0) (pa_cons (pe_bltn (v := .ty "int") rfl T.n_int PyProof.Rows.boot_int rfl) pa_nil))) (pe_one (pe_cmpR op_eq (pv 0) (pv 1) (nomark _)))))))))), ?_⟩
      have cs : (∃ (p q : Addr) (xs ys : List V) (ds : List PyData) (ty : String), a = .ref p ∧ b = .ref q ∧ SqA K H p xs ∧ SqA K H q ys ∧ DpAll K H xs ds ∧ DpAll K H ys ds ∧ ds.length ≤ 1000 ∧ (∀ d ∈ ds, ∃ m, m + 1 = n ∧ Nice m d) ∧
          TyS K H a (.type ty) ∧ TyS K H b (.type ty) ∧ (ty = "list" ∨ ty = "tuple")) ∨
          (∃ ty : String, TyS K H a (.type ty) ∧ TyS K H b (.type ty) ∧ kitB ty "tuple" = some false ∧ kitB ty "list" = some false ∧ ((ty = "NoneType" ∧ a = .non ∧ b = .non) ∨ (b ≠ .non ∧ a = b ∧ (ty = "int" ∨ ty = "str" ∨ ty = "bool") ∧ scal a a = true))) := by
        cases h3 with
        | non =>
          cases h1; cases h2
          exact .inr ⟨"NoneType", tys_non, tys_non, by decide +kernel, by decide +kernel, .inl ⟨rfl, rfl, rfl⟩⟩
        | bl x =>
          cases h1; cases h2
          exact .inr ⟨"bool", tys_bl, tys_bl, by decide +kernel, by decide +kernel, .inr ⟨(fun z => by cases z), rfl, .inr (.inr rfl), rfl⟩⟩
        | int x =>
          cases h1; cases h2
          exact .inr ⟨"int", tys_int, tys_int, by decide +kernel, by decide +kernel, .inr ⟨(fun z => by cases z), rfl, .inl rfl, rfl⟩⟩
        | str x =>
          cases h1; cases h2
          exact .inr ⟨"str", tys_str, tys_str, by decide +kernel, by decide +kernel, .inr ⟨(fun z => by cases z), rfl, .inr (.inl rfl), rfl⟩⟩
        | @lst m ds hl hd =>
          cases h1 with
          | lst a1 a2 =>
            cases h2 with
            | lst b1 b2 => exact .inl ⟨_, _, _, _, ds, "list", rfl, rfl, .inl a1, .inl b1, a2, b2, hl, (fun d z => ⟨m, rfl, hd d z⟩), tys_lst a1, tys_lst b1, .inl rfl⟩
        | @tup m ds hl hd =>
          cases h1 with
          | tup a1 a2 =>
            cases h2 with
            | tup b1 b2 => exact .inl ⟨_, _, _, _, ds, "tuple", rfl, rfl, .inr a1, .inr b1, a2, b2, hl, (fun d z => ⟨m, rfl, hd d z⟩), tys_tup a1, tys_tup b1, .inr rfl⟩
      rcases cs with ⟨p, q, xs, ys, ds, ty, ea, eb, ha, hb, h4, h5, h6, h7, ta, tb, hty⟩ | ⟨ty, ta, tb, k1, k2, hc⟩
      · have ha0 := ha
        have hb0 := hb
        subst ea eb
        have l1 := dpa_len h4
        have l2 := dpa_len h5
        obtain ⟨b1, b2, k1, k2, hb⟩ : ∃ b1 b2, kitB ty "tuple" = some b1 ∧ kitB ty "list" = some b2 ∧ (b1 || b2) = true := by
          rcases hty with rfl | rfl
          · exact ⟨false, true, by decide +kernel, by decide +kernel, rfl⟩
          · exact ⟨true, false, by decide +kernel, by decide +kernel, rfl⟩
        refine q_when (b := true) (et_B (ev_is (ev_isi2 (by walk_at "ev") tb k1 k2) (by rw [hb]))) (fun _ H1 f1 => ?_) (fun z => nomatch z)
        refine q_when (b := false) (et_is (et_or (et_not (et_B (ev_isi2 (by walk_at "ev") (fun H2 f2 => ta H2 (f1.trans f2)) k1 k2))) (fun _ => et_test (ev_op (ev_cb (by walk_at "ea") (rc_isiB (fun H2 f2 => ta H2 (f1.trans f2)) k2)) (ev_cb (by walk_at "ea") (rc_isiB (fun H2 f2 => tb H2 (f1.trans f2)) k2)) (rv_ne rfl))))
          (by rw [hb]; cases b2 <;> decide)) (fun z => nomatch z) (fun _ H2 f2 => ?_)
        have ha2 := ex_a (f1.trans f2) ha
        have hb2 := ex_a (f1.trans f2) hb0
        refine q_when (b := false) (et_is (et_test (ev_op (ev_cb (by walk_at "ea") (rc_len ha2)) (ev_cb (by walk_at "ea") (rc_len hb2)) (rv_ne rfl))) (by rw [l1, l2]; simp)) (fun z => nomatch z) (fun _ H3 f3 => ?_)
        have f03 := (f1.trans f2).trans f3
        have ha3 := ex_a f3 ha2
        have hb3 := ex_a f3 hb2
        refine s_ret (v := .bl true) (ev_opLL (xs := []) (ys := []) (by
          have q := el_lcR1 (σ := start ["_law_found", "_law_due", "_law_k"] [.ref p, .ref q]) (H := H3) (ta := tCons (tCB (rLenS K) (tCons (tVar 1) tNil)) tNil) (n := (ys.length : Int)) (j := 2) (vs := [2]) (te := tVar 2) (t := tNot (tB (tCall (sp_law_alike K n) [] E0 (tCons (tOp (rIxA K) (tVar 0) (tVar 2)) (tCons (tOp (rIxA K) (tVar 1) (tVar 2)) tNil))))) (fun _ => false) (fun _ => .non)
            (ea_cons (ev_cb (by walk_at "ea") (rc_len hb3)) ea_nil) (by omega) (fun x => rfl) (fun i H4 f4 hi => ?_) (fun i H4 f4 hi z => nomatch z)
          · rw [given_none] at q
            exact q
          · obtain ⟨d, hd⟩ : ∃ d, ds[i]? = some d := ⟨ds[i], List.getElem?_eq_getElem (by omega)⟩
            obtain ⟨x, hx, dx⟩ := dpa_get h4 hd
            obtain ⟨y, hy, dy⟩ := dpa_get h5 hd
            obtain ⟨m, rfl, hm⟩ := h7 d (List.mem_of_getElem? hd)
            have f04 := f03.trans f4
            have c := sp_law_alike_v (K := K) (dp_mono f04 d x dx) (dp_mono f04 d y dy) hm
            exact et_not (et_B (ev_call (ea_cons (ev_op (by walk_at "ev") (by walk_at "ev") (rv_ixA (ex_a f4 ha3) (atI_nat hx))) (ea_cons (ev_op (by walk_at "ev") (by walk_at "ev") (rv_ixA (ex_a f4 hb3) (atI_nat hy))) ea_nil)) c)))
          (el_lst ea_nil (by decide)) fun p1 p2 H4 g1 g2 f4 => rv_is (rv_eqD (n := 1) (m := 1) (d := .list []) (e := .list []) (.lst (SqL.of g1) .nil) (.lst (SqL.of g2) .nil) (sh_lst fun _ z => nomatch z) (sh_lst fun _ z => nomatch z) (by decide) (by decide)) rfl) fun H4 f4 => k H4 (f03.trans f4)
      · refine q_when (b := false) (et_B (ev_isi2 (by walk_at "ev") tb k1 k2)) (fun z => nomatch z) (fun _ H1 f1 => ?_)
        rcases hc with ⟨rfl, rfl, rfl⟩ | ⟨hb, rfl, hty, hs⟩
        · refine q_when (b := true) (et_is (et_test (ev_op (x := .non) (y := .non) (by walk_at "ev") (by walk_at "ev") (rv_val fun H2 _ Q q => ⟨rfl, q⟩))) (by decide)) (fun _ H2 f2 => ?_) (fun z => nomatch z)
          exact s_ret (v := .bl true) (ev_op (x := .non) (y := .non) (by walk_at "ev") (by walk_at "ev") (rv_val fun H2 _ Q q => ⟨rfl, q⟩)) fun H3 f3 => k H3 ((f1.trans f2).trans f3)
        · refine q_when (b := false) (et_is (et_test (ev_op (x := a) (y := .non) (z := .bl (decide (a = .non))) (by walk_at "ev") (by walk_at "ev") (rv_val fun H2 _ Q q => ⟨rfl, q⟩))) (by simp [hb])) (fun z => nomatch z) (fun _ H2 f2 => ?_)
          have ta2 : TyS K H2 a (.type ty) := fun H3 f3 => ta H3 ((f1.trans f2).trans f3)
          rcases hty with rfl | rfl | rfl
          · refine q_when (b := false) (et_B (ev_cb (by walk_at "ea") (rc_isiB ta2 (by decide +kernel)))) (fun z => nomatch z) (fun _ H3 f3 => ?_)
            have ta3 : TyS K H3 a (.type "int") := fun H4 f4 => ta2 H4 (f3.trans f4)
            refine q_when (b := false) (et_is (a := false || false) (et_or (et_B (ev_cb (by walk_at "ea") (rc_isiB (b := false) ta3 (by decide +kernel)))) (fun _ => et_B (ev_cb (by walk_at "ea") (rc_isiB (b := false) ta3 (by decide +kernel))))) rfl) (fun z => nomatch z) (fun _ H4 f4 => ?_)
            have ta4 : TyS K H4 a (.type "int") := fun H5 f5 => ta3 H5 (f4.trans f5)
            exact s_ret (v := .bl true) (ev_is (ev_andV (a := true) (b := decide (a = a)) (ev_cb (by walk_at "ea") (rc_isiB (b := true) ta4 (by decide +kernel))) (fun _ => ev_op (x := a) (y := a) (by walk_at "ev") (by walk_at "ev") (rv_eq hs))) (by simp)) fun H5 f5 => k H5 ((((f1.trans f2).trans f3).trans f4).trans f5)
          · refine q_when (b := true) (et_B (ev_cb (by walk_at "ea") (rc_isiB ta2 (by decide +kernel)))) (fun _ H3 f3 => ?_) (fun z => nomatch z)
            have ta3 : TyS K H3 a (.type "str") := fun H4 f4 => ta2 H4 (f3.trans f4)
            exact s_ret (v := .bl true) (ev_is (ev_andV (a := true) (b := decide (a = a)) (ev_cb (by walk_at "ea") (rc_isiB (b := true) ta3 (by decide +kernel))) (fun _ => ev_op (x := a) (y := a) (by walk_at "ev") (by walk_at "ev") (rv_eq hs))) (by simp)) fun H4 f4 => k H4 (((f1.trans f2).trans f3).trans f4)
          · refine q_when (b := false) (et_B (ev_cb (by walk_at "ea") (rc_isiB ta2 (by decide +kernel)))) (fun z => nomatch z) (fun _ H3 f3 => ?_)
            have ta3 : TyS K H3 a (.type "bool") := fun H4 f4 => ta2 H4 (f3.trans f4)
            refine q_when (b := true) (et_is (et_or (a := true) (b := true) (et_B (ev_cb (by walk_at "ea") (rc_isiB (b := true) ta3 (by decide +kernel)))) (fun z => nomatch z)) rfl) (fun _ H4 f4 => ?_) (fun z => nomatch z)
            have ta4 : TyS K H4 a (.type "bool") := fun H5 f5 => ta3 H5 (f4.trans f5)
            exact s_ret (v := .bl true) (ev_is (ev_andV (a := true) (b := true && decide (a = a)) (ev_cb (by walk_at "ea") (rc_isiB (b := true) ta4 (by decide +kernel))) (fun _ => ev_andV (a := true) (b := decide (a = a)) (ev_cb (by walk_at "ea") (rc_isiB (b := true) ta4 (by decide +kernel))) (fun _ => ev_op (x := a) (y := a) (by walk_at "ev") (by walk_at "ev") (rv_eq hs)))) (by simp)) fun H5 f5 => k H5 ((((f1.trans f2).trans f3).trans f4).trans f5)

def sp_law_shows (K : PySem.W.Frag) : Sp := fun vs H Q _ => ∃ (p q r : Addr) (us xs ys : List V) (ds es : List Deed) (rs : List (Int × Int)), vs = [.ref p, .ref q, .ref r] ∧ SqL K H p us ∧ PV K H us ds ∧ ds.length ≤ 40 ∧ SqL K H q xs ∧ PV K H xs es ∧ SqL K H r ys ∧ IVs K H ys rs ∧ rs.length ≤ 100 ∧
  ∀ (H' : Hp), Ex H H' → Q (.bl (whyOk ds es 0 0 rs)) H'
theorem d_law_shows (T : Nb mg) (D_law_at : Dn P w K mg base CX0 "_law_at" ["_law_program_here", "_law_beat"] 1 (sp_law_at K)) (D_law_meet : Dn P w K mg base CX0 "_law_meet" ["_law_one", "_law_other"] 1 (sp_law_meet K)) (h : Has K mg "_law_shows" s_law_shows) : Dn P w K mg base CX0 "_law_shows" ["_law_left", "_law_right", "_law_reason"] 2 (sp_law_shows K) := by
  refine dn_of h (fun f fd F => F.binds fun _ _ _ _ _ _ us hl => match us, hl with | [_, _, _], _ => rfl) fun f fd F _ => F.ok sc_law_shows (fun vs H Q E h => ?_) (fun cdv A outer s H vs Q E hr h => ?_)
  · obtain ⟨_, _, _, _, _, _, _, _, _, rfl, _⟩ := h
    rfl
  obtain ⟨p, q, r, us, xs, ys, ds, es, rs, rfl, hp, hP, hl, hq, hX, hr1, hR, hl3, k⟩ := h
  refine ⟨_, (pss_cons (ps_for PassesOwn.never rfl (pi_range1 rfl T.n_range (pa_cons (pe_callB (call_len_seqK K) (by rfl) T.n_len PySem.boot_len (pa_cons (pv 2) pa_nil)) pa_nil)) (pg_name (i := 3) sc_law_shows.nd rfl (Or.inl rfl))
      (pss_cons (ps_asg (pe_ix (ix_listK K) (pv 2) (pv 3) (fun _ _ => rfl)) (pg_tup rfl (pgs_cons (pg_name (i := 4) sc_law_shows.nd rfl (Or.inl rfl)) (pgs_cons (pg_name (i := 5) sc_law_shows.nd rfl (Or.inl rfl)) pgs_nil))))
      (pss_cons (ps_if (PW.pt (pw_or (pt_not (pt_chain op_le op_lt pe_int (pv 5) (pe_callB (call_len_seqK K) (by rfl) T.n_len PySem.boot_len (pa_cons (pv 1) pa_nil)))) (pw_or1 (PW.pt (pw_and (pt_cmpR op_gt (pv 3) pe_int (nomark _)) (pw_and1 (pt_cmpR op_lt (pv 5) (pe_ix (ix_tupK K) (pe_ix (ix_listK K) (pv 2) (pe_op op_sub (pv 3) pe_int) (fun _ _ => rfl)) pe_int (fun _ _ => rfl)) (nomark _)))))))) (pss_one (ps_ret pe_bl)) pss_nil)
      (pss_one (ps_if (PW.pt (pw_or (pt_cmpR op_ne (pe_op op_sub (pv 4) (pv 5)) (pv 3) (nomark _)) (pw_or1 (pt_not (pt_val (pe_dn D_law_meet hr (by omega) pass0 (pa_cons (pe_dn D_law_at hr (by omega) pass0 (pa_cons (pv 0) (pa_cons (pv 4) pa_nil))) (pa_cons (pe_ix (ix_listK K) (pv 1) (pv 5) (fun _ _ => rfl)) pa_nil)))))))) (pss_one (ps_ret pe_bl)) pss_nil)))))
    (pss_one (ps_ret pe_bl))), ?_⟩
  have lu := hP.length
  have lx := hX.length
  have ly := hR.length
  refine q_forR1 (n := (ys.length : Int)) (ea_cons (ev_cb (ea_cons (ev_var (v := .ref r) rfl) ea_nil) (rc_lenL hr1)) ea_nil) (by omega) (fun i σ' H' => ∃ (least : Int) (v3 v4 v5 : Option V), σ' = [some (.ref p), some (.ref q), some (.ref r), v3, v4, v5] ∧ whyOk ds es 0 0 rs = whyOk ds es i least (rs.drop i) ∧ 0 ≤ least ∧ (i = 0 → least = 0) ∧ (∀ z, i > 0 → rs[i - 1]? = some z → least = z.2) ∧ Ex H H')
    (fun H1 f1 => ⟨0, none, none, none, rfl, rfl, Int.le_refl _, fun _ => rfl, (fun z hz => absurd hz (by omega)), f1⟩) ?_ ?_
  · rintro i σ' H6 hi ⟨least, v3, v4, v5, rfl, hw, hl0, hz0, hz1, ge⟩
    have hi2 : i < rs.length := by omega
    have hat : ys[i]? = some ys[i] := List.getElem?_eq_getElem (by omega)
    obtain ⟨⟨bb, nn⟩, hbn, pa, hpe, hpa⟩ := (hR.mono ge).get hat
    refine ⟨_, rfl, _, rfl, r, ys, _, ys[i], rfl, rfl, ex_l ge hr1, atI_nat hat, ?_⟩
    rw [hpe]
    refine ⟨pa, _, rfl, hpa, rfl, _, _, rfl, _, _, rfl, rfl, ?_⟩
    dsimp only
    have ed : rs.drop i = (bb, nn) :: rs.drop (i + 1) := by
      rw [List.drop_eq_getElem_cons hi2]
      rw [List.getElem?_eq_getElem hi2] at hbn
      rw [Option.some.inj hbn]
    rw [ed] at hw
    have hw2 : whyOk ds es i least ((bb, nn) :: rs.drop (i + 1)) = ((decide (least ≤ nn ∧ nn < es.length) && decide (bb = nn + i)) && (clashD (ds.getD bb.toNat .rs) (es.getD nn.toNat .rs) && whyOk ds es (i + 1) nn (rs.drop (i + 1)))) := rfl
    rw [hw2] at hw
    have prev : 0 < i → ∃ (pb : Int) (pv : Addr), ys[i - 1]? = some (.ref pv) ∧ SqT K H6 pv [.int pb, .int least] := fun h0 => by
      have hat2 : ys[i - 1]? = some ys[i - 1] := List.getElem?_eq_getElem (by omega)
      obtain ⟨⟨b2, n2⟩, hbn2, pa2, hpe2, hpa2⟩ := (hR.mono ge).get hat2
      have e := hz1 _ h0 hbn2
      exact ⟨b2, pa2, by rw [hat2, hpe2], by rw [e]; exact hpa2⟩
    refine q_when (b := !(decide (0 ≤ nn) && decide (nn < (xs.length : Int))) || (decide (0 < i) && decide (nn < least))) (et_or (et_not (et_test (ev_chain (a := decide (0 ≤ nn)) (b := decide (nn < (xs.length : Int))) (ev_c (v := .int 0)) (ev_var (v := .int nn) rfl) rv_I0 (fun _ => ev_cb (ea_cons (ev_var (v := .ref q) rfl) ea_nil) (rc_lenL (ex_l ge hq))) (fun _ => rv_I0))))
      (fun _ => et_and (et_test (ev_is (ev_op (x := .int (i : Nat)) (y := .int 0) (ev_var rfl) ev_c rv_I0) (by congr 1; exact decide_eq_decide.mpr (by omega)))) (fun h0 => by
        obtain ⟨pb, pv, e1, e2⟩ := prev (of_decide_eq_true h0)
        have h0' := of_decide_eq_true h0
        have e3 : ((i : Nat) : Int) - 1 = ((i - 1 : Nat) : Int) := by omega
        exact et_test (ev_op (x := .int nn) (y := .int least) (ev_var rfl) (ev_op (x := .ref pv) (y := .int 1) (ev_op (x := .ref r) (y := .int ((i : Nat) - 1)) (ev_var rfl) (ev_op (x := .int (i : Nat)) (y := .int 1) (ev_var rfl) ev_c rv_I0) (rv_ixL (ex_l ge hr1) (by rw [e3]; exact atI_nat e1))) ev_c (rv_ixT e2 rfl)) rv_I0)))) (fun hb1 H9 f9 => ?_) (fun hb1 H9 f9 => ?_)
    · have e : whyOk ds es 0 0 rs = false := by
        have z3 : decide (least ≤ nn ∧ nn < (es.length : Int)) = false := by
          refine decide_eq_false fun z => ?_
          rw [Bool.or_eq_true] at hb1
          rcases hb1 with y | y
          · rw [Bool.not_eq_true', ← lx] at *
            rw [decide_eq_true (by omega : 0 ≤ nn), decide_eq_true z.2] at y
            cases y
          · rw [Bool.and_eq_true] at y
            have := of_decide_eq_true y.2
            omega
        rw [hw, z3]
        rfl
      rw [e] at k
      exact k _ (ge.trans f9)
    · rw [Bool.or_eq_false_iff] at hb1
      obtain ⟨y1, y2⟩ := hb1
      have y1 : (decide (0 ≤ nn) && decide (nn < (xs.length : Int))) = true := by simpa using y1
      rw [Bool.and_eq_true] at y1
      have c1 : 0 ≤ nn := of_decide_eq_true y1.1
      have c2 : nn < (xs.length : Int) := of_decide_eq_true y1.2
      have c3 : least ≤ nn := by
        by_cases h0 : 0 < i
        · rw [decide_eq_true h0, Bool.true_and] at y2
          have := of_decide_eq_false y2
          omega
        · rw [hz0 (by omega)]; exact c1
      rw [decide_eq_true (⟨c3, by omega⟩ : least ≤ nn ∧ nn < (es.length : Int))] at hw
      have ge9 := ge.trans f9
      by_cases hbb : bb = nn + i
      · obtain ⟨nb, hnb⟩ : ∃ nb : Nat, bb = nb := ⟨bb.toNat, by omega⟩
        obtain ⟨nu, hnu⟩ : ∃ nu : Nat, nn = nu := ⟨nn.toNat, by omega⟩
        have tb : bb.toNat = nb := by omega
        have tn : nn.toNat = nu := by omega
        have hlt : nu < xs.length := by omega
        rw [tb, tn, decide_eq_true hbb] at hw
        have hat3 : xs[nu]? = some xs[nu] := List.getElem?_eq_getElem hlt
        refine s_when (b := !clashD (ds.getD nb .rs) (es.getD nu .rs)) (et_is (et_or (a := false) (b := !clashD (ds.getD nb .rs) (es.getD nu .rs)) (et_is (et_test (ev_op (x := .int (bb - nn)) (y := .int (i : Nat)) (ev_op (x := .int bb) (y := .int nn) (ev_var rfl) (ev_var rfl) rv_I0) (ev_var rfl) (rv_ne rfl))) (by rw [show bb - nn = (i : Int) by omega]; simp))
          (fun _ => et_not (fun H10 f10 Q z => ⟨_, rfl, _, rfl, p, us, ds, nb, by rw [hnb]; rfl, ex_l (ge9.trans f10) hp, hP.mono (ge9.trans f10), by omega, fun v H11 f11 dv => ⟨_, rfl, _, rfl, q, xs, nn, xs[nu], rfl, rfl, ex_l ((ge9.trans f10).trans f11) hq, by rw [hnu]; exact atI_nat hat3, by
            obtain ⟨e2, he2, dv2⟩ := (hX.mono ((ge9.trans f10).trans f11)).get hat3
            have cl := sp_law_meet_v dv dv2
            show sp_law_meet K [v, xs[nu]] H11 (fun x H1 => ∃ c, x = V.bl c ∧ Q c H1) E0
            refine cl H11 (Ex.refl _) _ (fun H12 f12 => ⟨_, rfl, ?_⟩) _
            rw [← getD_at he2]
            exact z H12 (f11.trans f12)⟩⟩))) rfl) (fun hb2 H10 f10 => ?_) (fun hb2 H10 f10 => ?_)
        · have z : clashD (ds.getD nb .rs) (es.getD nu .rs) = false := by simpa using hb2
          have e : whyOk ds es 0 0 rs = false := by rw [hw, z]; rfl
          rw [e] at k
          exact k _ (ge9.trans f10)
        · have z : clashD (ds.getD nb .rs) (es.getD nu .rs) = true := by simpa using hb2
          rw [z] at hw
          refine ⟨nn, _, _, _, rfl, by rw [hw]; rfl, c1, (fun z => absurd z (by omega)), (fun z _ hz => ?_), ge9.trans f10⟩
          rw [Nat.add_sub_cancel, hbn] at hz
          cases hz
          rfl
      · refine s_when (b := true) (et_is (et_or (a := true) (b := false) (et_is (et_test (ev_op (x := .int (bb - nn)) (y := .int (i : Nat)) (ev_op (x := .int bb) (y := .int nn) (ev_var rfl) (ev_var rfl) rv_I0) (ev_var rfl) (rv_ne rfl))) (by
          rw [decide_eq_false (fun z => hbb (by have := V.int.inj z; omega))]; rfl)) (fun z => nomatch z)) rfl) (fun _ H10 f10 => ?_) (fun z => nomatch z)
        have e : whyOk ds es 0 0 rs = false := by rw [hw, decide_eq_false hbb]; rfl
        rw [e] at k
        exact k _ (ge9.trans f10)
  · rintro σ' H' ⟨least, v3, v4, v5, rfl, hw, hl0, hz0, hz1, ge⟩
    rw [List.drop_of_length_le (by rw [Int.toNat_natCast]; omega)] at hw
    have e : whyOk ds es 0 0 rs = true := hw
    rw [e] at k
    exact k H' ge

/-- some list of pairs of numbers -/
def sp_law_any (K : PySem.W.Frag) : Sp := fun vs H Q _ => ∃ (h l p q : Addr) (us xs : List V) (ds es : List Deed), vs = [.ref h, .ref p, .ref q] ∧ Draw H h l ∧ H p = some (.lst us) ∧ ¬ p ∈ [h, l] ∧ PV K H us ds ∧ ds.length ≤ 20 ∧ H q = some (.lst xs) ∧ ¬ q ∈ [h, l] ∧ PV K H xs es ∧ es.length ≤ 20 ∧
  ∀ (r : Addr) (ys : List V) (rs : List (Int × Int)) (H' : Hp), H r = none → H' r = some (.lst ys) → IVs K H' ys rs → rs.length ≤ 20 → Drew H H' h l → Q (.ref r) H'
theorem d_law_any (T : Nb mg) (D_law_next : Dn P w K mg base CX0 "_law_next" ["_law_h", "_law_many"] 1 sp_law_next) (D_law_at : Dn P w K mg base CX0 "_law_at" ["_law_program_here", "_law_beat"] 1 (sp_law_at K)) (D_law_meet : Dn P w K mg base CX0 "_law_meet" ["_law_one", "_law_other"] 1 (sp_law_meet K)) (h : Has K mg "_law_any" s_law_any) : Dn P w K mg base CX0 "_law_any" ["_law_h", "_law_left", "_law_right"] 2 (sp_law_any K) := by
  refine dn_of h (fun f fd F => F.binds fun _ _ _ _ _ _ us hl => match us, hl with | [_, _, _], _ => rfl) fun f fd F _ => F.ok sc_law_any (fun vs H Q E h => ?_) (fun cdv A outer s H vs Q E hr h => ?_)
  · obtain ⟨_, _, _, _, _, _, _, _, rfl, _⟩ := h
    rfl
  obtain ⟨h, l, p, q, us, xs, ds, es, rfl, D, hp, nph, hP, hl, hq, nqh, hX, hl2, k⟩ := h
  refine ⟨_, (pss_cons (ps_set (i := 3) sc_law_any.nd rfl (Or.inl rfl) (pe_lst pa_nil))
    (pss_cons (ps_for PassesOwn.never rfl (pi_range1 rfl T.n_range (pa_cons (pe_callB (call_len_seqK K) (by rfl) T.n_len PySem.boot_len (pa_cons (pv 2) pa_nil)) pa_nil)) (pg_name (i := 4) sc_law_any.nd rfl (Or.inl rfl))
      (pss_one (ps_while PassesOwn.never (PW.pt (pw_and (pt_val (pe_dn D_law_meet hr (by omega) pass0 (pa_cons (pe_dn D_law_at hr (by omega) pass0 (pa_cons (pv 1) (pa_cons (pe_op op_add (pv 4) (pe_callB (call_len_seqK K) (by rfl) T.n_len PySem.boot_len (pa_cons (pv 3) pa_nil))) pa_nil))) (pa_cons (pe_ix (ix_listK K) (pv 2) (pv 4) (fun _ _ => rfl)) pa_nil)))) (pw_and1 (pt_cmpR op_gt (pe_dn D_law_next hr (by omega) pass0 (pa_cons (pv 0) (pa_cons pe_int pa_nil))) pe_int (nomark _)))))
        (pss_one (ps_expr (pe_bm PySem.F.plainAttrs_list PySem.F.slot_list_append PySem.F.type_list_append mt_append (pv 3) (pa_cons (pe_tup (pa_cons (pe_op op_add (pv 4) (pe_callB (call_len_seqK K) (by rfl) T.n_len PySem.boot_len (pa_cons (pv 3) pa_nil))) (pa_cons (pv 4) pa_nil))) pa_nil)))))))
    (pss_one (ps_ret (pv 3))))), ?_⟩
  have lu := hP.length
  have lx := hX.length
  refine q_asgL (xs := []) (el_lst ea_nil (by decide)) fun fl H1 nfl f1 hfl => ?_
  have D1 : Drew H H1 h l := (Drew.refl D).of_ex f1
  have nfh : fl ≠ h ∧ fl ≠ l := by
    have z := D.out nfl
    simp only [List.mem_cons, List.not_mem_nil, or_false, not_or] at z
    exact z
  have npf : p ≠ fl := ne_of_none hp nfl
  have nqf : q ≠ fl := ne_of_none hq nfl
  refine q_forR1 (n := (xs.length : Int)) (ea_cons (ev_cb (ea_cons (ev_var (v := .ref q) rfl) ea_nil) (rc_lenL (SqL.of (f1 _ _ hq)))) ea_nil) (by omega) (fun i σ' H' => ∃ (ys : List V) (rs : List (Int × Int)) (v4 : Option V), σ' = [some (.ref h), some (.ref p), some (.ref q), some (.ref fl), v4] ∧ H' fl = some (.lst ys) ∧ IVs K H' ys rs ∧ rs.length ≤ ds.length ∧ Drew H H' h l)
    (fun H2 f2 => ⟨[], [], none, rfl, f2 _ _ hfl, .nil, Nat.zero_le _, D1.of_ex f2⟩) ?_ ?_
  · rintro i σ' H2 hi ⟨ys, rs, v4, rfl, gf, gR, gl, gD⟩
    refine s_whileX (fun mm σ' H' => ∃ (ys : List V) (rs : List (Int × Int)), mm = ds.length - rs.length ∧ σ' = [some (.ref h), some (.ref p), some (.ref q), some (.ref fl), some (.int (i : Nat))] ∧ H' fl = some (.lst ys) ∧ IVs K H' ys rs ∧ rs.length ≤ ds.length ∧ Drew H H' h l) (ds.length - rs.length) ⟨ys, rs, rfl, rfl, gf, gR, gl, gD⟩ ?_
    clear gf gR gl gD
    rintro mm σ' H3 ⟨ys, rs, rfl, rfl, gf, gR, gl, gD⟩
    have lR := gR.length
    have hp3 := gD.bt _ _ nph hp
    have hq3 := gD.bt _ _ nqh hq
    have hP3 := D.pv gD.bt hP
    have hX3 := D.pv gD.bt hX
    have hat : xs[i]? = some xs[i] := List.getElem?_eq_getElem (by omega)
    refine ⟨fun b H4 => Drew H H4 h l ∧ H4 fl = some (.lst ys) ∧ IVs K H4 ys rs ∧ (b = true → rs.length < ds.length), fun Q hQ => ?_, fun H4 ⟨d4, g4, r4, c4⟩ => ?_, fun H4 ⟨d4, g4, r4, c4⟩ => ⟨ys, rs, _, rfl, g4, r4, gl, d4⟩⟩
    · have c := rv_I0 (g := fun i j => .int (i + j)) (i := (i : Int)) (j := (ys.length : Int)) (H := H3)
      refine ⟨_, rfl, _, rfl, _, rfl, fl, ys, rfl, .inl (SqL.of gf), _, _, rfl, rfl, p, us, ds, i + ys.length, rfl, SqL.of hp3, hP3, by omega, fun v H4 f4 dv => ⟨_, rfl, _, rfl, q, xs, _, xs[i], rfl, rfl, SqL.of (f4 _ _ hq3), atI_nat hat, ?_⟩⟩
      obtain ⟨e2, he2, dv2⟩ := (hX3.mono f4).get hat
      have cl := sp_law_meet_v dv dv2
      refine cl H4 (Ex.refl _) _ (fun H5 f5 => ⟨_, rfl, ?_⟩) E0
      have f35 := f4.trans f5
      cases hc : clashD (ds.getD (i + ys.length) .rs) e2 with
      | false => exact hQ false H5 ⟨gD.of_ex f35, f35 _ _ gf, gR.mono f35, fun z => nomatch z⟩
      | true =>
        have hlt : i + ys.length < ds.length := by
          by_cases z : i + ys.length < ds.length
          · exact z
          · rw [List.getD_eq_getElem?_getD, List.getElem?_eq_none (by omega)] at hc
            have e := clash_rs e2
            simp only [Option.getD_none] at hc
            rw [e] at hc
            cases hc
        have D5 := gD.dr.mono f35
        refine ⟨_, rfl, h, l, 4, rfl, D5, by decide, by decide, fun z H6 z0 z1 D6 => ⟨z, 0, rfl, rfl, _, rfl, hQ _ _ ⟨(gD.of_ex f35).trans D6, D6.bt fl _ (by simp [nfh]) (f35 _ _ gf), (gR.mono f35).draw D5 D6.bt, fun _ => by omega⟩⟩⟩
    · have lt := c4 rfl
      refine ⟨fun σ2 H2 => ∃ (ys : List V) (rs2 : List (Int × Int)), rs2.length = rs.length + 1 ∧ σ2 = [some (.ref h), some (.ref p), some (.ref q), some (.ref fl), some (.int (i : Nat))] ∧ H2 fl = some (.lst ys) ∧ IVs K H2 ys rs2 ∧ rs2.length ≤ ds.length ∧ Drew H H2 h l, ?_, ?_⟩
      · rintro σ2 H2 ⟨ys2, rs2, q1, q2⟩
        exact ⟨ds.length - rs2.length, by omega, ys2, rs2, rfl, q2⟩
      refine ⟨_, rfl, Or.inl ⟨rfl, _, SqL.of g4⟩, _, rfl, _, rfl, fl, ys, rfl, .inl (SqL.of g4), _, _, rfl, rfl, _, rfl, by show 2 ≤ sizeLine; decide, fun t nt => ⟨fl, ys, .ref t, rfl, rfl, Ex.new nt _ _ g4, sz_lt (by omega), ?_⟩⟩
      have x1 := Ex.new (o := .tup [.int ((i : Int) + (ys.length : Int)), .int (i : Nat)]) nt
      have ht := upd_same (H := H4) (a := t) (o := .tup [.int ((i : Int) + (ys.length : Int)), .int (i : Nat)])
      have g5 := x1 _ _ g4
      have d5 := d4.of_ex x1
      have r5 := r4.mono x1
      generalize upd H4 t (.tup [.int ((i : Int) + (ys.length : Int)), .int (i : Nat)]) = H5 at ht g5 d5 r5 ⊢
      have b6 : Bt [fl] H5 (upd H5 fl (.lst (ys ++ [.ref t]))) := (Bt.refl H5).set (by simp)
      have l6 : ∀ z ∈ [fl], ∃ us, H5 z = some (.lst us) := by simp [g5]
      refine ⟨_, rs ++ [((i : Int) + (ys.length : Int), (i : Int))], by simp, rfl, upd_same, (r5.buts b6 l6).append (.cons ⟨t, rfl, t_but b6 l6 (SqT.of ht)⟩ .nil), by simp; omega, ?_, ?_⟩
      · obtain ⟨a', p', ns', q1, q2, q3⟩ := d5.dr.st
        refine ⟨a', p', ns', ?_, ?_, q3⟩
        · rw [upd_ne nfh.1.symm]; exact q1
        · rw [upd_ne nfh.2.symm]; exact q2
      · exact d5.bt.upd (.inr nfl)
  · rintro σ' H2 ⟨ys, rs, v4, rfl, gf, gR, gl, gD⟩
    exact ⟨_, rfl, k fl ys rs H2 nfl gf gR (by omega) gD⟩

/-- a list with one thing told otherwise: some list of pairs of numbers -/
def sp_law_turned (K : PySem.W.Frag) : Sp := fun vs H Q _ => ∃ (h l r : Addr) (ys : List V) (rs : List (Int × Int)), vs = [.ref h, .ref r] ∧ Draw H h l ∧ H r = some (.lst ys) ∧ ¬ r ∈ [h, l] ∧ IVs K H ys rs ∧ rs.length ≤ 50 ∧
  ∀ (r' : Addr) (ys' : List V) (rs' : List (Int × Int)) (H' : Hp), ¬ r' ∈ [h, l] → H' r' = some (.lst ys') → IVs K H' ys' rs' → rs'.length ≤ rs.length + 1 → Drew H H' h l → Q (.ref r') H'
theorem d_law_turned (T : Nb mg) (D_law_next : Dn P w K mg base CX0 "_law_next" ["_law_h", "_law_many"] 1 sp_law_next) (h : Has K mg "_law_turned" s_law_turned) : Dn P w K mg base CX0 "_law_turned" ["_law_h", "_law_reason"] 2 (sp_law_turned K) := by
  refine dn_of h (fun f fd F => F.binds fun _ _ _ _ _ _ us hl => match us, hl with | [_, _], _ => rfl) fun f fd F _ => F.ok sc_law_turned (fun vs H Q E h => ?_) (fun cdv A outer s H vs Q E hr h => ?_)
  · obtain ⟨_, _, _, _, _, rfl, _⟩ := h
    rfl
  obtain ⟨h, l, r, ys, rs, rfl, D, hr0, nrh, hR, hl, k⟩ := h
  refine ⟨_, (pss_cons (ps_set (i := 2) sc_law_turned.nd rfl (Or.inl rfl) (pe_dn D_law_next hr (by omega) pass0 (pa_cons (pv 0) (pa_cons (pe_op op_add (pe_callB (call_len_seqK K) (by rfl) T.n_len PySem.boot_len (pa_cons (pv 1) pa_nil)) pe_int) pa_nil))))
    (pss_cons (ps_asg (pe_ix (ix_listK K) (pe_op op_cat (pe_slice sl_list (pv 1) (po_some (pv 2)) po_none) (pe_lst (pa_cons (pe_tup (pa_cons pe_int (pa_cons pe_int pa_nil))) pa_nil))) pe_int (fun _ _ => rfl)) (pg_tup rfl (pgs_cons (pg_name (i := 3) sc_law_turned.nd rfl (Or.inl rfl)) (pgs_cons (pg_name (i := 4) sc_law_turned.nd rfl (Or.inl rfl)) pgs_nil))))
    (pss_cons (ps_set (i := 5) sc_law_turned.nd rfl (Or.inl rfl) (pe_dn D_law_next hr (by omega) pass0 (pa_cons (pv 0) (pa_cons pe_int pa_nil))))
    (pss_cons (ps_set (i := 6) sc_law_turned.nd rfl (Or.inl rfl) (pe_op op_add pe_int (pe_dn D_law_next hr (by omega) pass0 (pa_cons (pv 0) (pa_cons (pe_ix (ix_listK K) (pe_lst (pa_cons pe_int (pa_cons (pe_op op_pow pe_int pe_int) pa_nil))) (pe_dn D_law_next hr (by omega) pass0 (pa_cons (pv 0) (pa_cons pe_int pa_nil))) (fun _ _ => rfl)) pa_nil)))))
    (pss_cons (ps_if (pt_cmpR op_eq (pv 5) pe_int (nomark _)) (pss_one (ps_ret (pe_op op_cat (pe_slice sl_list (pv 1) po_none (po_some (pv 2))) (pe_slice sl_list (pv 1) (po_some (pe_op op_add (pv 2) pe_int)) po_none)))) pss_nil)
    (pss_cons (ps_if (pt_cmpR op_eq (pv 5) pe_int (nomark _)) (pss_one (ps_ret (pe_op op_cat (pe_op op_cat (pe_slice sl_list (pv 1) po_none (po_some (pv 2))) (pe_lst (pa_cons (pe_tup (pa_cons (pv 3) (pa_cons (pv 4) pa_nil))) pa_nil))) (pe_slice sl_list (pv 1) (po_some (pv 2)) po_none)))) pss_nil)
    (pss_cons (ps_if (pt_cmpR op_eq (pv 5) pe_int (nomark _)) (pss_one (ps_ret (pe_op op_cat (pe_slice sl_list (pv 1) (po_some (pv 2)) po_none) (pe_slice sl_list (pv 1) po_none (po_some (pv 2)))))) pss_nil)
    (pss_cons (ps_set (i := 7) sc_law_turned.nd rfl (Or.inl rfl) (pe_ix (ix_listK K) (pe_lst (pa_cons (pe_tup (pa_cons (pe_op op_add (pv 3) (pv 6)) (pa_cons (pv 4) pa_nil))) (pa_cons (pe_tup (pa_cons (pe_op op_sub (pv 3) (pv 6)) (pa_cons (pv 4) pa_nil))) (pa_cons (pe_tup (pa_cons (pe_op op_add (pv 3) (pv 6)) (pa_cons (pe_op op_add (pv 4) (pv 6)) pa_nil))) pa_nil)))) (pe_op op_sub (pv 5) pe_int) (fun _ _ => rfl)))
    (pss_one (ps_ret (pe_op op_cat (pe_op op_cat (pe_slice sl_list (pv 1) po_none (po_some (pv 2))) (pe_lst (pa_cons (pv 7) pa_nil))) (pe_slice sl_list (pv 1) (po_some (pe_op op_add (pv 2) pe_int)) po_none)))))))))))), ?_⟩
  have ly := hR.length
  -- the place
  refine ⟨_, rfl, _, rfl, r, ys, rfl, .inl (SqL.of hr0), _, _, rfl, rfl, h, l, (ys.length : Int) + 1, rfl, D, by omega, by omega, fun kk H1 k0 k1 D1 => ?_⟩
  refine gn ?_
  dsimp only
  obtain ⟨kn, rfl⟩ : ∃ kn : Nat, kk = kn := ⟨kk.toNat, by omega⟩
  have hr1 := D1.bt _ _ nrh hr0
  have hR1 := hR.draw D D1.bt
  -- the tuple there
  refine ⟨_, rfl, _, rfl, (kn : Int), rfl, r, ys, rfl, SqL.of hr1, fun p2 n2 => ⟨by show 2 ≤ sizeLine; decide, fun p3 n3 => ⟨by show 1 ≤ sizeLine; decide, fun p4 n4 => ⟨p2, p4, cutV ys (some (kn : Int)) none, [.ref p3], rfl, rfl, Ex.new n4 _ _ (Ex.new n3 _ _ upd_same), upd_same, sz_of (by rw [cutV_from, List.length_drop]; simp; omega), fun p5 n5 => ?_⟩⟩⟩⟩
  rw [cutV_from] at n3 n4 n5 ⊢
  have x1 := Ex.new (H := H1) (o := .lst (ys.drop kn)) n2
  have x2 := Ex.new (o := .tup [.int 0, .int 0]) n3
  have x3 := Ex.new (o := .lst [.ref p3]) n4
  have x4 := Ex.new (o := .lst (ys.drop kn ++ [.ref p3])) n5
  have h3 := x4 _ _ (x3 _ _ (upd_same (H := upd H1 p2 (.lst (ys.drop kn))) (a := p3) (o := .tup [.int 0, .int 0])))
  have h5 := upd_same (H := upd (upd (upd H1 p2 (.lst (ys.drop kn))) p3 (.tup [.int 0, .int 0])) p4 (.lst [.ref p3])) (a := p5) (o := .lst (ys.drop kn ++ [.ref p3]))
  have f15 := ((x1.trans x2).trans x3).trans x4
  generalize upd (upd (upd (upd H1 p2 (.lst (ys.drop kn))) p3 (.tup [.int 0, .int 0])) p4 (.lst [.ref p3])) p5 (.lst (ys.drop kn ++ [.ref p3])) = H5 at h3 h5 f15 ⊢
  clear x1 x2 x3 x4
  have D5 := D1.of_ex f15
  have hr5 := f15 _ _ hr1
  have hR5 := hR1.mono f15
  have all : IVs K H5 (ys.drop kn ++ [.ref p3]) (rs.drop kn ++ [(0, 0)]) := (hR5.drop kn).append (.cons ⟨p3, rfl, SqT.of h3⟩ .nil)
  obtain ⟨v0, hv0⟩ : ∃ v0, (ys.drop kn ++ [V.ref p3])[0]? = some v0 := ⟨_, List.getElem?_eq_getElem (by simp)⟩
  obtain ⟨⟨bb, nn⟩, _, pa, rfl, hpa⟩ := all.get hv0
  refine ⟨p5, _, 0, .ref pa, rfl, rfl, SqL.of h5, atI_nat hv0, pa, _, rfl, hpa, rfl, _, _, rfl, _, _, rfl, rfl, ?_⟩
  dsimp only
  clear all hv0 h5
  -- the turn
  refine ⟨_, rfl, h, l, 6, rfl, D5.dr, by decide, by decide, fun tt H6 t0 t1 D6 => ?_⟩
  refine gn ?_
  dsimp only
  have hr6 := D6.bt _ _ nrh hr5
  have hR6 := hR5.draw D5.dr D6.bt
  have D06 := D5.trans D6
  clear hr5 hR5 D5 hpa
  -- how far
  refine ⟨_, rfl, 10, 6, rfl, rfl, ⟨by decide, by decide, by decide⟩, by show 2 ≤ sizeLine; decide, fun pt nt => ⟨_, rfl, h, l, 2, rfl, (D6.new (o := .lst [.int 3, .int (10 ^ (6 : Int).toNat)]) nt).dr, by decide, by decide, fun z H7 z0 z1 D7 => ?_⟩⟩
  have hpt : H7 pt = some (.lst [.int 3, .int (10 ^ (6 : Int).toNat)]) := D7.bt _ _ (D6.dr.out nt) upd_same
  have D67 := ((Drew.refl D6.dr).new (o := .lst [.int 3, .int (10 ^ (6 : Int).toNat)]) nt).trans D7
  obtain ⟨mo, hmo, hat⟩ : ∃ mo : Nat, (0 < mo ∧ mo ≤ 1000000) ∧ atI ([.int 3, .int (10 ^ (6 : Int).toNat)] : List V) z = some (.int (mo : Int)) := by
    have hz : z = 0 ∨ z = 1 := by omega
    rcases hz with rfl | rfl
    · exact ⟨3, by decide, rfl⟩
    · exact ⟨1000000, by decide, by decide⟩
  refine ⟨pt, _, z, _, rfl, rfl, SqL.of hpt, hat, h, l, (mo : Int), rfl, D7.dr, by omega, by omega, fun w H8 w0 w1 D8 => ⟨1, w, rfl, rfl, ?_⟩⟩
  refine gn ?_
  dsimp only
  have D68 := D67.trans D8
  have hr8 := D68.bt _ _ nrh hr6
  have hR8 := hR6.draw D6.dr D68.bt
  have D08 := D06.trans D68
  clear hpt hr6 hR6 D7 D8 D67 D68 D06 D6
  generalize 1 + w = fa
  have D8 := D08.dr
  have end_ : ∀ (r' : Addr) (ys' : List V) (rs' : List (Int × Int)) (H' : Hp), H8 r' = none → H' r' = some (.lst ys') → IVs K H' ys' rs' → rs'.length ≤ rs.length + 1 → Ex H8 H' → Q (.ref r') H' := fun r' ys' rs' H' n' h' q' z' e' => k r' ys' rs' H' (D8.out n') h' q' z' (D08.of_ex e')
  have sl1 : ∀ (σ : L2.St) (H : Hp), σ[1]? = some (some (.ref r)) → σ[2]? = some (some (.int (kn : Int))) → Ex H8 H → EvL (tSl (rSlL K) (tVar 1) tNoPart (tPart (tVar 2))) σ H (ys.take kn) := fun σ H s1 s2 e => by
    have z := el_sl (K := K) (σ := σ) (H := H) (te := tVar 1) (tl := tNoPart) (th := tPart (tVar 2)) (ev_var s1) eo_none (eo_some (ev_var s2)) (SqL.of (e _ _ hr8))
    rwa [cutV_to] at z
  have sl2 : ∀ (σ : L2.St) (H : Hp), σ[1]? = some (some (.ref r)) → σ[2]? = some (some (.int (kn : Int))) → Ex H8 H → EvL (tSl (rSlL K) (tVar 1) (tPart (tOp (rI0 fun i j => .int (i + j)) (tVar 2) (tC (.int 1)))) tNoPart) σ H (ys.drop (kn + 1)) := fun σ H s1 s2 e => by
    have z := el_sl (K := K) (σ := σ) (H := H) (te := tVar 1) (tl := tPart (tOp (rI0 fun i j => .int (i + j)) (tVar 2) (tC (.int 1)))) (th := tNoPart) (ev_var s1) (eo_some (i := ((kn + 1 : Nat) : Int)) (ev_op (x := .int (kn : Int)) (y := .int 1) (ev_var s2) ev_c rv_I0)) eo_none (SqL.of (e _ _ hr8))
    rwa [cutV_from] at z
  have sl3 : ∀ (σ : L2.St) (H : Hp), σ[1]? = some (some (.ref r)) → σ[2]? = some (some (.int (kn : Int))) → Ex H8 H → EvL (tSl (rSlL K) (tVar 1) (tPart (tVar 2)) tNoPart) σ H (ys.drop kn) := fun σ H s1 s2 e => by
    have z := el_sl (K := K) (σ := σ) (H := H) (te := tVar 1) (tl := tPart (tVar 2)) (th := tNoPart) (ev_var s1) (eo_some (ev_var s2)) eo_none (SqL.of (e _ _ hr8))
    rwa [cutV_from] at z
  have lz : (ys.take kn).length ≤ 50 ∧ (ys.drop kn).length ≤ 50 ∧ (ys.drop (kn + 1)).length ≤ 50 := by
    rw [List.length_take, List.length_drop, List.length_drop]; omega
  have lq : kn ≤ rs.length := by omega
  refine q_when (b := decide (V.int tt = V.int 0)) (et_test (ev_op (x := .int tt) (y := .int 0) (ev_var rfl) ev_c (rv_eq rfl))) (fun _ H9 f9 => ?_) (fun hb0 H9 f9 => ?_)
  · refine s_retL (el_catN (sl1 _ _ rfl rfl f9) (sl2 _ _ rfl rfl f9) (by omega)) fun p H10 np f10 hp => ?_
    have f := f9.trans f10
    exact end_ p _ (rs.take kn ++ rs.drop (kn + 1)) H10 (fresh_back f9 np) hp (((hR8.mono f).take kn).append ((hR8.mono f).drop (kn + 1))) (by rw [List.length_append, List.length_take, List.length_drop]; omega) f
  refine q_when (b := decide (V.int tt = V.int 1)) (et_test (ev_op (x := .int tt) (y := .int 1) (ev_var rfl) ev_c (rv_eq rfl))) (fun _ H10 f10 => ?_) (fun hb1 H10 f10 => ?_)
  · have f810 := f9.trans f10
    refine (sl1 _ _ rfl rfl f810) H10 (Ex.refl _) _ fun p1 H11 n1 f11 h1 => ⟨_, rfl, _, rfl, by show 2 ≤ sizeLine; decide, fun p2 n2 => ⟨by show 1 ≤ sizeLine; decide, fun p3 n3 => ⟨p1, p3, _, _, rfl, rfl, Ex.new n3 _ _ (Ex.new n2 _ _ h1), upd_same, sz_of (by simp; omega), fun p4 n4 => ?_⟩⟩⟩
    have x1 := Ex.new (o := .tup [.int bb, .int nn]) n2
    have x2 := Ex.new (o := .lst [.ref p2]) n3
    have x3 := Ex.new (o := .lst (ys.take kn ++ [.ref p2])) n4
    have h2 := x3 _ _ (x2 _ _ (upd_same (H := H11) (a := p2) (o := .tup [.int bb, .int nn])))
    have h4 := upd_same (H := upd (upd H11 p2 (.tup [.int bb, .int nn])) p3 (.lst [.ref p2])) (a := p4) (o := .lst (ys.take kn ++ [.ref p2]))
    have f14 := ((f810.trans f11).trans ((x1.trans x2).trans x3))
    generalize upd (upd (upd H11 p2 (.tup [.int bb, .int nn])) p3 (.lst [.ref p2])) p4 (.lst (ys.take kn ++ [.ref p2])) = H14 at h2 h4 f14 ⊢
    clear x1 x2 x3
    refine (sl3 _ _ rfl rfl f14) H14 (Ex.refl _) _ fun p5 H15 n5 f15 h5 => ⟨p4, p5, _, _, rfl, rfl, f15 _ _ h4, h5, sz_of (by simp; omega), fun p6 n6 => ?_⟩
    have f16 := (f14.trans f15).trans (Ex.new (o := .lst (ys.take kn ++ [.ref p2] ++ ys.drop kn)) n6)
    refine end_ p6 _ (rs.take kn ++ [(bb, nn)] ++ rs.drop kn) _ (fresh_back (f14.trans f15) n6) upd_same ((((hR8.mono f16).take kn).append (.cons ⟨p2, rfl, SqT.of (Ex.new n6 _ _ (f15 _ _ h2))⟩ .nil)).append ((hR8.mono f16).drop kn)) (by simp; omega) f16
  refine q_when (b := decide (V.int tt = V.int 2)) (et_test (ev_op (x := .int tt) (y := .int 2) (ev_var rfl) ev_c (rv_eq rfl))) (fun _ H11 f11 => ?_) (fun hb2 H11 f11 => ?_)
  · have f811 := (f9.trans f10).trans f11
    refine s_retL (el_catN (sl3 _ _ rfl rfl f811) (sl1 _ _ rfl rfl f811) (by omega)) fun p H12 np f12 hp => ?_
    have f := f811.trans f12
    exact end_ p _ (rs.drop kn ++ rs.take kn) H12 (fresh_back f811 np) hp (((hR8.mono f).drop kn).append ((hR8.mono f).take kn)) (by rw [List.length_append, List.length_take, List.length_drop]; omega) f
  have f811 := (f9.trans f10).trans f11
  have ht3 : tt = 3 ∨ tt = 4 ∨ tt = 5 := by
    have z0 : ¬ tt = 0 := fun z => (of_decide_eq_false hb0) (by rw [z])
    have z1 : ¬ tt = 1 := fun z => (of_decide_eq_false hb1) (by rw [z])
    have z2 : ¬ tt = 2 := fun z => (of_decide_eq_false hb2) (by rw [z])
    omega
  -- a new tuple
  refine ⟨_, rfl, _, rfl, _, _, rfl, rfl, _, rfl, by show 2 ≤ sizeLine; decide, fun p1 n1 => ⟨_, rfl, _, rfl, _, _, rfl, rfl, _, rfl, by show 2 ≤ sizeLine; decide, fun p2 n2 => ⟨_, rfl, _, rfl, _, _, rfl, rfl, _, rfl, _, rfl, _, _, rfl, rfl, by show 2 ≤ sizeLine; decide, fun p3 n3 => ⟨by show 3 ≤ sizeLine; decide, fun p4 n4 => ⟨_, rfl, tt, 3, rfl, rfl, ?_⟩⟩⟩⟩⟩
  have x1 := Ex.new (o := .tup [.int (bb + fa), .int nn]) n1
  have x2 := Ex.new (o := .tup [.int (bb - fa), .int nn]) n2
  have x3 := Ex.new (o := .tup [.int (bb + fa), .int (nn + fa)]) n3
  have x4 := Ex.new (o := .lst [.ref p1, .ref p2, .ref p3]) n4
  have h1 := x4 _ _ (x3 _ _ (x2 _ _ (upd_same (H := H11) (a := p1) (o := .tup [.int (bb + fa), .int nn]))))
  have h2 := x4 _ _ (x3 _ _ (upd_same (H := upd H11 p1 (.tup [.int (bb + fa), .int nn])) (a := p2) (o := .tup [.int (bb - fa), .int nn])))
  have h3 := x4 _ _ (upd_same (H := upd (upd H11 p1 (.tup [.int (bb + fa), .int nn])) p2 (.tup [.int (bb - fa), .int nn])) (a := p3) (o := .tup [.int (bb + fa), .int (nn + fa)]))
  have h4 := upd_same (H := upd (upd (upd H11 p1 (.tup [.int (bb + fa), .int nn])) p2 (.tup [.int (bb - fa), .int nn])) p3 (.tup [.int (bb + fa), .int (nn + fa)])) (a := p4) (o := .lst [.ref p1, .ref p2, .ref p3])
  have f15 := f811.trans (((x1.trans x2).trans x3).trans x4)
  generalize upd (upd (upd (upd H11 p1 (.tup [.int (bb + fa), .int nn])) p2 (.tup [.int (bb - fa), .int nn])) p3 (.tup [.int (bb + fa), .int (nn + fa)])) p4 (.lst [.ref p1, .ref p2, .ref p3]) = H15 at h1 h2 h3 h4 f15 ⊢
  clear x1 x2 x3 x4
  obtain ⟨pn, nw, hpn, hnw⟩ : ∃ (pn : Addr) (nw : Int × Int), atI ([.ref p1, .ref p2, .ref p3] : List V) (tt - 3) = some (.ref pn) ∧ H15 pn = some (.tup [.int nw.1, .int nw.2]) := by
    rcases ht3 with rfl | rfl | rfl
    · exact ⟨p1, (bb + fa, nn), rfl, h1⟩
    · exact ⟨p2, (bb - fa, nn), rfl, h2⟩
    · exact ⟨p3, (bb + fa, nn + fa), rfl, h3⟩
  refine ⟨p4, _, tt - 3, .ref pn, rfl, rfl, SqL.of h4, hpn, ?_⟩
  refine gn ?_
  dsimp only
  refine s_retL (el_catN (el_catN (sl1 _ _ rfl rfl f15) (el_lst (vs := [.ref pn]) (ea_cons (ev_var rfl) ea_nil) (by simp)) (by simp; omega)) (sl2 _ _ rfl rfl f15) (by simp; omega)) fun p H16 np f16 hp => ?_
  have f := f15.trans f16
  exact end_ p _ (rs.take kn ++ [nw] ++ rs.drop (kn + 1)) H16 (fresh_back f15 np) hp ((((hR8.mono f).take kn).append (.cons ⟨pn, rfl, SqT.of (f16 _ _ hnw)⟩ .nil)).append ((hR8.mono f).drop (kn + 1))) (by simp; omega) f

theorem sp_law_shows_v {H : Hp} {p q r : Addr} {us xs ys : List V} {ds es : List Deed} {rs : List (Int × Int)} (h1 : SqL K H p us) (h2 : PV K H us ds) (h3 : ds.length ≤ 40) (h5 : SqL K H q xs) (h6 : PV K H xs es) (h9 : SqL K H r ys) (h10 : IVs K H ys rs) (h11 : rs.length ≤ 100) :
    SpV (sp_law_shows K) [.ref p, .ref q, .ref r] H (.bl (whyOk ds es 0 0 rs)) := fun H1 e Q k _ => ⟨p, q, r, us, xs, ys, ds, es, rs, rfl, ex_l e h1, h2.mono e, h3, ex_l e h5, h6.mono e, ex_l e h9, h10.mono e, h11, k⟩
def sp_law (K : PySem.W.Frag) : Sp := fun vs H Q _ => ∃ (a : Addr) (ns : List Int), vs = [.ref a] ∧ SqL K H a (ns.map V.int) ∧ ns.length ≤ 63 ∧ ∀ H', Q (.bl true) H'
theorem d_law (T : Nb mg) (D_law_mix : Dn P w K mg base CX0 "_law_mix" ["_law_script", "_law_seed"] 1 (sp_law_mix K)) (D_law_next : Dn P w K mg base CX0 "_law_next" ["_law_h", "_law_many"] 1 sp_law_next)
    (D_law_program : Dn P w K mg base CX0 "_law_program" ["_law_h", "_law_cells", "_law_most"] 3 (sp_law_program K)) (D_law_alike : Dn P w K mg base CX0 "_law_alike" ["_law_found", "_law_due"] 4 (sp_law_alike K 3))
    (D_fitted : Dn P w K mg base CX0 "fitted" ["left", "right"] 6 (sp_fitted K)) (D_shows : Dn P w K mg base CX0 "shows" ["left", "right", "reason"] 6 (sp_shows K)) (D_law_shows : Dn P w K mg base CX0 "_law_shows" ["_law_left", "_law_right", "_law_reason"] 2 (sp_law_shows K))
    (D_law_any : Dn P w K mg base CX0 "_law_any" ["_law_h", "_law_left", "_law_right"] 2 (sp_law_any K)) (D_law_turned : Dn P w K mg base CX0 "_law_turned" ["_law_h", "_law_reason"] 2 (sp_law_turned K)) {f : Addr} {fd : FuncData} (F : Fun K "law" "law" s_law f fd) : FnOk P w K mg base CX0 7 f fd ["_law_script"] (sp_law K) := by
  refine F.ok sc_law (fun vs H Q E h => ?_) (fun cdv A outer s H vs Q E hr h => ?_)
  · obtain ⟨_, _, rfl, _⟩ := h
    rfl
  obtain ⟨a, ns, rfl, hS, hn, k⟩ := h
  refine ⟨_, (pss_cons (ps_set (i := 1) sc_law.nd rfl (Or.inl rfl) (pe_dn D_law_mix hr (by omega) pass0 (pa_cons (pv 0) (pa_cons pe_int pa_nil))))
    (pss_cons (ps_for PassesOwn.never rfl (pi_range1 rfl T.n_range (pa_cons pe_int pa_nil)) (pg_name (i := 2) sc_law.nd rfl (Or.inl rfl))
      (pss_cons (ps_set (i := 3) sc_law.nd rfl (Or.inl rfl) (pe_op op_add pe_int (pe_dn D_law_next hr (by omega) pass0 (pa_cons (pv 1) (pa_cons (pe_ix (ix_listK K) (pe_lst (pa_cons pe_int (pa_cons pe_int pa_nil))) (pe_dn D_law_next hr (by omega) pass0 (pa_cons (pv 1) (pa_cons pe_int pa_nil))) (fun _ _ => rfl)) pa_nil)))))
      (pss_cons (ps_par (i := 4) (j := 5) rfl sc_law.nd rfl rfl (by decide) rfl rfl (pa_cons (pe_dn D_law_program hr (by omega) pass0 (pa_cons (pv 1) (pa_cons (pv 3) (pa_cons pe_int pa_nil)))) (pa_cons (pe_dn D_law_program hr (by omega) pass0 (pa_cons (pv 1) (pa_cons (pv 3) (pa_cons pe_int pa_nil)))) pa_nil)) rfl)
      (pss_cons (ps_set (i := 6) sc_law.nd rfl (Or.inl rfl) (pe_ix (ix_tupK K) (pe_dn D_fitted hr (by omega) pass0 (pa_cons (pv 4) (pa_cons (pv 5) pa_nil))) pe_int (fun _ _ => rfl)))
      (pss_one (ps_for PassesOwn.never rfl (pi_range1 rfl T.n_range (pa_cons pe_int pa_nil)) (pg_name (i := 7) sc_law.nd rfl (Or.inl rfl))
        (pss_cons (ps_set (i := 8) sc_law.nd rfl (Or.inl rfl) (pe_ix (ix_listK K) (pe_lst (pa_cons (pv 6) (pa_cons (pe_slice sl_list (pv 6) po_none (po_some (pe_dn D_law_next hr (by omega) pass0 (pa_cons (pv 1) (pa_cons (pe_op op_add (pe_callB (call_len_seqK K) (by rfl) T.n_len PySem.boot_len (pa_cons (pv 6) pa_nil)) pe_int) pa_nil))))) (pa_cons (pe_dn D_law_any hr (by omega) pass0 (pa_cons (pv 1) (pa_cons (pv 4) (pa_cons (pv 5) pa_nil)))) pa_nil)))) (pe_dn D_law_next hr (by omega) pass0 (pa_cons (pv 1) (pa_cons pe_int pa_nil))) (fun _ _ => rfl)))
        (pss_cons (ps_for PassesOwn.never rfl (pi_range1 rfl T.n_range (pa_cons (pe_dn D_law_next hr (by omega) pass0 (pa_cons (pv 1) (pa_cons pe_int pa_nil))) pa_nil)) (pg_name (i := 9) sc_law.nd rfl (Or.inl rfl))
          (pss_one (ps_set (i := 8) sc_law.nd rfl (Or.inl rfl) (pe_dn D_law_turned hr (by omega) pass0 (pa_cons (pv 1) (pa_cons (pv 8) pa_nil))))))
        (pss_cons (ps_set (i := 10) sc_law.nd rfl (Or.inl rfl) (pe_callTy (call_list_ofK K) (by rfl) T.n_list PyProof.Rows.boot_list (pa_cons (pv 8) pa_nil)))
        (pss_cons (ps_set (i := 11) sc_law.nd rfl (Or.inl rfl) (pe_dn D_law_shows hr (by omega) pass0 (pa_cons (pv 4) (pa_cons (pv 5) (pa_cons (pv 8) pa_nil)))))
        (pss_cons (ps_if (PW.pt (pw_or (pt_not (pt_val (pe_dn D_law_alike hr (by omega) pass0 (pa_cons (pe_dn D_shows hr (by omega) pass0 (pa_cons (pv 4) (pa_cons (pv 5) (pa_cons (pv 10) pa_nil)))) (pa_cons (pv 11) pa_nil))))) (pw_or1 (pt_cmpR (op_neDK K rfl hr.units) (pv 10) (pv 8) (nomark _))))) (pss_one (ps_ret pe_bl)) pss_nil)
        (pss_one (ps_if (PW.pt (pw_and (pt_val (pv 11)) (pw_and1 (pt_cmpR op_gt (pe_callB (call_len_seqK K) (by rfl) T.n_len PySem.boot_len (pa_cons (pv 8) pa_nil)) (pe_callB (call_len_seqK K) (by rfl) T.n_len PySem.boot_len (pa_cons (pv 6) pa_nil)) (nomark _))))) (pss_one (ps_ret pe_bl)) pss_nil)))))))))))))
    (pss_one (ps_ret pe_bl)))), ?_⟩
  refine ⟨_, rfl, a, 19, ns, rfl, hS, hn, fun h l H1 f1 D1 => ?_⟩
  refine gn ?_
  dsimp only
  refine q_forR1 (n := 3) (by walk_at "ea") (by decide) (fun _ σ' H' => ∃ v2 v3 v4 v5 v6 v7 v8 v9 v10 v11 : Option V, σ' = [some (.ref a), some (.ref h), v2, v3, v4, v5, v6, v7, v8, v9, v10, v11] ∧ Draw H' h l)
    (fun H2 f2 => ⟨none, none, none, none, none, none, none, none, none, none, rfl, D1.mono f2⟩) ?_ (fun σ' H' ⟨_, _, _, _, _, _, _, _, _, _, e, _⟩ => by subst e; exact k _)
  rintro i σ' H2 hi ⟨v2, v3, v4, v5, v6, v7, v8, v9, v10, v11, rfl, D2⟩
  -- cells
  refine ⟨_, rfl, by show 2 ≤ sizeLine; decide, fun pt nt => ⟨_, rfl, h, l, 2, rfl, (D2.mono (Ex.new (o := .lst [.int 2, .int 4]) nt)), by decide, by decide, fun z H3 z0 z1 D3 => ?_⟩⟩
  have hpt : H3 pt = some (.lst [.int 2, .int 4]) := D3.bt _ _ (D2.out nt) upd_same
  obtain ⟨mo, hmo, hat⟩ : ∃ mo : Nat, (0 < mo ∧ mo ≤ 4) ∧ atI ([.int 2, .int 4] : List V) z = some (.int (mo : Int)) := by
    have hz : z = 0 ∨ z = 1 := by omega
    rcases hz with rfl | rfl
    · exact ⟨2, by decide, rfl⟩
    · exact ⟨4, by decide, rfl⟩
  refine ⟨pt, _, z, _, rfl, rfl, SqL.of hpt, hat, h, l, (mo : Int), rfl, D3.dr, by omega, by omega, fun c H4 c0 c1 D4 => ⟨1, c, rfl, rfl, ?_⟩⟩
  refine gn ?_
  dsimp only
  obtain ⟨n, hn1⟩ : ∃ n : Nat, 1 + c = (n : Int) := ⟨(1 + c).toNat, by omega⟩
  rw [hn1]
  have hn0 : 0 < n := by omega
  have hn4 : n ≤ 4 := by omega
  -- two programs
  refine ⟨_, rfl, _, rfl, h, l, n, 20, rfl, D4.dr, hn0, hn4, by decide, fun p us ds H6 np hp6 hP6 hl6 hok6 D6 => ⟨_, rfl, _, rfl, h, l, n, 20, rfl, D6.dr, hn0, hn4, by decide, fun q xs es H7 nq hq7 hX7 hl7 hok7 D7 => ⟨_, _, rfl, ?_⟩⟩⟩
  dsimp only
  have hp7 : H7 p = some (.lst us) := D7.bt _ _ (D4.dr.out np) hp6
  have hP7 : PV K H7 us ds := D6.dr.pv D7.bt hP6
  have nph : ¬ p ∈ [h, l] := D4.dr.out np
  have nqh : ¬ q ∈ [h, l] := D6.dr.out nq
  have D7 := D7.dr
  have okd : ∀ d ∈ ds, d.ok 4 := fun d hd => (hok6 d hd).mono hn4
  have oke : ∀ d ∈ es, d.ok 4 := fun d hd => (hok7 d hd).mono hn4
  have F := fitD_ok (ds := ds) hok7
  have Fl := fitD_len (ds := ds) hok7
  have Fn := F.len
  -- the told reason
  refine ⟨_, rfl, _, rfl, p, q, us, xs, ds, es, rfl, SqL.of hp7, hP7, hl6, okd, SqL.of hq7, hX7, hl7, oke, fun vd H8 td => ?_⟩
  obtain ⟨t', pl, rl, ps, ys, rfl, a1, a2, a3, a4, a5, _, nrl, _, f8⟩ := td
  refine ⟨t', _, 1, .ref rl, rfl, rfl, SqT.of a1, rfl, ?_⟩
  refine gn ?_
  dsimp only
  have hp8 := f8 _ _ hp7
  have hq8 := f8 _ _ hq7
  have hP8 := hP7.mono f8
  have hX8 := hX7.mono f8
  have D8 := D7.mono f8
  have nrh : ¬ rl ∈ [h, l] := D7.out nrl
  have ly := a5.length
  have lw : (whyI (fitD ds es).why).length = (fitD ds es).why.length := by unfold whyI; rw [List.length_map]
  have why20 : (fitD ds es).why.length ≤ 20 := by
    have z := F.all
    have z2 := fitD_num (ds := ds) hok7
    omega
  clear hp7 hq7 hP7 hX7 a1 a2 a3
  refine s_forR1 (n := 5) (by walk_at "ea") (by decide) (fun _ σ' H' => ∃ v7 v8 v9 v10 v11 : Option V, σ' = [some (.ref a), some (.ref h), some (.int (i : Int)), some (.int (n : Int)), some (.ref p), some (.ref q), some (.ref rl), v7, v8, v9, v10, v11] ∧ Drew H8 H' h l)
    (fun H9 f9 => ⟨_, _, _, _, _, rfl, (Drew.refl D8).of_ex f9⟩) ?_ (fun σ' H' ⟨_, _, _, _, _, e, z⟩ => ⟨_, _, _, _, _, _, _, _, _, _, e, z.dr⟩)
  rintro j σ' H9 hj ⟨v7', v8', v9', v10', v11', rfl, D9⟩
  have hrl9 := D9.bt _ _ nrh a4
  -- one of three
  refine ⟨_, rfl, _, rfl, _, rfl, _, rfl, rl, ys, rfl, .inl (SqL.of hrl9), _, _, rfl, rfl, h, l, (ys.length : Int) + 1, rfl, D9.dr, by omega, by omega, fun z1 H10 z10 z11 D10 => ⟨z1, rfl, rl, ys, rfl, SqL.of (D10.bt _ _ nrh hrl9), fun p2 n2 => ?_⟩⟩
  obtain ⟨kn, rfl⟩ : ∃ kn : Nat, z1 = kn := ⟨z1.toNat, by omega⟩
  rw [cutV_to]
  have D11 := (D9.trans D10).new (o := .lst (ys.take kn)) n2
  have n2h : ¬ p2 ∈ [h, l] := D10.dr.out n2
  have h211 := upd_same (H := H10) (a := p2) (o := .lst (ys.take kn))
  generalize upd H10 p2 (.lst (ys.take kn)) = H11 at D11 h211 ⊢
  refine ⟨_, rfl, _, rfl, _, rfl, h, l, p, q, us, xs, ds, es, rfl, D11.dr, D11.bt _ _ nph hp8, nph, D8.pv D11.bt hP8, hl6, D11.bt _ _ nqh hq8, nqh, D8.pv D11.bt hX8, hl7, fun r3 y3 w3 H12 n3 h3 hR3 hl3 D12 => ⟨by show 3 ≤ sizeLine; decide, fun pl2 npl2 => ⟨_, rfl, h, l, 3, rfl, (D12.new (o := .lst [.ref rl, .ref p2, .ref r3]) npl2).dr, by decide, by decide, fun z2 H13 z20 z21 D13 => ?_⟩⟩⟩
  have hpl2 : H13 pl2 = some (.lst [.ref rl, .ref p2, .ref r3]) := D13.bt _ _ (D12.dr.out npl2) upd_same
  have D1213 := ((Drew.refl D12.dr).new (o := .lst [.ref rl, .ref p2, .ref r3]) npl2).trans D13
  have D13' := (D11.trans D12).trans D1213
  have D1113 := D12.trans D1213
  obtain ⟨rr, yy, ww, hrr, hyy, hww, nrr, lww⟩ : ∃ (rr : Addr) (yy : List V) (ww : List (Int × Int)), atI ([.ref rl, .ref p2, .ref r3] : List V) z2 = some (.ref rr) ∧ H13 rr = some (.lst yy) ∧ IVs K H13 yy ww ∧ (¬ rr ∈ [h, l]) ∧ ww.length ≤ 20 := by
    have hz : z2 = 0 ∨ z2 = 1 ∨ z2 = 2 := by omega
    have base := a5.draw D8 D13'.bt
    rcases hz with rfl | rfl | rfl
    · exact ⟨rl, ys, _, rfl, D13'.bt _ _ nrh a4, base, nrh, by rw [lw]; exact why20⟩
    · exact ⟨p2, ys.take kn, _, rfl, D1113.bt _ _ n2h h211, base.take kn, n2h, by rw [List.length_take]; omega⟩
    · exact ⟨r3, y3, w3, rfl, D1213.bt _ _ (D11.dr.out n3) h3, hR3.draw D12.dr D1213.bt, D11.dr.out n3, hl3⟩
  refine ⟨pl2, _, z2, .ref rr, rfl, rfl, SqL.of hpl2, hrr, ?_⟩
  refine gn ?_
  dsimp only
  clear hpl2 D1213 D1113 D12 h211 D11 hrl9 D9 D10 D13
  -- told otherwise
  refine q_forRX (R := fun m H14 => 0 ≤ m ∧ m < 3 ∧ Drew H13 H14 h l) (fun Q z => ⟨_, rfl, h, l, 3, rfl, D13'.dr, by decide, by decide, fun m H14 m0 m1 D14 => z m H14 ⟨m0, m1, D14⟩⟩) fun m H14 ⟨m0, m1, D14⟩ => ?_
  refine q_forR1 (n := m) (ea_cons ev_c ea_nil) (by omega) (fun jj σ' H' => ∃ (rr : Addr) (yy : List V) (ww : List (Int × Int)) (v9 : Option V), σ' = [some (.ref a), some (.ref h), some (.int (i : Int)), some (.int (n : Int)), some (.ref p), some (.ref q), some (.ref rl), some (.int (j : Int)), some (.ref rr), v9, v10', v11'] ∧ H' rr = some (.lst yy) ∧ IVs K H' yy ww ∧ (¬ rr ∈ [h, l]) ∧ ww.length ≤ 20 + jj ∧ Drew H8 H' h l)
    (fun H15 f15 => ⟨rr, yy, ww, _, rfl, f15 _ _ (D14.bt _ _ nrr hyy), (hww.draw D13'.dr D14.bt).mono f15, nrr, by omega, (D13'.trans D14).of_ex f15⟩) ?_ ?_
  · rintro jj σ' H15 hjj ⟨rr, yy, ww, v9, rfl, hyy, hww, nrr, lww, D15⟩
    refine ⟨_, rfl, _, rfl, h, l, rr, yy, ww, rfl, D15.dr, hyy, nrr, hww, by omega, fun r' ys' rs' H16 n' h' q' z' D16 => ?_⟩
    exact ⟨r', ys', rs', _, rfl, h', q', n', by omega, D15.trans D16⟩
  · clear hyy hww nrr lww D13' D14
    rintro σ' H15 ⟨rr, yy, ww, v9, rfl, hyy, hww, nrr, lww, D15⟩
    have lww : ww.length ≤ 23 := by omega
    have lyy := hww.length
    have hp15 := D15.bt _ _ nph hp8
    have hq15 := D15.bt _ _ nqh hq8
    have hP15 := D8.pv D15.bt hP8
    have hX15 := D8.pv D15.bt hX8
    have hr15 := D15.bt _ _ nrh a4
    refine q_asgL (xs := yy) (el_list (ev_var (v := .ref rr) rfl) (SqL.of hyy)) fun hd H16 nhd f16 hhd => ?_
    have ls := sp_law_shows_v (K := K) (SqL.of (f16 _ _ hp15)) (hP15.mono f16) (by omega) (SqL.of (f16 _ _ hq15)) (hX15.mono f16) (SqL.of (f16 _ _ hyy)) (hww.mono f16) (by omega)
    refine q_asg (v := .bl (whyOk ds es 0 0 ww)) (ev_call (dvs := []) (ea_cons (ev_var (v := .ref p) rfl) (ea_cons (ev_var (v := .ref q) rfl) (ea_cons (ev_var (v := .ref rr) rfl) ea_nil))) ls) fun H17 f17 => ?_
    have f117 := f16.trans f17
    have sh := sp_shows_v (K := K) (SqL.of (f117 _ _ hp15)) (hP15.mono f117) hl6 okd (SqL.of (f117 _ _ hq15)) (hX15.mono f117) hl7 oke (SqL.of (f17 _ _ hhd)) (hww.mono f117)
    have al := sp_law_alike_v (K := K) (H := H17) (n := 2) (Dp.bl (whyOk ds es 0 0 ww)) (Dp.bl (whyOk ds es 0 0 ww)) (.bl _)
    refine q_when (b := false) (et_is (et_or (a := false) (b := false) (et_is (et_not (a := true) (et_B (ev_call (dvs := []) (ea_cons (ev_call (dvs := []) (ea_cons (ev_var (v := .ref p) rfl) (ea_cons (ev_var (v := .ref q) rfl) (ea_cons (ev_var (v := .ref hd) rfl) ea_nil))) sh) (ea_cons (ev_var rfl) ea_nil)) al))) rfl)
      (fun _ => et_test (ev_is (ev_op (x := .ref hd) (y := .ref rr) (ev_var rfl) (ev_var rfl) (rv_neD (n := 3) (m := 3) (d := .list (ww.map iD)) (e := .list (ww.map iD)) (.lst (SqL.of (f17 _ _ hhd)) (hww.mono f117).dpa) (.lst (SqL.of (f117 _ _ hyy)) (hww.mono f117).dpa) (nice_is (n := 1) (by omega)).sh (nice_is (n := 1) (by omega)).sh (by decide) (by decide))) (by rw [(nice_is (n := 1) (by omega : ww.length ≤ 1000)).sh.eqv]; rfl)))) rfl) (fun z => nomatch z) (fun _ H18 f18 => ?_)
    have f118 := f117.trans f18
    have most : whyOk ds es 0 0 ww = true → ww.length ≤ (fitD ds es).why.length := why_most hok7
    refine s_when (b := false) (et_is (et_and (a := whyOk ds es 0 0 ww) (b := false) (et_B (ev_var rfl)) (fun hw => et_test (ev_is (ev_op (ev_cb (ea_cons (ev_var (v := .ref rr) rfl) ea_nil) (rc_lenL (SqL.of (f118 _ _ hyy)))) (ev_cb (ea_cons (ev_var (v := .ref rl) rfl) ea_nil) (rc_lenL (SqL.of (f118 _ _ hr15)))) rv_I0) (by
      have z := most hw
      congr 1
      exact decide_eq_false (by omega))))) (by rw [Bool.and_false])) (fun z => nomatch z) (fun _ H19 f19 => ⟨_, _, _, _, _, rfl, D15.of_ex (f118.trans f19)⟩)

theorem all_mk {l : PySem.W.OpenLaw} {w : World} {K : PySem.W.Frag} {h : Heap} {mg : Str → Option Value} {fa f : Addr} {aR aW : Addr} {t4 t40 : Tok} {od an : Option Addr} {sl : Array (Option Value)} {oc kV dc pm cd ct : Value}
    (X : K.In h) (G : h.Ns mainGlobals mg) (hfa : mg "law" = some (.ref fa)) (T : Nb mg) (TP : TxP K mg aR aW t4 t40) {tf : Tok} (TF : TxF mg tf)
    (aL : PySem.W.nsIn K mainGlobals "law" = some (some (.ref f))) (lL : K.lookup f = some ⟨oc, od, .func (PySem.W.fnOf "law" "law" (defArgs s_law) (defBody s_law) (defScope s_law) .none kV dc pm an cd ct), sl⟩) (cL : PySem.W.codeIn K cd "law" = true) (kL : PySem.W.keepIn K (.ref f) = true)
    (h_is_whole : Has K mg "is_whole" s_is_whole) (h_is_cell : Has K mg "is_cell" s_is_cell) (h_is_worth : Has K mg "is_worth" s_is_worth) (h_is_deed : Has K mg "is_deed" s_is_deed) (h_check_program : Has K mg "check_program" s_check_program) (h_check_programs : HasD K mg "check_programs" s_check_programs [.int 40]) (h_clash : Has K mg "clash" s_clash) (h_due : Has K mg "due" s_due) (h_fitted : Has K mg "fitted" s_fitted) (h_shows : Has K mg "shows" s_shows) (h_law_mix : Has K mg "_law_mix" s_law_mix) (h_law_next : Has K mg "_law_next" s_law_next) (h_law_alike : Has K mg "_law_alike" s_law_alike) (h_law_deed : Has K mg "_law_deed" s_law_deed) (h_law_program : Has K mg "_law_program" s_law_program) (h_law_meet : Has K mg "_law_meet" s_law_meet) (h_law_at : Has K mg "_law_at" s_law_at) (h_law_shows : Has K mg "_law_shows" s_law_shows) (h_law_any : Has K mg "_law_any" s_law_any) (h_law_turned : Has K mg "_law_turned" s_law_turned) :
    ∃ fd : FuncData, (∀ (s : Shared) (v : Value), BindsTo s fd ⟨[v], []⟩ [("_law_script", v)]) ∧ ∀ base : Heap, K.In base → base.Ns mainGlobals mg → FnOk l.prog w K mg base CX0 7 fa fd ["_law_script"] (sp_law K) := by
  have e := hfa.symm.trans (PySem.W.mg_of X G aL)
  cases e
  have F := fun_mk (st := s_law) lL cL kL
  refine ⟨PySem.W.fnOf "law" "law" (defArgs s_law) (defBody s_law) (defScope s_law) .none kV dc pm an cd ct, fun s v => .of_eq rfl, fun base _ _ => ?_⟩
  · have w1 := d_is_whole (P := l.prog) (w := w) (base := base) T h_is_whole
    have w2 := d_is_cell w1 h_is_cell
    have w3 := d_is_worth TP w1 h_is_worth
    have w4 := d_is_deed T TP w2 w3 h_is_deed
    have w7 := d_check_program T TP w4 h_check_program
    have w8 := d_check_programs w7 h_check_programs
    have w9 := d_clash (P := l.prog) (w := w) (base := base) TP h_clash
    have w18 := d_due (P := l.prog) (w := w) (base := base) T TP h_due
    have v1 := d_law_mix (P := l.prog) (w := w) (base := base) T h_law_mix
    have v2 := d_law_next (P := l.prog) (w := w) (base := base) T h_law_next
    have v3 := d_law_deed T v2 h_law_deed
    have v4 := d_law_program T v2 v3 h_law_program
    have v6 := d_law_alike (P := l.prog) (w := w) (base := base) T h_law_alike 3
    have v7 := d_law_meet (P := l.prog) (w := w) (base := base) T h_law_meet
    have v8 := d_law_at (P := l.prog) (w := w) (base := base) h_law_at
    have w84 := d_check_programs4 w7 h_check_programs
    have x1 := d_fitted T TP TF w84 w9 w18 h_fitted
    have x2 := d_shows T TP TF w1 w84 w9 w18 h_shows
    have v9 := d_law_shows T v8 v7 h_law_shows
    have v10 := d_law_any T v2 v8 v7 h_law_any
    have v11 := d_law_turned T v2 h_law_turned
    exact d_law T v1 v2 v4 v6 x1 x2 v9 v10 v11 F
theorem walk {l : PySem.W.OpenLaw} {q : Program} {loose : List Str} {XP : (Str → Option Value) → Heap → Prop} {YP : World → Heap → Prop} {d : DefRec} {K : Params → PySem.W.Frag} (hn : l.most = some 63) (hdf : d.params.defaults = [])
    (hY : ∀ (w : World) (h : Heap), YP w h → (K w.params).In h)
    (F : ∀ (w : World) (mg : Str → Option Value) (fa : Addr) (h : Heap), (K w.params).In h → h.Ns mainGlobals mg → mg d.name = some (.ref fa) →
      ∃ fd : FuncData, (∀ (s : Shared) (u : Value), BindsTo s fd ⟨[u], []⟩ [("_law_script", u)]) ∧ ∀ base : Heap, (K w.params).In base → base.Ns mainGlobals mg → FnOk l.prog w (K w.params) mg base CX0 7 fa fd ["_law_script"] (sp_law (K w.params))) :
    PySem.W.WalkO q loose XP YP l.row.toRowW d [] (fun f vs => PySem.call f vs) :=
  L2.walk_of (n := 63) (k := 7) (x := "_law_script") (CX := fun _ => CX0) (sp := fun w => sp_law (K w.params)) hn (by decide) hdf ⟨rfl, by decide, by decide⟩ hY F (fun _ _ a ns hl _ hS => ⟨a, ns, rfl, hS, hl, fun _ => rfl⟩) fun _ _ _ _ _ z => z

end
end Db

open PySem PySem.W PyProof.Rows
set_option maxRecDepth 100000 in
set_option maxHeartbeats 0 in
theorem PySem.Challenge.cw_doorbeat_k07_reasons_judged_holds : PySem.Challenge.rw_doorbeat_k07_reasons_judged.Holds := by
  w_on; o_law; k_head; (case hw => w_witness2)
  k_fill
  refine Db.walk (l := PySem.Challenge.rw_doorbeat_k07_reasons_judged) rfl rfl (fun w h Y => PySem.W.kIn_of Y) ?F
  case F =>
    intro w mg fa h KX G hmg
    refine' Db.all_mk KX G hmg ?T ?TP ?TF ?aL ?lL ?cL ?kL ?h_is_whole ?h_is_cell ?h_is_worth ?h_is_deed ?h_check_program ?h_check_programs ?h_clash ?h_due ?h_fitted ?h_shows ?h_law_mix ?h_law_next ?h_law_alike ?h_law_deed ?h_law_program ?h_law_meet ?h_law_at ?h_law_shows ?h_law_any ?h_law_turned
    case T => refine' Db.nb_mk KX G ?b1 ?b2 ?b3 ?b4 ?b5 ?b6 ?b7 ?b8 ?b9 ?b10 ?b11 ?b12 <;> k_is
    case TP => (refine' Db.txp_mk KX G ?a1 ?l1 ?a2 ?l2 ?c4 ?c40; (case a1 => k_is); (case l1 => k_is); (case a2 => k_is); (case l2 => k_is); (case c4 => k_is); (case c40 => k_is))
    case TF => (refine' Db.txf_mk KX G ?a1; (case a1 => k_is))
    (case aL => k_is)
    (case lL => k_is)
    (case cL => k_is)
    (case kL => k_is)
    case h_is_whole => (refine' Db.has_mk KX G ?a ?l ?c ?k; (case a => k_is); (case l => k_is); (case c => k_is); (case k => k_is))
    case h_is_cell => (refine' Db.has_mk KX G ?a ?l ?c ?k; (case a => k_is); (case l => k_is); (case c => k_is); (case k => k_is))
    case h_is_worth => (refine' Db.has_mk KX G ?a ?l ?c ?k; (case a => k_is); (case l => k_is); (case c => k_is); (case k => k_is))
    case h_is_deed => (refine' Db.has_mk KX G ?a ?l ?c ?k; (case a => k_is); (case l => k_is); (case c => k_is); (case k => k_is))
    case h_check_program => (refine' Db.has_mk KX G ?a ?l ?c ?k; (case a => k_is); (case l => k_is); (case c => k_is); (case k => k_is))
    case h_check_programs => (refine' Db.hasD_mk KX G ?a ?l ?c ?k ?t; (case a => k_is); (case l => k_is); (case c => k_is); (case k => k_is); (case t => k_is))
    case h_clash => (refine' Db.has_mk KX G ?a ?l ?c ?k; (case a => k_is); (case l => k_is); (case c => k_is); (case k => k_is))
    case h_due => (refine' Db.has_mk KX G ?a ?l ?c ?k; (case a => k_is); (case l => k_is); (case c => k_is); (case k => k_is))
    case h_fitted => (refine' Db.has_mk KX G ?a ?l ?c ?k; (case a => k_is); (case l => k_is); (case c => k_is); (case k => k_is))
    case h_shows => (refine' Db.has_mk KX G ?a ?l ?c ?k; (case a => k_is); (case l => k_is); (case c => k_is); (case k => k_is))
    case h_law_mix => (refine' Db.has_mk KX G ?a ?l ?c ?k; (case a => k_is); (case l => k_is); (case c => k_is); (case k => k_is))
    case h_law_next => (refine' Db.has_mk KX G ?a ?l ?c ?k; (case a => k_is); (case l => k_is); (case c => k_is); (case k => k_is))
    case h_law_alike => (refine' Db.has_mk KX G ?a ?l ?c ?k; (case a => k_is); (case l => k_is); (case c => k_is); (case k => k_is))
    case h_law_deed => (refine' Db.has_mk KX G ?a ?l ?c ?k; (case a => k_is); (case l => k_is); (case c => k_is); (case k => k_is))
    case h_law_program => (refine' Db.has_mk KX G ?a ?l ?c ?k; (case a => k_is); (case l => k_is); (case c => k_is); (case k => k_is))
    case h_law_meet => (refine' Db.has_mk KX G ?a ?l ?c ?k; (case a => k_is); (case l => k_is); (case c => k_is); (case k => k_is))
    case h_law_at => (refine' Db.has_mk KX G ?a ?l ?c ?k; (case a => k_is); (case l => k_is); (case c => k_is); (case k => k_is))
    case h_law_shows => (refine' Db.has_mk KX G ?a ?l ?c ?k; (case a => k_is); (case l => k_is); (case c => k_is); (case k => k_is))
    case h_law_any => (refine' Db.has_mk KX G ?a ?l ?c ?k; (case a => k_is); (case l => k_is); (case c => k_is); (case k => k_is))
    case h_law_turned => (refine' Db.has_mk KX G ?a ?l ?c ?k; (case a => k_is); (case l => k_is); (case c => k_is); (case k => k_is))
