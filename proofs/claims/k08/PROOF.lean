import PyProof.Rows.All
import Wide.All
import OpenK.AllK
import Wide.FinOn
import HandS.ForMost
import HandS.Evl
import HandS.Wide
import HandS.IsInst
import HandS.CallLocal
import HandS.Defaults
import HandS.Walk
import HandS.More
import KE.KDictZip
import HandS.Star
import HandS.Text
import PyProof.Draws
import PyProof.StrOps2
import PyProof.Rows.StrMul
import PyProof.Rows.RegReprOcc
import HandS.Style
import KE.KDictSum
import HandS.Dict
import HandS.Conv
import HandS.TupAny
import HandS.TupSets
import KE.KeyNested
import KE.KDictKeyed
import HandS.SetBool
import KE.SortData
import KE.DataEq
import PyProof.StrLawsTight
import PyProof.StrLawsChain
import PySem.Challenge.RW_doorbeat_k08_whole_all_that_may_come
set_option Elab.async false
set_option linter.all false
set_option maxRecDepth 100000
set_option maxHeartbeats 4000000
namespace Db
open PySem L2 Evl

/-! ### a def of the text by its name -/
structure Has (K : PySem.W.Frag) (mg : Str → Option Value) (x : Str) (st : Stmt) : Prop where
  ex : ∃ f fd, Fun K x x st f fd ∧ mg x = some (.ref f)
structure Dn (P : Program) (w : World) (K : PySem.W.Frag) (mg : Str → Option Value) (base : Heap) (CX : CXT) (x : Str) (ps : List Str) (k : Nat) (sp : Sp) : Prop where
  ex : ∃ f fd, FnOk P w K mg base CX k f fd ps sp ∧ mg x = some (.ref f) ∧ PySem.W.keepIn K (.ref f) = true ∧ Binds K fd ps []
theorem dn_of {P : Program} {w : World} {K : PySem.W.Frag} {mg : Str → Option Value} {base : Heap} {CX : CXT} {x : Str} {ps : List Str} {k : Nat} {sp : Sp} {st : Stmt} (h : Has K mg x st)
    (hb : ∀ f fd, Fun K x x st f fd → Binds K fd ps []) (hf : ∀ f fd, Fun K x x st f fd → mg x = some (.ref f) → FnOk P w K mg base CX k f fd ps sp) : Dn P w K mg base CX x ps k sp := by
  obtain ⟨f, fd, F, hm⟩ := h.ex
  exact ⟨f, fd, hf f fd F hm, hm, F.kp, hb f fd F⟩
theorem has_mk {K : PySem.W.Frag} {h : Heap} {mg : Str → Option Value} {x : Str} {st : Stmt} {f : Addr} {oc : Value} {od an : Option Addr} {osl : Array (Option Value)} {kV doc pm cdv ct : Value} (X : K.In h) (G : h.Ns mainGlobals mg)
    (a : PySem.W.nsIn K mainGlobals x = some (some (.ref f)))
    (l : K.lookup f = some ⟨oc, od, .func (PySem.W.fnOf x x (defArgs st) (defBody st) (defScope st) .none kV doc pm an cdv ct), osl⟩)
    (c : PySem.W.codeIn K cdv x = true) (k : PySem.W.keepIn K (.ref f) = true) : Has K mg x st := ⟨f, _, fun_mk l c k, PySem.W.mg_of X G a⟩
section
variable {X : Cx}
theorem pe_dn {CX : CXT} {x : Str} {ps : List Str} {k j : Nat} {sp : Sp} {E : XK} {e : Expr} {es : List Expr} {t : TA} {p pos : Pos} (h : Dn X.prog X.w X.K X.mg X.base CX x ps k sp) (hr : Room j X.A) (hk : k ≤ j) (hx : Passes CX X E)
    (ha : PA X (e :: es) t) (hg : Gl X x := by rfl) (hdb : (x == ("__debug__" : Str)) = false := by decide) (he : starEach (e :: es) X.env = (false, eval e X.env) :: starEach es X.env := by rfl)
    (hpl : (backTo pos (starEach es X.env)).any (·.1) = false := by rfl) : PE X (.Call (.Name x p) (e :: es) [] pos) (tCall sp [] E t) := by
  obtain ⟨f, fd, F, hm, kp, b⟩ := h.ex
  exact pe_call F (hr.mono hk) hg hm kp b .nil hx ha hdb he hpl
end

/-- names of the built-ins that no def or constant hides -/
structure Nb (mg : Str → Option Value) : Prop where
  n_len : mg "len" = none
  n_isinstance : mg "isinstance" = none
  n_max : mg "max" = none
  n_min : mg "min" = none
  n_range : mg "range" = none
  n_enumerate : mg "enumerate" = none
  n_zip : mg "zip" = none
  n_list : mg "list" = none
  n_tuple : mg "tuple" = none
  n_int : mg "int" = none
  n_bool : mg "bool" = none
  n_str : mg "str" = none
/-! ### a def that only looks: R of the arguments, the heap, the value -/
def spF (n : Nat) (R : List V → Hp → V → Prop) : Sp := fun vs H Q _ => vs.length = n ∧ ∃ v, R vs H v ∧ ∀ H', Ex H H' → Q v H'
theorem spF_v {n : Nat} {R : List V → Hp → V → Prop} {vs : List V} {H : Hp} {v : V} (hl : vs.length = n) (h : ∀ H1, Ex H H1 → R vs H1 v) : SpV (spF n R) vs H v := fun H1 e Q q _ => ⟨hl, v, h H1 e, q⟩

/-! ### deeds -/
inductive Deed where
  | rd (c : Nat) | wr (c w : Nat) | rs
  deriving DecidableEq
def Deed.vals : Deed → List V
  | .rd c => [.str "read", .int (c : Int)]
  | .wr c w => [.str "write", .int (c : Int), .int (w : Int)]
  | .rs => [.str "rest"]
def Deed.ok (n : Nat) : Deed → Prop
  | .rd c => c < n
  | .wr c w => c < n ∧ w < 3
  | .rs => True
def Deed.ok.mono {n m : Nat} (h : n ≤ m) : ∀ {d : Deed}, d.ok n → d.ok m
  | .rd _, x => Nat.lt_of_lt_of_le (show _ < n from x) h
  | .wr _ _, x => ⟨Nat.lt_of_lt_of_le x.1 h, x.2⟩
  | .rs, _ => True.intro
/-- the value v is the deed d -/
def DV (K : PySem.W.Frag) (H : Hp) (v : V) (d : Deed) : Prop := ∃ a, v = .ref a ∧ SqT K H a d.vals
theorem DV.mono {K : PySem.W.Frag} {H H' : Hp} {v : V} {d : Deed} (e : Ex H H') (h : DV K H v d) : DV K H' v d := by
  obtain ⟨a, h1, h2⟩ := h
  exact ⟨a, h1, ex_t e h2⟩
def Deed.dat : Deed → List PyData
  | .rd c => [.str "read", .int (c : Int)]
  | .wr c w => [.str "write", .int (c : Int), .int (w : Int)]
  | .rs => [.str "rest"]
theorem DV.dp {K : PySem.W.Frag} {H : Hp} {v : V} {d : Deed} (h : DV K H v d) : Dp K H v (.tuple d.dat) := by
  obtain ⟨a, rfl, h2⟩ := h
  cases d with
  | rd c => exact .tup h2 (.cons (.str _) (.cons (.int _) .nil))
  | wr c w => exact .tup h2 (.cons (.str _) (.cons (.int _) (.cons (.int _) .nil)))
  | rs => exact .tup h2 (.cons (.str _) .nil)
/-- data of no more than n levels, laid out as the library wants it -/
structure Sh (n : Nat) (d : PyData) : Prop where
  lay : d.canLay0 = true
  dep : d.depth ≤ n
theorem Sh.mono {n m : Nat} {d : PyData} (h : Sh n d) (l : n ≤ m) : Sh m d := ⟨h.lay, Nat.le_trans h.dep l⟩
theorem Sh.shaped {n : Nat} {d : PyData} (h : Sh n d) (l : n ≤ 64) : SeqAt.shaped d = true := by
  unfold SeqAt.shaped
  rw [h.lay, decide_eq_true (Nat.le_trans h.dep l)]
  rfl
theorem sh_int {n : Nat} {i : Int} : Sh n (.int i) := ⟨by simp [PyData.canLay0], by simp [PyData.depth]⟩
theorem sh_bool {n : Nat} {i : Bool} : Sh n (.bool i) := ⟨by simp [PyData.canLay0], by simp [PyData.depth]⟩
theorem sh_none {n : Nat} : Sh n .none := ⟨by simp [PyData.canLay0], by simp [PyData.depth]⟩
theorem sh_str {n : Nat} {x : Str} (h : PyData.strOk x = true) : Sh n (.str x) := ⟨by simpa [PyData.canLay0] using h, by simp [PyData.depth]⟩
theorem sh_all {n : Nat} : ∀ {ds : List PyData}, (∀ d ∈ ds, Sh n d) → PyData.canLayAll0 ds = true ∧ PyData.depthAll ds ≤ n
  | [], _ => ⟨by simp [PyData.canLayAll0], by simp [PyData.depthAll]⟩
  | d :: r, h => by
    have h1 := h d List.mem_cons_self
    have h2 := sh_all (ds := r) fun x hx => h x (List.mem_cons_of_mem _ hx)
    refine ⟨?_, ?_⟩
    · rw [PyData.canLayAll0, h1.lay, h2.1]
      rfl
    · rw [PyData.depthAll]
      exact Nat.max_le.mpr ⟨h1.dep, h2.2⟩
theorem sh_tup {n : Nat} {ds : List PyData} (h : ∀ d ∈ ds, Sh n d) : Sh (n + 1) (.tuple ds) := by
  have q := sh_all h
  refine ⟨?_, ?_⟩
  · rw [PyData.canLay0]
    exact q.1
  · rw [PyData.depth]
    exact Nat.succ_le_succ q.2
theorem sh_lst {n : Nat} {ds : List PyData} (h : ∀ d ∈ ds, Sh n d) : Sh (n + 1) (.list ds) := by
  have q := sh_all h
  refine ⟨?_, ?_⟩
  · rw [PyData.canLay0]
    exact q.1
  · rw [PyData.depth]
    exact Nat.succ_le_succ q.2
theorem sh_ints (ns : List Int) : Sh 1 (.list (ns.map PyData.int)) := sh_lst fun d hd => by
  obtain ⟨n, _, rfl⟩ := List.mem_map.mp hd
  exact sh_int
theorem dpa_ints {K : PySem.W.Frag} {H : Hp} : ∀ ns : List Int, DpAll K H (ns.map V.int) (ns.map PyData.int)
  | [] => .nil
  | n :: r => .cons (.int n) (dpa_ints r)
theorem Sh.eqv {n : Nat} {d : PyData} (h : Sh n d) : PyData.eqv d d = true := SeqAt.eqv_refl d h.lay
theorem sk_read : PyData.strOk "read" = true := by decide +kernel
theorem sk_write : PyData.strOk "write" = true := by decide +kernel
theorem sk_rest : PyData.strOk "rest" = true := by decide +kernel
theorem Deed.sh (d : Deed) : Sh 1 (.tuple d.dat) := by
  cases d with
  | rd c => exact sh_tup (by simp only [Deed.dat, List.mem_cons, List.not_mem_nil, or_false]; rintro d (rfl | rfl) <;> first | exact sh_str sk_read | exact sh_int)
  | wr c w => exact sh_tup (by simp only [Deed.dat, List.mem_cons, List.not_mem_nil, or_false]; rintro d (rfl | rfl | rfl) <;> first | exact sh_str sk_write | exact sh_int)
  | rs => exact sh_tup (by simp only [Deed.dat, List.mem_cons, List.not_mem_nil, or_false]; rintro d rfl; exact sh_str sk_rest)
theorem Deed.eqv_rs (d : Deed) : PyData.eqv (.tuple d.dat) (.tuple Deed.rs.dat) = decide (d = .rs) := by
  cases d with
  | rd c => simp [Deed.dat, PyData.eqv, PyData.eqvAll]
  | wr c w => simp [Deed.dat, PyData.eqv, PyData.eqvAll]
  | rs => simp [Deed.dat, PyData.eqv, PyData.eqvAll]
/-- a program: its values, its deeds -/
def PV (K : PySem.W.Frag) (H : Hp) (vs : List V) (ds : List Deed) : Prop := Paired (DV K H) vs ds

/-! ### evaluation, some more -/
section
variable {K : PySem.W.Frag} {σ : L2.St} {H H' : Hp} {ta tb te tx : TE} {t u : TT} {x y z v : V}
theorem rc_len {p : Addr} {xs : List V} (h : SqL K H p xs ∨ SqT K H p xs) : RC (rLenS K) [.ref p] H (.int (xs.length : Int)) := fun H1 e _ q => ⟨p, xs, rfl, h.imp (ex_l e) (ex_t e), q H1 (Ex.refl H1)⟩
theorem rc_lenL {p : Addr} {xs : List V} (h : SqL K H p xs) : RC (rLenS K) [.ref p] H (.int (xs.length : Int)) := rc_len (.inl h)
theorem rc_lenT {p : Addr} {xs : List V} (h : SqT K H p xs) : RC (rLenS K) [.ref p] H (.int (xs.length : Int)) := rc_len (.inr h)
theorem rc_max {i j : Int} : RC rMax2 [.int i, .int j] H (.int (if j > i then j else i)) := fun H1 _ _ q => ⟨i, j, rfl, q H1 (Ex.refl H1)⟩
/-- a value's type that stays -/
def TyS (K : PySem.W.Frag) (H : Hp) (x : V) (t : Value) : Prop := ∀ H1, Ex H H1 → TyX K H1 x t
theorem tys_int {i : Int} : TyS K H (.int i) (.type "int") := fun _ _ => .base (.int i)
theorem tys_str {i : Str} : TyS K H (.str i) (.type "str") := fun _ _ => .base (.str i)
theorem tys_bl {i : Bool} : TyS K H (.bl i) (.type "bool") := fun _ _ => .base (.bl i)
theorem tys_non : TyS K H .non (.type "NoneType") := fun _ _ => .base .non
theorem tys_tup {a : Addr} {xs : List V} (h : SqT K H a xs) : TyS K H (.ref a) (.type "tuple") := fun H1 e => by
  rcases ex_t e h with (h | ⟨o, h⟩) | ⟨o, its, n, h, c, _⟩
  · exact .base (.tup h)
  · exact .fTuple h
  · exact .kTuple h c
theorem tys_lst {a : Addr} {xs : List V} (h : SqL K H a xs) : TyS K H (.ref a) (.type "list") := fun H1 e => by
  rcases ex_l e h with (h | ⟨o, h⟩) | ⟨o, its, n, h, c, _⟩
  · exact .base (.lst h)
  · exact .base (.frz h)
  · exact .kList h c
theorem rc_isi {c : String} {t : Value} {b : Bool} (h : TyS K H x t) (k : PySem.W.kitOne K t (.type c) = some b) : RC (rIsi K) [x, .ty c] H (.bl b) := fun H1 e _ q => ⟨x, .ty c, t, .type c, b, rfl, .ty c, h H1 e, k, q H1 (Ex.refl H1)⟩
theorem rc_isiB {c d : String} {b : Bool} (h : TyS K H x (.type d)) (k : kitB d c = some b) : RC (rIsi K) [x, .ty c] H (.bl b) := rc_isi h (kit_ty k)
/-- isinstance(x, (c, d)) -/
theorem ev_isi2 {c d f : String} {b1 b2 : Bool} (hx : Ev te σ H x) (h : TyS K H x (.type f)) (k1 : kitB f c = some b1) (k2 : kitB f d = some b2) :
    Ev (tCB (rIsiT K) (tCons te (tCons (tTup (tCons (tC (.ty c)) (tCons (tC (.ty d)) tNil))) tNil))) σ H (.bl (b1 || b2)) := fun H1 e Q q =>
  hx H1 e _ fun H2 e2 => ⟨by show 2 ≤ sizeLine; decide, fun p hp => ⟨x, p, [.ty c, .ty d], .type f, [.type c, .type d], b1 || b2, rfl, upd_same, .cons (.ty c) (.cons (.ty d) .nil), h _ ((e.trans e2).trans (Ex.new hp)),
    kitAny_cons (kit_ty k1) (fun h1 => kitAny_cons (kit_ty k2) (fun h2 => by rw [h1, h2]; exact kitAny_nil) (fun h2 => by rw [h2]; cases b1 <;> rfl)) (fun h1 => by rw [h1]; rfl), q _ (e2.trans (Ex.new hp))⟩⟩
/-! == and != of data -/
mutual
theorem dp_mono (e : Ex H H') : ∀ (d : PyData) (v : V), Dp K H v d → Dp K H' v d
  | .none, _, h => by cases h; exact .non
  | .bool b, _, h => by cases h; exact .bl b
  | .int i, _, h => by cases h; exact .int i
  | .str x, _, h => by cases h; exact .str x
  | .list ds, _, h => by
    cases h with
    | lst q r => exact .lst (ex_l e q) (dpAll_mono e ds _ r)
  | .tuple ds, _, h => by
    cases h with
    | tup q r => exact .tup (ex_t e q) (dpAll_mono e ds _ r)
  | .dict kvs, _, h => by cases h
theorem dpAll_mono (e : Ex H H') : ∀ (ds : List PyData) (vs : List V), DpAll K H vs ds → DpAll K H' vs ds
  | [], _, h => by cases h; exact .nil
  | d :: ds, _, h => by
    cases h with
    | cons a b => exact .cons (dp_mono e d _ a) (dpAll_mono e ds _ b)
end
theorem rv_eqD {d e : PyData} {n m : Nat} (hx : Dp K H x d) (hy : Dp K H y e) (hd : Sh n d) (he : Sh m e) (hn : n ≤ 64) (hm : m ≤ 64) : RV (rEqD K) x y H (.bl (PyData.eqv d e)) := fun H1 a _ q =>
  ⟨d, e, dp_mono a d x hx, dp_mono a e y hy, hd.shaped hn, he.shaped hm, q H1 (Ex.refl H1)⟩
theorem rv_neD {d e : PyData} {n m : Nat} (hx : Dp K H x d) (hy : Dp K H y e) (hd : Sh n d) (he : Sh m e) (hn : n ≤ 64) (hm : m ≤ 64) : RV (rNeD K) x y H (.bl (!PyData.eqv d e)) := fun H1 a _ q =>
  ⟨d, e, dp_mono a d x hx, dp_mono a e y hy, hd.shaped hn, he.shaped hm, q H1 (Ex.refl H1)⟩
theorem rv_is {r : R2} {w : V} (h : RV r x y H z) (e : z = w) : RV r x y H w := by
  rw [← e]
  exact h
/-- an if of one kind or the other, the value known -/
theorem ev_ifT (h : EvT t σ H true) (h1 : Ev ta σ H v) : Ev (tIf t ta tb) σ H v := ev_if h (fun _ => h1) (fun z => nomatch z)
theorem ev_ifF (h : EvT t σ H false) (h1 : Ev tb σ H v) : Ev (tIf t ta tb) σ H v := ev_if h (fun z => nomatch z) (fun _ => h1)
/-- a < b < c -/
theorem ev_chain {r r' : R2} {tc : TE} {w : V} {a b : Bool} (h1 : Ev ta σ H x) (h2 : Ev tb σ H y) (hr : RV r x y H (.bl a)) (h3 : a = true → Ev tc σ H w) (hr' : a = true → RV r' y w H (.bl b)) : Ev (tChain r r' ta tb tc) σ H (.bl (a && b)) := fun H1 e Q q =>
  h1 H1 e _ fun H2 e2 => h2 H2 (e.trans e2) _ fun H3 e3 => hr H3 ((e.trans e2).trans e3) _ fun H4 e4 => ⟨a, rfl, by
    have e04 := ((e.trans e2).trans e3).trans e4
    cases a with
    | false =>
      show Q (.bl false) H4
      exact q H4 ((e2.trans e3).trans e4)
    | true =>
      show tc σ H4 _
      exact h3 rfl H4 e04 _ fun H5 e5 => hr' rfl H5 (e04.trans e5) _ fun H6 e6 => q H6 ((((e2.trans e3).trans e4).trans e5).trans e6)⟩
end

/-! ### data of any kind, two of them alike -/
/-- an item of a list or a tuple -/
def rIxA (K : PySem.W.Frag) : R2 := fun x y H Q => rIxL K x y H Q ∨ rIxT K x y H Q
theorem ix_any {X : Cx} : IxR X (rIxA X.K) := fun value slice pins s σ H x y v u Q I rx ry q hs => by
  rcases q with q | q
  · exact ix_list value slice pins s σ H x y v u Q I rx ry q hs
  · exact ix_tup value slice pins s σ H x y v u Q I rx ry q hs
/-! rules that name the written part by itself (for a comprehension's block) -/
section
variable {X : Cx} (K : PySem.W.Frag) (e : X.K = K := by rfl)
include e
theorem ix_anyK : IxR X (rIxA K) := by subst e; exact ix_any
theorem ix_listK : IxR X (rIxL K) := by subst e; exact ix_list
theorem ix_tupK : IxR X (rIxT K) := by subst e; exact ix_tup
theorem call_len_seqK : CallR X (.builtin "len") (rLenS K) := by subst e; exact call_len_seq
theorem call_isiK2 : CallR X (.builtin "isinstance") (rIsi K) := by subst e; exact call_isi
theorem call_isiTK : CallR X (.builtin "isinstance") (rIsiT K) := by subst e; exact call_isiT
theorem op_eqDK (hu : X.A.units + 64 < cLine) : OpR X (compareOp .Eq) (rEqD K) := by subst e; exact op_eqD hu
theorem op_neDK (hu : X.A.units + 64 < cLine) : OpR X (compareOp .NotEq) (rNeD K) := by subst e; exact op_neD hu
theorem op_in_seqK : OpR X (compareOp .In) (rIn K false) := by subst e; exact op_in_seq
theorem op_notIn_seqK : OpR X (compareOp .NotIn) (rIn K true) := by subst e; exact op_notIn_seq
theorem call_list_ofK : CallR X (.type "list") (rListS K) := by subst e; exact call_list_of
end
def SqA (K : PySem.W.Frag) (H : Hp) (p : Addr) (xs : List V) : Prop := SqL K H p xs ∨ SqT K H p xs
theorem ex_a {K : PySem.W.Frag} {H H' : Hp} {p : Addr} {xs : List V} (e : Ex H H') (h : SqA K H p xs) : SqA K H' p xs := h.imp (ex_l e) (ex_t e)
theorem rv_ixA {K : PySem.W.Frag} {H : Hp} {p : Addr} {xs : List V} {i : Int} {v : V} (h : SqA K H p xs) (ha : atI xs i = some v) : RV (rIxA K) (.ref p) (.int i) H v := fun H1 e _ q => by
  rcases ex_a e h with h | h
  · exact .inl ⟨p, xs, i, v, rfl, rfl, h, ha, q H1 (Ex.refl H1)⟩
  · exact .inr ⟨p, xs, i, v, rfl, rfl, h, ha, q H1 (Ex.refl H1)⟩
/-- data of up to n levels, each list of up to a thousand -/
inductive Nice : Nat → PyData → Prop where
  | non {n : Nat} : Nice n .none
  | bl {n : Nat} (b : Bool) : Nice n (.bool b)
  | int {n : Nat} (i : Int) : Nice n (.int i)
  | str {n : Nat} {x : Str} : PyData.strOk x = true → Nice n (.str x)
  | lst {n : Nat} {ds : List PyData} : ds.length ≤ 1000 → (∀ d ∈ ds, Nice n d) → Nice (n + 1) (.list ds)
  | tup {n : Nat} {ds : List PyData} : ds.length ≤ 1000 → (∀ d ∈ ds, Nice n d) → Nice (n + 1) (.tuple ds)
theorem Nice.sh : ∀ {n : Nat} {d : PyData}, Nice n d → Sh n d
  | _, _, .non => sh_none
  | _, _, .bl _ => sh_bool
  | _, _, .int _ => sh_int
  | _, _, .str h => sh_str h
  | _, _, .lst _ h => sh_lst fun d hd => Nice.sh (h d hd)
  | _, _, .tup _ h => sh_tup fun d hd => Nice.sh (h d hd)
theorem Nice.mono {n : Nat} {d : PyData} (h : Nice n d) : ∀ {m : Nat}, n ≤ m → Nice m d := by
  induction h with
  | non => intro m _; exact .non
  | bl b => intro m _; exact .bl b
  | int i => intro m _; exact .int i
  | str h => intro m _; exact .str h
  | lst hl _ ih =>
    intro m hm
    obtain ⟨k, rfl⟩ : ∃ k, m = k + 1 := ⟨m - 1, by omega⟩
    exact .lst hl fun d hd => ih d hd (by omega)
  | tup hl _ ih =>
    intro m hm
    obtain ⟨k, rfl⟩ : ∃ k, m = k + 1 := ⟨m - 1, by omega⟩
    exact .tup hl fun d hd => ih d hd (by omega)
theorem dpa_len {K : PySem.W.Frag} {H : Hp} : ∀ {vs : List V} {ds : List PyData}, DpAll K H vs ds → vs.length = ds.length
  | _, _, .nil => rfl
  | _, _, .cons _ h => congrArg (· + 1) (dpa_len h)
theorem dpa_get {K : PySem.W.Frag} {H : Hp} : ∀ {vs : List V} {ds : List PyData} {i : Nat} {d : PyData}, DpAll K H vs ds → ds[i]? = some d → ∃ v, vs[i]? = some v ∧ Dp K H v d
  | _, _, _, _, .nil, e => by simp at e
  | _, _, 0, _, .cons r _, e => by simp at e; subst e; exact ⟨_, rfl, r⟩
  | _, _, i + 1, x, .cons _ t, e => by
    obtain ⟨u, h1, h2⟩ := dpa_get (i := i) (d := x) t (by simpa using e)
    exact ⟨u, by simpa using h1, h2⟩
theorem dpa_of {K : PySem.W.Frag} {H : Hp} {vs : List V} {ds : List Deed} (h : Paired (DV K H) vs ds) : DpAll K H vs (ds.map fun d => .tuple d.dat) := by
  induction h with
  | nil => exact .nil
  | cons a _ ih => exact .cons a.dp ih
section
variable {K : PySem.W.Frag} {σ : L2.St} {H : Hp} {te : TE} {t : TT}
/-- a comprehension over a new tuple, over a tuple -/
theorem el_lcNT {xs : List V} {tl : TE} {j : Nat} {vs : List Nat} (f : Nat → Bool) (v : Nat → V) (h : EvU tl σ H xs) (hz : xs.length ≤ 40000) (hw : ∀ x, wipe ((wipe σ vs).set j (some x)) vs = wipe σ vs)
    (ht : ∀ (i : Nat) (x : V) H1, Ex H H1 → xs[i]? = some x → EvT t ((wipe σ vs).set j (some x)) H1 (f i)) (he : ∀ (i : Nat) (x : V) H1, Ex H H1 → xs[i]? = some x → f i = true → Ev te ((wipe σ vs).set j (some x)) H1 (v i)) :
    EvL (tLc (iTup K tl) (gName j) t te vs) σ H (given xs.length f v) := fun H0 e Q q => h H0 e _ fun a H1 ha e1 hx => ⟨a, rfl, ⟨xs, st_of hx⟩, fun Dl hD =>
  lc_tup (xs := xs) (Cw H1 f v Dl) ⟨hD, Ex.new hD, upd_same⟩ (fun i H' _ p => st_of (p.2.1 a _ hx)) (fun i x H' hi p => ⟨hw x, cw_turn p (by have := (List.getElem?_eq_some_iff.mp hi).1; omega) (ht i x H1 (e.trans e1) hi) (fun hf => he i x H1 (e.trans e1) hi hf)⟩)
    (fun H' p => q Dl H' (fresh_back e1 p.1) (e1.trans p.2.1) p.2.2)⟩
theorem el_lcT {a : Addr} {xs : List V} {tl : TE} {j : Nat} {vs : List Nat} (f : Nat → Bool) (v : Nat → V) (h : Ev tl σ H (.ref a)) (hx : SqT K H a xs) (hz : xs.length ≤ 40000) (hw : ∀ x, wipe ((wipe σ vs).set j (some x)) vs = wipe σ vs)
    (ht : ∀ (i : Nat) (x : V) H1, Ex H H1 → xs[i]? = some x → EvT t ((wipe σ vs).set j (some x)) H1 (f i)) (he : ∀ (i : Nat) (x : V) H1, Ex H H1 → xs[i]? = some x → f i = true → Ev te ((wipe σ vs).set j (some x)) H1 (v i)) :
    EvL (tLc (iTup K tl) (gName j) t te vs) σ H (given xs.length f v) := fun H0 e Q q => h H0 e _ fun H1 e1 => ⟨a, rfl, ⟨xs, ex_t (e.trans e1) hx⟩, fun Dl hD =>
  lc_tup (xs := xs) (Cw H1 f v Dl) ⟨hD, Ex.new hD, upd_same⟩ (fun i H' _ p => ex_t ((e.trans e1).trans p.2.1) hx) (fun i x H' hi p => ⟨hw x, cw_turn p (by have := (List.getElem?_eq_some_iff.mp hi).1; omega) (ht i x H1 (e.trans e1) hi) (fun hf => he i x H1 (e.trans e1) hi hf)⟩)
    (fun H' p => q Dl H' (fresh_back e1 p.1) (e1.trans p.2.1) p.2.2)⟩
end
theorem given_two (f : Nat → Bool) (v : Nat → V) : given 2 f v = (if f 0 then [v 0] else []) ++ (if f 1 then [v 1] else []) := by
  have e : given 2 f v = (([0, 1] : List Nat).filter f).map v := rfl
  rw [e]
  cases h0 : f 0 <;> cases h1 : f 1 <;> simp [List.filter, h0, h1]
def Deed.tag : Deed → Str
  | .rd _ => "read"
  | .wr _ _ => "write"
  | .rs => "rest"
def Deed.cell : Deed → Option Nat
  | .rd c => some c
  | .wr c _ => some c
  | .rs => none
def Deed.isW : Deed → Bool
  | .wr _ _ => true
  | _ => false
/-- whether both are at one cell, and one writes -/
def clashD (d e : Deed) : Bool := match d.cell, e.cell with
  | some a, some b => decide (a = b) && (d.isW || e.isW)
  | _, _ => false
theorem DV.tag {K : PySem.W.Frag} {H : Hp} {a : Addr} {d : Deed} (h : SqT K H a d.vals) : RV (rIxT K) (.ref a) (.int 0) H (.str d.tag) := rv_ixT h (by cases d <;> rfl)
theorem in_ww : inV (.str "write") [.str "write", .str "write"] = true := by decide +kernel
theorem in_wr : inV (.str "write") [.str "write", .str "read"] = true := by decide +kernel
theorem in_rw : inV (.str "write") [.str "read", .str "write"] = true := by decide +kernel
theorem in_rr : inV (.str "write") [.str "read", .str "read"] = false := by decide +kernel
theorem tag_rest (d : Deed) : (!decide (V.str d.tag = V.str "rest")) = !decide (d = .rs) := by
  cases d with
  | rd c =>
    have h : decide (V.str (Deed.rd c).tag = V.str "rest") = false := (show decide (V.str "read" = V.str "rest") = false by decide +kernel)
    rw [h]
    simp
  | wr c w =>
    have h : decide (V.str (Deed.wr c w).tag = V.str "rest") = false := (show decide (V.str "write" = V.str "rest") = false by decide +kernel)
    rw [h]
    simp
  | rs => simp [Deed.tag]
theorem cut_at (us : List V) (i : Nat) : cutV us (some (i : Int)) (some ((i : Int) + 1)) = (us.drop i).take 1 := by
  unfold cutV
  have e1 : HT.sIx us.length 0 (some (i : Int)) = min i us.length := HT.sIx_nat _ _ _
  have e2 : HT.sIx us.length us.length (some ((i : Int) + 1)) = min (i + 1) us.length := HT.sIx_nat us.length us.length (i + 1)
  rw [e1, e2]
  by_cases h : i < us.length
  · have h1 : min i us.length = i := by omega
    have h2 : min (i + 1) us.length = i + 1 := by omega
    rw [h1, h2]
    have h3 : i + 1 - i = 1 := by omega
    rw [h3]
  · have h1 : min i us.length = us.length := by omega
    rw [h1, List.drop_of_length_le (Nat.le_refl _), List.drop_of_length_le (by omega)]
    simp
theorem cut_tail (us : List V) : cutV us (some 1) none = us.drop 1 := by
  unfold cutV
  have e1 : HT.sIx us.length 0 (some ((1 : Nat) : Int)) = min 1 us.length := HT.sIx_nat _ _ _
  have e2 : HT.sIx us.length us.length none = us.length := HT.sIx_none _ _
  have e3 : (some (1 : Int)) = some ((1 : Nat) : Int) := rfl
  rw [e3, e1, e2]
  cases us with
  | nil => rfl
  | cons a r =>
    have h1 : min 1 (a :: r).length = 1 := by simp
    rw [h1]
    simp
theorem PV.drop {K : PySem.W.Frag} {H : Hp} : ∀ {vs : List V} {ds : List Deed} (n : Nat), PV K H vs ds → PV K H (vs.drop n) (ds.drop n)
  | _, _, 0, h => h
  | _, _, n + 1, .nil => .nil
  | _, _, n + 1, .cons _ t => PV.drop n t
theorem sqt_K {K : PySem.W.Frag} {a : Addr} {d : Option Addr} {its : Array Value} {n : Nat} {sl : Array (Option Value)} {xs : List V} (l : K.lookup a = some ⟨.type "tuple", d, .seq its n, sl⟩) (hz : its.size ≤ sizeLine) (r : Vals xs its.toList) (H : Hp) : SqT K H a xs :=
  .inr ⟨_, its, n, l, rfl, rfl, hz, r⟩
/-- the written things of the program's first files -/
structure TxP (K : PySem.W.Frag) (mg : Str → Option Value) (aREST aWORTHS : Addr) (t4 t40 : Tok) : Prop where
  g_REST : mg "REST" = some (.ref aREST)
  REST : ∀ H, SqT K H aREST Deed.rs.vals
  g_WORTHS : mg "WORTHS" = some (.ref aWORTHS)
  WORTHS : ∀ H, SqT K H aWORTHS [.int 0, .int 1, .int 2]
  g_MOST_CELLS : mg "MOST_CELLS" = some (.int 4 t4)
  g_MOST_DEEDS : mg "MOST_DEEDS" = some (.int 40 t40)
theorem in_worths (i : Int) : inV (.int i) [.int 0, .int 1, .int 2] = decide (0 ≤ i ∧ i < 3) := by
  rw [Bool.eq_iff_iff]
  simp only [inV, eqV, List.any_cons, List.any_nil, Bool.or_false, Bool.or_eq_true, beq_iff_eq, decide_eq_true_eq]
  omega
theorem given_none (n : Nat) (v : Nat → V) : given n (fun _ => false) v = [] := by
  unfold given
  rw [List.filter_eq_nil_iff.mpr (fun _ _ => by decide)]
  rfl

/-! ### what is kept but at some places -/
def Bt (S : List Addr) (H H' : Hp) : Prop := ∀ b o, ¬ b ∈ S → H b = some o → H' b = some o
theorem Bt.refl {S : List Addr} (H : Hp) : Bt S H H := fun _ _ _ h => h
theorem Bt.trans {S : List Addr} {H H1 H2 : Hp} (a : Bt S H H1) (b : Bt S H1 H2) : Bt S H H2 := fun c o n h => b c o n (a c o n h)
theorem Bt.of_ex {S : List Addr} {H H' : Hp} (e : Ex H H') : Bt S H H' := fun c o _ h => e c o h
theorem Bt.ex {S : List Addr} {H H' : Hp} (a : Bt S H H') (h : ∀ b ∈ S, ∀ o, H b = some o → H' b = some o) : Ex H H' := fun c o q => by
  by_cases hc : c ∈ S
  · exact h c hc o q
  · exact a c o hc q
theorem Bt.mono {S T : List Addr} {H H' : Hp} (a : Bt S H H') (h : ∀ b ∈ S, b ∈ T) : Bt T H H' := fun c o n q => a c o (fun z => n (h c z)) q
theorem Bt.upd {S : List Addr} {H H' : Hp} {p : Addr} {o : HO} (a : Bt S H H') (hp : p ∈ S ∨ H p = none) : Bt S H (upd H' p o) := fun c u n q => by
  have hc : c ≠ p := by
    rintro rfl
    rcases hp with hp | hp
    · exact n hp
    · rw [hp] at q
      cases q
  rw [upd_ne hc]
  exact a c u n q
theorem Bt.free {S : List Addr} {H H' : Hp} {p : Addr} (a : Bt S H H') (hp : ¬ p ∈ S) (h : H' p = none) : H p = none := by
  cases q : H p with
  | none => rfl
  | some o =>
    rw [a p o hp q] at h
    cases h

/-! ### the draws: a list at h of a number, a list at l, a number -/
structure Draw (H : Hp) (h l : Addr) : Prop where
  st : ∃ (a p : Int) (ns : List Int), H h = some (.lst [.int a, .ref l, .int p]) ∧ H l = some (.lst (ns.map V.int)) ∧ ns.length ≤ 63
theorem Draw.ne {H : Hp} {h l : Addr} (D : Draw H h l) : h ≠ l := by
  obtain ⟨a, p, ns, h1, h2, _⟩ := D.st
  refine ne_of h1 h2 fun z => ?_
  injection z with z
  cases ns with
  | nil => cases z
  | cons n r =>
    cases r with
    | nil => cases z
    | cons m r =>
      injection z with _ z
      injection z with z _
      cases z
theorem Draw.mono {H H' : Hp} {h l : Addr} (e : Ex H H') (D : Draw H h l) : Draw H' h l := by
  obtain ⟨a, p, ns, h1, h2, h3⟩ := D.st
  exact ⟨a, p, ns, e _ _ h1, e _ _ h2, h3⟩
/-- a tuple stays through draws -/
theorem Draw.t {K : PySem.W.Frag} {H H' : Hp} {h l a : Addr} {xs : List V} (D : Draw H h l) (e : Bt [h, l] H H') (q : SqT K H a xs) : SqT K H' a xs := by
  obtain ⟨_, _, _, h1, h2, _⟩ := D.st
  rcases q with (q | ⟨o, q⟩) | q
  · refine .inl (.inl (e a _ ?_ q))
    simp only [List.mem_cons, List.not_mem_nil, or_false]
    rintro (rfl | rfl)
    · rw [h1] at q; cases q
    · rw [h2] at q; cases q
  · refine .inl (.inr ⟨o, e a _ ?_ q⟩)
    simp only [List.mem_cons, List.not_mem_nil, or_false]
    rintro (rfl | rfl)
    · rw [h1] at q; cases q
    · rw [h2] at q; cases q
  · exact .inr q
theorem Draw.dv {K : PySem.W.Frag} {H H' : Hp} {h l : Addr} {v : V} {d : Deed} (D : Draw H h l) (e : Bt [h, l] H H') (q : DV K H v d) : DV K H' v d := by
  obtain ⟨a, h1, h2⟩ := q
  exact ⟨a, h1, D.t e h2⟩
theorem pv_map {K : PySem.W.Frag} {H H' : Hp} {vs : List V} {ds : List Deed} (f : ∀ v d, DV K H v d → DV K H' v d) (q : PV K H vs ds) : PV K H' vs ds := L2.Paired.mapP q f
theorem Draw.pv {K : PySem.W.Frag} {H H' : Hp} {h l : Addr} {vs : List V} {ds : List Deed} (D : Draw H h l) (e : Bt [h, l] H H') (q : PV K H vs ds) : PV K H' vs ds := pv_map (fun _ _ => D.dv e) q
theorem PV.mono {K : PySem.W.Frag} {H H' : Hp} {vs : List V} {ds : List Deed} (e : Ex H H') (q : PV K H vs ds) : PV K H' vs ds := pv_map (fun _ _ => DV.mono e) q
theorem PV.length {K : PySem.W.Frag} {H : Hp} {vs : List V} {ds : List Deed} (q : PV K H vs ds) : vs.length = ds.length := Paired.length q
theorem PV.get {K : PySem.W.Frag} {H : Hp} : ∀ {vs : List V} {ds : List Deed} {i : Nat} {v : V}, PV K H vs ds → vs[i]? = some v → ∃ d, ds[i]? = some d ∧ DV K H v d
  | _, _, _, _, .nil, e => by simp at e
  | _, _, 0, _, .cons r _, e => by simp at e; subst e; exact ⟨_, rfl, r⟩
  | _, _, i + 1, x, .cons _ t, e => by
    obtain ⟨u, h1, h2⟩ := PV.get (i := i) (v := x) t (by simpa using e)
    exact ⟨u, by simpa using h1, h2⟩
theorem PV.snoc {K : PySem.W.Frag} {H : Hp} {v : V} {d : Deed} (r : DV K H v d) : ∀ {vs : List V} {ds : List Deed}, PV K H vs ds → PV K H (vs ++ [v]) (ds ++ [d])
  | _, _, .nil => .cons r .nil
  | _, _, .cons q t => .cons q (PV.snoc r t)
/-- a deed stays where a list is changed -/
theorem dv_but {K : PySem.W.Frag} {H H' : Hp} {p : Addr} {us : List V} {v : V} {d : Deed} (b : Bt [p] H H') (hp : H p = some (.lst us)) (q : DV K H v d) : DV K H' v d := by
  obtain ⟨a, h1, h2⟩ := q
  refine ⟨a, h1, ?_⟩
  have ne : ∀ o, H a = some o → (∀ xs, o ≠ .lst xs) → ¬ a ∈ [p] := by
    intro o ho no hm
    rw [List.mem_singleton.mp hm, hp] at ho
    exact no us (Option.some.inj ho).symm
  rcases h2 with (h2 | ⟨o, h2⟩) | h2
  · exact .inl (.inl (b a _ (ne _ h2 (fun _ z => by cases z)) h2))
  · exact .inl (.inr ⟨o, b a _ (ne _ h2 (fun _ z => by cases z)) h2⟩)
  · exact .inr h2
/-- a worth -/
def wV (n : Nat) : V := .int (n : Int)
/-- what a drawer promises of the heap -/
structure Drew (H H' : Hp) (h l : Addr) : Prop where
  dr : Draw H' h l
  bt : Bt [h, l] H H'
theorem Drew.refl {H : Hp} {h l : Addr} (D : Draw H h l) : Drew H H h l := ⟨D, Bt.refl H⟩
theorem Drew.trans {H H1 H2 : Hp} {h l : Addr} (a : Drew H H1 h l) (b : Drew H1 H2 h l) : Drew H H2 h l := ⟨b.dr, a.bt.trans b.bt⟩
theorem Drew.of_ex {H H1 H2 : Hp} {h l : Addr} (a : Drew H H1 h l) (e : Ex H1 H2) : Drew H H2 h l := ⟨a.dr.mono e, a.bt.trans (Bt.of_ex e)⟩
theorem Drew.new {H H1 : Hp} {h l p : Addr} {o : HO} (a : Drew H H1 h l) (hp : H1 p = none) : Drew H (upd H1 p o) h l := a.of_ex (Ex.new hp)

/-! ### a def with a default -/
structure HasD (K : PySem.W.Frag) (mg : Str → Option Value) (x : Str) (st : Stmt) (dvs : List V) : Prop where
  ex : ∃ f fd, FunD K x x (defArgs st) (defBody st) (defScope st) dvs [] f fd ∧ mg x = some (.ref f)
/-- called so that these fill up its last parameters -/
structure Dq (P : Program) (w : World) (K : PySem.W.Frag) (mg : Str → Option Value) (base : Heap) (CX : CXT) (x : Str) (ps : List Str) (dvs : List V) (k : Nat) (sp : Sp) : Prop where
  ex : ∃ f fd ds, FnOk P w K mg base CX k f fd ps sp ∧ mg x = some (.ref f) ∧ PySem.W.keepIn K (.ref f) = true ∧ Binds K fd ps ds ∧ Vals dvs ds
section
variable {P : Program} {w : World} {K : PySem.W.Frag} {mg : Str → Option Value} {base : Heap} {x : Str} {st : Stmt} {dvs : List V}
theorem FunD.ok0 {qual : Str} {f : Addr} {fd : FuncData} {N ps : List Str} {k : Nat} {sp : Sp} (F : FunD K x qual (defArgs st) (defBody st) (defScope st) dvs [] f fd) (S : FnScope N ps (defScope st)) (len : ∀ vs H Q E, sp vs H Q E → vs.length = ps.length)
    (hbody : ∀ (cdv : Value) (A : Around) (outer : List Env) (s : Shared) (H : Hp) (vs : List V) (Q : VK) (E : XK), Room k (A.deeper (PyProof.Rows.envOfC qual (defScope st) s.heap.objs.size f cdv)) → sp vs H Q E →
      ∃ t, PSs (cxOf CX0 P w K mg base N qual (defScope st) f cdv A outer s H E).nox (defBody st) t ∧ t { nx := fun _ H' => Q .non H', rt := Q } (start N vs) H) : FnOk P w K mg base CX0 (k + 1) f fd ps sp :=
  F.ok S len fun cdv A outer s H vs Q E hr hsp => by
    obtain ⟨t, h, q⟩ := hbody cdv A outer s H vs Q E hr hsp
    exact ⟨t, h.nox, q⟩
theorem dq_of {CX : CXT} {ps : List Str} {k : Nat} {sp : Sp} (n j : Nat) (h : HasD K mg x st dvs) (hd : dvs ≠ []) (hn : n + (dvs.length - j) = ps.length)
    (hb : ∀ (T : Addr) (kV doc pm : Value) (an : Option Addr) (cdv ct : Value) (us its : List Value), us.length = n → its.length = dvs.length →
      ∃ k, bindArgs (PySem.W.fnOf x x (defArgs st) (defBody st) (defScope st) (.ref T) kV doc pm an cdv ct) ⟨us, []⟩ = seqItems? (.ref T) >>= k ∧ k (some its.toArray) = pure (ps.zip (us ++ its.drop j)))
    (hf : ∀ f fd, FunD K x x (defArgs st) (defBody st) (defScope st) dvs [] f fd → FnOk P w K mg base CX k f fd ps sp) : Dq P w K mg base CX x ps (dvs.drop j) k sp := by
  obtain ⟨f, fd, F, hm⟩ := h.ex
  obtain ⟨ds, r, b⟩ := F.binds1 n j hd hn hb
  exact ⟨f, fd, ds, hf f fd F, hm, F.kp, b, r⟩
theorem hasD_mk {h : Heap} {f T : Addr} {oc cT : Value} {od an dT : Option Addr} {osl slT : Array (Option Value)} {kV doc pm cdv ct : Value} {i : Int} {tk : Tok} {n : Nat} (X : K.In h) (G : h.Ns mainGlobals mg)
    (a : PySem.W.nsIn K mainGlobals x = some (some (.ref f)))
    (l : K.lookup f = some ⟨oc, od, .func (PySem.W.fnOf x x (defArgs st) (defBody st) (defScope st) (.ref T) kV doc pm an cdv ct), osl⟩)
    (c : PySem.W.codeIn K cdv x = true) (k : PySem.W.keepIn K (.ref f) = true) (lT : K.lookup T = some ⟨cT, dT, .seq #[.int i tk] n, slT⟩) : HasD K mg x st [.int i] :=
  ⟨f, _, ⟨⟨oc, od, .ref T, kV, doc, pm, an, cdv, ct, osl, rfl, l, c, .inr ⟨by simp, T, _, [.int i tk], n, rfl, lT, rfl, .cons ⟨_, rfl⟩ .nil⟩, .inl rfl⟩, k⟩, PySem.W.mg_of X G a⟩
end
section
variable {X : Cx}
theorem pe_dq {CX : CXT} {x : Str} {ps : List Str} {dvs : List V} {k j : Nat} {sp : Sp} {E : XK} {e : Expr} {es : List Expr} {t : TA} {p pos : Pos} (h : Dq X.prog X.w X.K X.mg X.base CX x ps dvs k sp) (hr : Room j X.A) (hk : k ≤ j) (hx : Passes CX X E)
    (ha : PA X (e :: es) t) (hg : Gl X x := by rfl) (hdb : (x == ("__debug__" : Str)) = false := by decide) (he : starEach (e :: es) X.env = (false, eval e X.env) :: starEach es X.env := by rfl)
    (hpl : (backTo pos (starEach es X.env)).any (·.1) = false := by rfl) : PE X (.Call (.Name x p) (e :: es) [] pos) (tCall sp dvs E t) := by
  obtain ⟨f, fd, ds, F, hm, kp, b, r⟩ := h.ex
  exact pe_call F (hr.mono hk) hg hm kp b r hx ha hdb he hpl
end
end Db

namespace Db
open PySem L2 Evl
/-! ### the five rules, beat by beat -/
inductive Rule where
  | old | new | left | right | wait
  deriving DecidableEq
def Rule.name : Rule → Str
  | .old => "old" | .new => "new" | .left => "left" | .right => "right" | .wait => "wait"
def rdl (ws : List Nat) : Deed → List Nat
  | .rd c => [ws.getD c 0]
  | _ => []
def wrl (ws : List Nat) : Deed → List Nat
  | .wr c x => ws.set c x
  | _ => ws
theorem wrl_length (ws : List Nat) (d : Deed) : (wrl ws d).length = ws.length := by
  cases d <;> simp [wrl]
theorem rdl_length (ws : List Nat) (d : Deed) : (rdl ws d).length ≤ 1 := by
  cases d <;> simp [rdl]
theorem wrl_small {ws : List Nat} {d : Deed} {n : Nat} (h : ∀ x ∈ ws, x < 3) (hd : d.ok n) : ∀ x ∈ wrl ws d, x < 3 := by
  intro x hx
  cases d with
  | rd c => exact h x hx
  | rs => exact h x hx
  | wr c y =>
    rcases List.mem_or_eq_of_mem_set hx with hx | rfl
    · exact h x hx
    · exact hd.2
/-- what is told of a beat: the worths behind it, what is read at each door -/
def beat : Rule → List Nat → Deed → Deed → List Nat × List Nat × List Nat
  | .old, ws, d, e => (wrl (wrl ws e) d, rdl ws d, rdl ws e)
  | .new, ws, d, e => (wrl (wrl ws e) d, rdl (wrl (wrl ws e) d) d, rdl (wrl (wrl ws e) d) e)
  | .right, ws, d, e => (wrl (wrl ws e) d, rdl (wrl ws e) d, rdl ws e)
  | _, ws, d, e => (wrl (wrl ws d) e, rdl ws d, rdl (wrl ws d) e)
theorem beat_length (r : Rule) (ws : List Nat) (d e : Deed) : (beat r ws d e).1.length = ws.length := by
  cases r <;> simp [beat, wrl_length]
theorem beat_seen (r : Rule) (ws : List Nat) (d e : Deed) : (beat r ws d e).2.1.length ≤ 1 := by
  cases r <;> exact rdl_length _ _
theorem beat_others (r : Rule) (ws : List Nat) (d e : Deed) : (beat r ws d e).2.2.length ≤ 1 := by
  cases r <;> exact rdl_length _ _
theorem beat_small {r : Rule} {ws : List Nat} {d e : Deed} {n : Nat} (h : ∀ x ∈ ws, x < 3) (hd : d.ok n) (he : e.ok n) : ∀ x ∈ (beat r ws d e).1, x < 3 := by
  cases r
  case old => exact wrl_small (wrl_small h he) hd
  case new => exact wrl_small (wrl_small h he) hd
  case left => exact wrl_small (wrl_small h hd) he
  case right => exact wrl_small (wrl_small h he) hd
  case wait => exact wrl_small (wrl_small h hd) he
structure Sts where
  ws : List Nat
  l : List Deed
  r : List Deed
  ss : List Nat
  os : List Nat
  n : Nat
def Sts.done (S : Sts) : Prop := S.l = [] ∧ S.r = []
instance (S : Sts) : Decidable S.done := inferInstanceAs (Decidable (_ ∧ _))
/-- whether the right door waits -/
def waits (r : Rule) (S : Sts) : Bool := decide (r = .wait) && clashD (S.l.headD .rs) (S.r.headD .rs)
def after (S : Sts) (b : List Nat × List Nat × List Nat) (w : Bool) : Sts := { ws := b.1, l := S.l.tail, r := if w then S.r else S.r.tail, ss := S.ss ++ b.2.1, os := S.os ++ b.2.2, n := S.n + 1 }
def one (r : Rule) (S : Sts) : Sts := if waits r S = true then after S (beat .left S.ws (S.l.headD .rs) .rs) true else after S (beat r S.ws (S.l.headD .rs) (S.r.headD .rs)) false
def stepS (r : Rule) (S : Sts) : Sts := if S.done then S else one r S
def Sts.meas (S : Sts) : Nat := S.l.length + S.r.length
theorem waits_l {r : Rule} {S : Sts} (h : waits r S = true) : S.l ≠ [] := by
  intro z
  unfold waits at h
  rw [z] at h
  have e : clashD (([] : List Deed).headD .rs) (S.r.headD .rs) = false := rfl
  rw [e, Bool.and_false] at h
  cases h
theorem one_less {r : Rule} {S : Sts} (h : ¬ S.done) : (one r S).meas < S.meas := by
  unfold one
  by_cases hw : waits r S = true
  · rw [if_pos hw]
    have hl := waits_l hw
    unfold Sts.meas after
    cases hS : S.l with
    | nil => exact absurd hS hl
    | cons d t => simp
  · rw [if_neg hw]
    unfold Sts.meas after
    cases hl : S.l with
    | nil =>
      cases hr : S.r with
      | nil => exact absurd ⟨hl, hr⟩ h
      | cons e t => simp
    | cons d t =>
      cases hr : S.r with
      | nil => simp
      | cons e u => simp; omega
theorem stepS_of {r : Rule} {S : Sts} (h : ¬ S.done) : stepS r S = one r S := if_neg h
theorem stepS_done {r : Rule} {S : Sts} (h : S.done) : stepS r S = S := if_pos h
def runF (r : Rule) : Nat → Sts → Sts
  | 0, S => S
  | n + 1, S => runF r n (stepS r S)
theorem runF_done {r : Rule} {S : Sts} (h : S.done) : ∀ n, runF r n S = S
  | 0 => rfl
  | n + 1 => by
    rw [runF, stepS_done h]
    exact runF_done h n
theorem runF_more {r : Rule} : ∀ (n : Nat) (S : Sts), S.meas ≤ n → runF r n S = runF r S.meas S
  | 0, S, h => by rw [show S.meas = 0 by omega]
  | n + 1, S, h => by
    by_cases hd : S.done
    · rw [runF_done hd, runF_done hd]
    · have hl := one_less (r := r) hd
      obtain ⟨m, hm⟩ : ∃ m, S.meas = m + 1 := ⟨S.meas - 1, by omega⟩
      rw [hm, runF, runF, stepS_of hd, runF_more n _ (by omega)]
      by_cases e : m = n
      · rw [e, runF_more n _ (by omega)]
      · exact (runF_more m _ (by omega)).symm
  termination_by n => n
/-- what stands when all is done -/
def out (r : Rule) (S : Sts) : Sts := runF r S.meas S
theorem out_done {r : Rule} {S : Sts} (h : S.done) : out r S = S := runF_done h _
theorem out_one {r : Rule} {S : Sts} (h : ¬ S.done) : out r (one r S) = out r S := by
  unfold out
  have hl := one_less (r := r) h
  obtain ⟨m, hm⟩ : ∃ m, S.meas = m + 1 := ⟨S.meas - 1, by omega⟩
  rw [hm, runF, stepS_of h, runF_more m _ (by omega)]
def begin0 (ws : List Nat) (l r : List Deed) : Sts := ⟨ws, l, r, [], [], 0⟩
/-- what stays of a state through all beats: sizes, worths, deeds -/
structure Fit (c : Nat) (m : Nat) (S : Sts) : Prop where
  len : S.ws.length = c
  small : ∀ x ∈ S.ws, x < 3
  okl : ∀ d ∈ S.l, d.ok c
  okr : ∀ d ∈ S.r, d.ok c
  ss : S.ss.length + S.meas ≤ m
  os : S.os.length + S.meas ≤ m
  n : S.n + S.meas ≤ m
theorem ok_headD {c : Nat} {l : List Deed} (h : ∀ d ∈ l, d.ok c) : (l.headD .rs).ok c := by
  cases l with
  | nil => exact True.intro
  | cons d t => exact h d List.mem_cons_self
theorem mem_tail {l : List Deed} {d : Deed} (h : d ∈ l.tail) : d ∈ l := by
  cases l with
  | nil => exact h
  | cons e t => exact List.mem_cons_of_mem _ h
theorem Fit.one {c m : Nat} {S : Sts} {r : Rule} (F : Fit c m S) (h : ¬ S.done) : Fit c m (one r S) := by
  have hl := one_less (r := r) h
  have h1 := ok_headD F.okl
  have h2 := ok_headD F.okr
  by_cases hw : waits r S = true
  · have e : Db.one r S = after S (beat .left S.ws (S.l.headD .rs) .rs) true := if_pos hw
    rw [e] at hl ⊢
    have a1 := beat_seen .left S.ws (S.l.headD .rs) .rs
    have a2 := beat_others .left S.ws (S.l.headD .rs) .rs
    refine ⟨(beat_length _ _ _ _).trans F.len, beat_small F.small h1 (e := .rs) (n := c) True.intro, fun d hd => F.okl d (mem_tail hd), fun d hd => F.okr d hd, ?_, ?_, ?_⟩
    · have := F.ss
      show (S.ss ++ _).length + _ ≤ m
      rw [List.length_append]; omega
    · have := F.os
      show (S.os ++ _).length + _ ≤ m
      rw [List.length_append]; omega
    · have := F.n
      show S.n + 1 + _ ≤ m
      omega
  · have e : Db.one r S = after S (beat r S.ws (S.l.headD .rs) (S.r.headD .rs)) false := if_neg hw
    rw [e] at hl ⊢
    have a1 := beat_seen r S.ws (S.l.headD .rs) (S.r.headD .rs)
    have a2 := beat_others r S.ws (S.l.headD .rs) (S.r.headD .rs)
    refine ⟨(beat_length _ _ _ _).trans F.len, beat_small F.small h1 h2, fun d hd => F.okl d (mem_tail hd), fun d hd => F.okr d (mem_tail hd), ?_, ?_, ?_⟩
    · have := F.ss
      show (S.ss ++ _).length + _ ≤ m
      rw [List.length_append]; omega
    · have := F.os
      show (S.os ++ _).length + _ ≤ m
      rw [List.length_append]; omega
    · have := F.n
      show S.n + 1 + _ ≤ m
      omega
theorem Fit.begin0 {c : Nat} {ws : List Nat} {l r : List Deed} (h1 : ws.length = c) (h2 : ∀ x ∈ ws, x < 3) (h3 : ∀ d ∈ l, d.ok c) (h4 : ∀ d ∈ r, d.ok c) : Fit c (l.length + r.length) (begin0 ws l r) :=
  ⟨h1, h2, h3, h4, by show 0 + _ ≤ _; unfold Sts.meas; simp [Db.begin0], by show 0 + _ ≤ _; unfold Sts.meas; simp [Db.begin0], by show 0 + _ ≤ _; unfold Sts.meas; simp [Db.begin0]⟩
theorem fit_runF {c m : Nat} {r : Rule} : ∀ (n : Nat) (S : Sts), Fit c m S → Fit c m (runF r n S)
  | 0, _, F => F
  | n + 1, S, F => by
    rw [runF]
    refine fit_runF n _ ?_
    by_cases h : S.done
    · rw [stepS_done h]; exact F
    · rw [stepS_of h]; exact F.one h
theorem fit_out {c m : Nat} {r : Rule} {S : Sts} (F : Fit c m S) : Fit c m (out r S) := fit_runF _ _ F

/-! ### deeds through changes of lists -/
theorem t_but {K : PySem.W.Frag} {H H' : Hp} {S : List Addr} {a : Addr} {xs : List V} (b : Bt S H H') (hp : ∀ p ∈ S, ∃ us, H p = some (.lst us)) (q : SqT K H a xs) : SqT K H' a xs := by
  have ne : ∀ o, H a = some o → (∀ xs, o ≠ .lst xs) → ¬ a ∈ S := by
    intro o ho no hm
    obtain ⟨us, h⟩ := hp a hm
    rw [h] at ho
    exact no us (Option.some.inj ho).symm
  rcases q with (h2 | ⟨o, h2⟩) | h2
  · exact .inl (.inl (b a _ (ne _ h2 (fun _ z => by cases z)) h2))
  · exact .inl (.inr ⟨o, b a _ (ne _ h2 (fun _ z => by cases z)) h2⟩)
  · exact .inr h2
theorem dv_buts {K : PySem.W.Frag} {H H' : Hp} {S : List Addr} {v : V} {d : Deed} (b : Bt S H H') (hp : ∀ p ∈ S, ∃ us, H p = some (.lst us)) (q : DV K H v d) : DV K H' v d := by
  obtain ⟨a, h1, h2⟩ := q
  exact ⟨a, h1, t_but b hp h2⟩
theorem pv_buts {K : PySem.W.Frag} {H H' : Hp} {S : List Addr} {vs : List V} {ds : List Deed} (b : Bt S H H') (hp : ∀ p ∈ S, ∃ us, H p = some (.lst us)) (q : PV K H vs ds) : PV K H' vs ds := pv_map (fun _ _ => dv_buts b hp) q
theorem Bt.set {S : List Addr} {H H' : Hp} {p : Addr} {o : HO} (a : Bt S H H') (hp : p ∈ S) : Bt S H (L2.upd H' p o) := a.upd (.inl hp)
/-- a name is set: on with what follows -/
theorem gn {i : Nat} {v : V} {σ : L2.St} {H : Hp} {Q : L2.St → Hp → Prop} (h : Q (σ.set i (some v)) H) : gName i v σ H Q := h
theorem headD_drop : ∀ (ds : List Deed) (i : Nat), (ds.drop i).headD .rs = ds.getD i .rs
  | [], i => by simp
  | d :: r, 0 => rfl
  | d :: r, i + 1 => by
    have h := headD_drop r i
    simpa using h
theorem Dn.up {P : Program} {w : World} {K : PySem.W.Frag} {mg : Str → Option Value} {base : Heap} {CX : CXT} {x : Str} {ps : List Str} {j k : Nat} {sp : Sp} (h : Dn P w K mg base CX x ps j sp) (hk : j ≤ k) : Dn P w K mg base CX x ps k sp := by
  obtain ⟨f, fd, F, a, b, c⟩ := h.ex
  exact ⟨f, fd, F.mono hk, a, b, c⟩
/-- an extension of what stood ahead, if the places were new -/
theorem Bt.ex_back {S : List Addr} {H H1 H2 : Hp} (b : Bt S H H1) (f : Ex H1 H2) (h : ∀ p ∈ S, H p = none) : Ex H H2 := fun a o q => by
  refine f _ _ (b a o (fun hm => ?_) q)
  rw [h a hm] at q
  cases q
def ruleNames : List V := [.str "old", .str "new", .str "left", .str "right", .str "wait"]
/-! ### more of evaluation -/
section
variable {K : PySem.W.Frag} {σ : L2.St} {H : Hp} {ta tb te : TE} {t : TT} {D : Ends}
theorem el_if {b : Bool} {xs : List V} (h : EvT t σ H b) (h1 : b = true → EvL ta σ H xs) (h2 : b = false → EvL tb σ H xs) : EvL (tIf t ta tb) σ H xs := fun H1 e Q q => h H1 e _ fun H2 e2 => by
  cases b with
  | true =>
    show ta σ H2 Q
    exact h1 rfl H2 (e.trans e2) Q fun p H3 hp e3 h3 => q p H3 (fresh_back e2 hp) (e2.trans e3) h3
  | false =>
    show tb σ H2 Q
    exact h2 rfl H2 (e.trans e2) Q fun p H3 hp e3 h3 => q p H3 (fresh_back e2 hp) (e2.trans e3) h3
theorem el_cat {a b : Addr} {xs ys : List V} (ha : Ev ta σ H (.ref a)) (hb : Ev tb σ H (.ref b)) (h1 : H a = some (.lst xs)) (h2 : H b = some (.lst ys)) (hz : xs.length + ys.length ≤ 100000) : EvL (tOp rCat ta tb) σ H (xs ++ ys) := fun H1 e Q q =>
  ha H1 e _ fun H2 e2 => hb H2 (e.trans e2) _ fun H3 e3 => ⟨a, b, xs, ys, rfl, rfl, ((e.trans e2).trans e3) _ _ h1, ((e.trans e2).trans e3) _ _ h2, sz_of hz, fun p hp => q p _ (fresh_back (e2.trans e3) hp) ((e2.trans e3).trans (Ex.new hp)) upd_same⟩
theorem el_listA {p : Addr} {xs : List V} (ha : Ev ta σ H (.ref p)) (h : SqA K H p xs) : EvL (tCB (rListS K) (tCons ta tNil)) σ H xs := fun H1 e Q q =>
  ha H1 e _ fun H2 e2 => ⟨p, xs, rfl, ex_a (e.trans e2) h, fun l hl => q l _ (fresh_back e2 hl) (e2.trans (Ex.new hl)) upd_same⟩
/-- if the deed in a slot is a write, it is done at the list in another -/
theorem wr_body {i j : Nat} {p : Addr} {x : V} {dd : Deed} {u : List Nat} (hx : σ[i]? = some (some x)) (hp : σ[j]? = some (some (.ref p))) (dv : DV K H x dd) (h : H p = some (.lst (u.map wV))) (ho : dd.ok u.length)
    (k : ∀ H', Bt [p] H H' → H' p = some (.lst ((wrl u dd).map wV)) → D.nx σ H') :
    tIfS (tTest (tOp rEq (tOp (rIxT K) (tVar i) (tC (.int 0))) (tC (.str "write")))) (tAsg (tOp (rIxT K) (tVar i) (tC (.int 2))) (gSub (tVar j) (tOp (rIxT K) (tVar i) (tC (.int 1))) rSetL)) tNext D σ H := by
  obtain ⟨a, rfl, h1⟩ := dv
  refine s_when (b := decide (V.str dd.tag = V.str "write")) (et_test (ev_op (ev_op (ev_var hx) ev_c (DV.tag h1)) ev_c (rv_eq rfl))) (fun hb H1 f1 => ?_) (fun hb H1 f1 => ?_)
  · cases dd with
    | rd c => exact absurd hb (by show ¬ decide (V.str "read" = V.str "write") = true; decide +kernel)
    | rs => exact absurd hb (by show ¬ decide (V.str "rest" = V.str "write") = true; decide +kernel)
    | wr c y =>
      have g1 := ex_t f1 h1
      obtain ⟨hc, hy⟩ : c < u.length ∧ y < 3 := ho
      refine s_setL (l := p) (v := wV y) (j := c) (f1 _ _ h) (ev_op (ev_var hx) ev_c (rv_ixT g1 rfl)) (ev_var hp) (ev_op (ev_var hx) ev_c (rv_ixT g1 rfl)) (by rw [List.length_map]; exact hc) fun H2 f2 => ?_
      refine k _ ((Bt.of_ex (f1.trans f2)).upd (.inl (by simp))) ?_
      rw [upd_same, wrl, List.map_set]
  · refine k _ (Bt.of_ex f1) ?_
    cases dd with
    | wr c y => exact absurd hb (by show ¬ decide (V.str "write" = V.str "write") = false; decide +kernel)
    | rd c => exact f1 _ _ h
    | rs => exact f1 _ _ h
end
section
variable {K : PySem.W.Frag} {σ : L2.St} {H : Hp} {ta tb te : TE} {t : TT} {D : Ends} {tz : TS}
/-- xs.extend(ys), two lists -/
theorem s_ext {l b : Addr} {xs zs : List V} (hl : H l = some (.lst xs)) (hb : H b = some (.lst zs)) (ha : Ev ta σ H (.ref l)) (h : Ev te σ H (.ref b)) (hz : xs.length + zs.length ≤ 100000) (k : ∀ H1, Ex H H1 → D.nx σ (upd H1 l (.lst (xs ++ zs)))) :
    tDrop (tBM K "list" rExtend ta (tCons te tNil)) D σ H := ha H (Ex.refl H) _ fun H1 e1 =>
  ⟨Or.inl ⟨rfl, xs, sq_of (e1 l _ hl)⟩, h H1 e1 _ fun H2 e2 => ⟨l, b, xs, zs, rfl, rfl, e2 l _ (e1 l _ hl), e2 b _ (e1 b _ hb), sz_of hz, k H2 (e1.trans e2)⟩⟩
theorem q_ext {l b : Addr} {xs zs : List V} (hl : H l = some (.lst xs)) (hb : H b = some (.lst zs)) (ha : Ev ta σ H (.ref l)) (h : Ev te σ H (.ref b)) (hz : xs.length + zs.length ≤ 100000) (k : ∀ H1, Ex H H1 → tz D σ (upd H1 l (.lst (xs ++ zs)))) :
    tSeq (tDrop (tBM K "list" rExtend ta (tCons te tNil))) tz D σ H := s_ext (D := { D with nx := tz D }) hl hb ha h hz k
/-- xs.clear() -/
theorem s_clear {l : Addr} {xs : List V} (hl : H l = some (.lst xs)) (ha : Ev ta σ H (.ref l)) (k : ∀ H1, Ex H H1 → D.nx σ (upd H1 l (.lst []))) : tDrop (tBM0 K "list" rClear ta) D σ H := ha H (Ex.refl H) _ fun H1 e1 =>
  ⟨Or.inl ⟨rfl, xs, sq_of (e1 l _ hl)⟩, ⟨l, xs, rfl, rfl, e1 l _ hl, k H1 e1⟩⟩
end
theorem PV.append {K : PySem.W.Frag} {H : Hp} : ∀ {us vs : List V} {ds es : List Deed}, PV K H us ds → PV K H vs es → PV K H (us ++ vs) (ds ++ es)
  | _, _, _, _, .nil, h => h
  | _, _, _, _, .cons a t, h => .cons a (PV.append t h)
theorem sh_deeds (ds : List Deed) : Sh 2 (.list (ds.map fun d => .tuple d.dat)) := sh_lst fun x hx => by
  obtain ⟨d, _, rfl⟩ := List.mem_map.mp hx
  exact d.sh
theorem sh_two (ds es : List Deed) : Sh 3 (.tuple [.list (ds.map fun d => .tuple d.dat), .list (es.map fun d => .tuple d.dat)]) := sh_tup fun x hx => by
  simp only [List.mem_cons, List.not_mem_nil, or_false] at hx
  rcases hx with rfl | rfl
  · exact sh_deeds _
  · exact sh_deeds _
theorem PV.dp {K : PySem.W.Frag} {H : Hp} {p : Addr} {us : List V} {ds : List Deed} (h : SqL K H p us) (q : PV K H us ds) : Dp K H (.ref p) (.list (ds.map fun d => .tuple d.dat)) := .lst h (dpa_of q)
theorem eqv_deeds_nil (ds : List Deed) : PyData.eqv (.list (ds.map fun d => .tuple d.dat)) (.list []) = decide (ds = []) := by
  cases ds with
  | nil => simp [PyData.eqv, PyData.eqvAll]
  | cons d r => simp [PyData.eqv, PyData.eqvAll]
theorem getD_zero (ds : List Deed) : ds.getD 0 .rs = ds.headD .rs := by cases ds <;> rfl
/-- the rule that a beat is done by -/
def rule2 (r : Rule) : Rule := if r = .wait then .left else r
theorem rule2_ne (r : Rule) : rule2 r ≠ .wait := by cases r <;> decide
theorem one_eq (r : Rule) (S : Sts) : one r S = after S (beat (rule2 r) S.ws (S.l.headD .rs) (if waits r S = true then .rs else S.r.headD .rs)) (waits r S) := by
  unfold one
  by_cases h : waits r S = true
  · have hr : r = .wait := by
      unfold waits at h
      rw [Bool.and_eq_true] at h
      exact of_decide_eq_true h.1
    rw [if_pos h, if_pos h, h, hr]
    rfl
  · have h2 : waits r S = false := by
      cases q : waits r S with
      | true => exact absurd q h
      | false => rfl
    rw [if_neg h, if_neg h, h2]
    cases r <;> rfl
theorem Draw.out {H : Hp} {h l p : Addr} (D : Draw H h l) (hp : H p = none) : ¬ p ∈ [h, l] := by
  obtain ⟨_, _, _, q1, q2, _⟩ := D.st
  simp only [List.mem_cons, List.not_mem_nil, or_false]
  rintro (rfl | rfl)
  · rw [hp] at q1; cases q1
  · rw [hp] at q2; cases q2
theorem rule_at {i : Nat} {x : V} (h : ruleNames[i]? = some x) : ∃ r : Rule, x = .str r.name := by
  match i, h with
  | 0, h => exact ⟨.old, (Option.some.inj h).symm⟩
  | 1, h => exact ⟨.new, (Option.some.inj h).symm⟩
  | 2, h => exact ⟨.left, (Option.some.inj h).symm⟩
  | 3, h => exact ⟨.right, (Option.some.inj h).symm⟩
  | 4, h => exact ⟨.wait, (Option.some.inj h).symm⟩
  | i + 5, h => simp [ruleNames] at h
/-- worths as data -/
def wD (ws : List Nat) : List PyData := ws.map fun (n : Nat) => PyData.int (n : Int)
theorem dpa_w {K : PySem.W.Frag} {H : Hp} : ∀ ws : List Nat, DpAll K H (ws.map wV) (wD ws)
  | [] => .nil
  | n :: r => .cons (.int (n : Int)) (dpa_w r)
theorem nice_w {ws : List Nat} {n : Nat} (h : ws.length ≤ 1000) : Nice (n + 1) (.list (wD ws)) := .lst (by unfold wD; rw [List.length_map]; exact h) fun d hd => by
  obtain ⟨x, _, rfl⟩ := List.mem_map.mp hd
  exact .int _
theorem nice_wT {ws : List Nat} {n : Nat} (h : ws.length ≤ 1000) : Nice (n + 1) (.tuple (wD ws)) := .tup (by unfold wD; rw [List.length_map]; exact h) fun d hd => by
  obtain ⟨x, _, rfl⟩ := List.mem_map.mp hd
  exact .int _
theorem rdl_wrl (u : List Nat) (d : Deed) : rdl (wrl u d) d = rdl u d := by cases d <;> rfl
def looksK (a b c d : V) : List (Key × V) := [(.inr "old", a), (.inr "new", b), (.inr "left", c), (.inr "right", d)]
def lookOf (r : Rule) (a b c d : V) : V := match r with
  | .old => a | .new => b | .left => c | .right => d | .wait => c
theorem looks_at (r : Rule) (hr : r ≠ .wait) (a b c d : V) : valV (mergeK [] (looksK a b c d)) (.inr r.name) = some (lookOf r a b c d) := by
  cases r with
  | old => rfl
  | new => rfl
  | left => rfl
  | right => rfl
  | wait => exact absurd rfl hr
/-- the written things of the rules' file: the text of the rules, their defs -/
def Rule.step : Rule → Str
  | .old => "step_old" | .new => "step_new" | .left => "step_left" | .right => "step_right" | .wait => "step_left"
theorem in_rules (r : Rule) : inV (.str r.name) ruleNames = true := by cases r <;> decide +kernel
structure TxR (K : PySem.W.Frag) (mg : Str → Option Value) (w : World) (aRULES aSTEPS : Addr) : Prop where
  g_RULES : mg "RULES" = some (.ref aRULES)
  RULES : ∀ H, SqT K H aRULES ruleNames
  g_STEPS : mg "STEPS" = some (.ref aSTEPS)
  STEPS : ∀ r : Rule, ∃ f, mg r.step = some (.ref f) ∧ KDct K w aSTEPS r.name (.ref f)
/-- the beats in which two programs clash -/
def clashesD (ds es : List Deed) : List Nat := (List.range (min ds.length es.length)).filter fun i => clashD (ds.getD i .rs) (es.getD i .rs)
theorem clashD_comm (d e : Deed) : clashD d e = clashD e d := by
  unfold clashD
  cases d.cell with
  | none => cases e.cell <;> rfl
  | some a =>
    cases e.cell with
    | none => rfl
    | some b =>
      show (decide (a = b) && (d.isW || e.isW)) = (decide (b = a) && (e.isW || d.isW))
      rw [Bool.or_comm, show decide (a = b) = decide (b = a) from decide_eq_decide.mpr eq_comm]
theorem clashesD_comm (ds es : List Deed) : clashesD ds es = clashesD es ds := by
  unfold clashesD
  rw [Nat.min_comm]
  congr 1
  funext i
  exact clashD_comm _ _
/-- those ahead of a beat -/
def clashesTo (ds es : List Deed) (n : Nat) : List Nat := (List.range n).filter fun i => clashD (ds.getD i .rs) (es.getD i .rs)
theorem clashesTo_succ (ds es : List Deed) (n : Nat) : clashesTo ds es (n + 1) = if clashD (ds.getD n .rs) (es.getD n .rs) = true then clashesTo ds es n ++ [n] else clashesTo ds es n := by
  unfold clashesTo
  rw [List.range_succ, List.filter_append, List.filter_cons, List.filter_nil]
  split
  · rfl
  · rw [List.append_nil]
theorem clashesTo_length (ds es : List Deed) (n : Nat) : (clashesTo ds es n).length ≤ n := by
  have h := List.length_filter_le (fun i => clashD (ds.getD i .rs) (es.getD i .rs)) (List.range n)
  rw [List.length_range] at h
  exact h
theorem rc_min {H : Hp} {i j : Int} : RC (fun xs H Q => ∃ i j, xs = [V.int i, V.int j] ∧ Q (.int (if j < i then j else i)) H) [.int i, .int j] H (.int (if j < i then j else i)) := fun H1 _ _ q => ⟨i, j, rfl, q H1 (Ex.refl H1)⟩
/-! ### what the top has written -/
theorem txp_mk {K : PySem.W.Frag} {h : Heap} {mg : Str → Option Value} {aR aW : Addr} {t4 t40 t1 u0 u1 u2 : Tok} {d1 d2 : Option Addr} {n1 n2 : Nat} {sl1 sl2 : Array (Option Value)} (X : K.In h) (G : h.Ns mainGlobals mg)
    (a1 : PySem.W.nsIn K mainGlobals "REST" = some (some (.ref aR))) (l1 : K.lookup aR = some ⟨.type "tuple", d1, .seq #[.str "rest" t1] n1, sl1⟩)
    (a2 : PySem.W.nsIn K mainGlobals "WORTHS" = some (some (.ref aW))) (l2 : K.lookup aW = some ⟨.type "tuple", d2, .seq #[.int 0 u0, .int 1 u1, .int 2 u2] n2, sl2⟩)
    (c4 : PySem.W.nsIn K mainGlobals "MOST_CELLS" = some (some (.int 4 t4))) (c40 : PySem.W.nsIn K mainGlobals "MOST_DEEDS" = some (some (.int 40 t40))) : TxP K mg aR aW t4 t40 :=
  ⟨PySem.W.mg_of X G a1, sqt_K l1 (by show 1 ≤ sizeLine; decide) (.cons ⟨_, rfl⟩ .nil), PySem.W.mg_of X G a2, sqt_K l2 (by show 3 ≤ sizeLine; decide) (.cons ⟨_, rfl⟩ (.cons ⟨_, rfl⟩ (.cons ⟨_, rfl⟩ .nil))), PySem.W.mg_of X G c4, PySem.W.mg_of X G c40⟩
theorem txr_mk {K : PySem.W.Frag} {h : Heap} {mg : Str → Option Value} {w : World} {aR aS : Addr} {t1 t2 t3 t4 t5 : Tok} {d1 : Option Addr} {n1 n : Nat} {sl1 : Array (Option Value)} {es : Array DictEntry} {f1 f2 f3 f4 : Addr} (X : K.In h) (G : h.Ns mainGlobals mg)
    (a1 : PySem.W.nsIn K mainGlobals "RULES" = some (some (.ref aR))) (l1 : K.lookup aR = some ⟨.type "tuple", d1, .seq #[.str "old" t1, .str "new" t2, .str "left" t3, .str "right" t4, .str "wait" t5] n1, sl1⟩)
    (a2 : PySem.W.nsIn K mainGlobals "STEPS" = some (some (.ref aS))) (l2 : K.lookup aS = some ⟨.type "dict", none, .dict es n, #[]⟩) (kl : PySem.W.KeysLit w.params es.toList)
    (g1 : PySem.W.nsIn K mainGlobals "step_old" = some (some (.ref f1))) (g2 : PySem.W.nsIn K mainGlobals "step_new" = some (some (.ref f2))) (g3 : PySem.W.nsIn K mainGlobals "step_left" = some (some (.ref f3))) (g4 : PySem.W.nsIn K mainGlobals "step_right" = some (some (.ref f4)))
    (k1 : PySem.W.nsIn K aS "old" = some (some (.ref f1))) (k2 : PySem.W.nsIn K aS "new" = some (some (.ref f2))) (k3 : PySem.W.nsIn K aS "left" = some (some (.ref f3))) (k4 : PySem.W.nsIn K aS "right" = some (some (.ref f4))) (k5 : PySem.W.nsIn K aS "wait" = some (some (.ref f3))) : TxR K mg w aR aS := by
  refine ⟨PySem.W.mg_of X G a1, sqt_K l1 (by show 5 ≤ sizeLine; decide) (.cons ⟨_, rfl⟩ (.cons ⟨_, rfl⟩ (.cons ⟨_, rfl⟩ (.cons ⟨_, rfl⟩ (.cons ⟨_, rfl⟩ .nil))))), PySem.W.mg_of X G a2, fun r => ?_⟩
  cases r with
  | old => exact ⟨f1, PySem.W.mg_of X G g1, es, n, _, l2, kl, k1, rfl⟩
  | new => exact ⟨f2, PySem.W.mg_of X G g2, es, n, _, l2, kl, k2, rfl⟩
  | left => exact ⟨f3, PySem.W.mg_of X G g3, es, n, _, l2, kl, k3, rfl⟩
  | right => exact ⟨f4, PySem.W.mg_of X G g4, es, n, _, l2, kl, k4, rfl⟩
  | wait => exact ⟨f3, PySem.W.mg_of X G g3, es, n, _, l2, kl, k5, rfl⟩
theorem nb_mk {K : PySem.W.Frag} {h : Heap} {mg : Str → Option Value} (X : K.In h) (G : h.Ns mainGlobals mg)
    (h1 : PySem.W.nsIn K mainGlobals "len" = some none) (h2 : PySem.W.nsIn K mainGlobals "isinstance" = some none) (h3 : PySem.W.nsIn K mainGlobals "max" = some none) (h4 : PySem.W.nsIn K mainGlobals "min" = some none)
    (h5 : PySem.W.nsIn K mainGlobals "range" = some none) (h6 : PySem.W.nsIn K mainGlobals "enumerate" = some none) (h7 : PySem.W.nsIn K mainGlobals "zip" = some none) (h8 : PySem.W.nsIn K mainGlobals "list" = some none)
    (h9 : PySem.W.nsIn K mainGlobals "tuple" = some none) (h10 : PySem.W.nsIn K mainGlobals "int" = some none) (h11 : PySem.W.nsIn K mainGlobals "bool" = some none) (h12 : PySem.W.nsIn K mainGlobals "str" = some none) : Nb mg :=
  ⟨PySem.W.mg_none_of X G h1, PySem.W.mg_none_of X G h2, PySem.W.mg_none_of X G h3, PySem.W.mg_none_of X G h4, PySem.W.mg_none_of X G h5, PySem.W.mg_none_of X G h6, PySem.W.mg_none_of X G h7, PySem.W.mg_none_of X G h8, PySem.W.mg_none_of X G h9, PySem.W.mg_none_of X G h10, PySem.W.mg_none_of X G h11, PySem.W.mg_none_of X G h12⟩
end Db

namespace Zen
open PySem PySem.Spec PyProof.Rows L2
section
variable {prog : Program} {w : World} {A : Around} {E : Value → Shared → Prop} {s : Shared}
/-- a zip between two draws: its own tuple never given away, or given away (whether that one still lives is not known) -/
def ZipAt (h : Heap) (z TI TO : Addr) : Prop := IsZip h z TI TO .none ∨ ∃ (T : Addr) (f : Bool), IsZipHeld h z TI TO T f
theorem ZipAt.lt {h : Heap} {z TI TO : Addr} (q : ZipAt h z TI TO) : ∃ o, h.get? z = some o ∧ ∀ v, o.data ≠ .cell v := by
  rcases q with q | ⟨T, f, q⟩
  · exact ⟨_, q, fun v c => nomatch c⟩
  · exact ⟨_, q, fun v c => nomatch c⟩
theorem ZipAt.keep {h h' : Heap} {z TI TO : Addr} (q : ZipAt h z TI TO) (k : ∀ o, h.get? z = some o → h'.get? z = some o) : ZipAt h' z TI TO := by
  rcases q with q | ⟨T, f, q⟩
  · exact .inl (k _ q)
  · exact .inr ⟨T, f, k _ q⟩
/-- what a draw leaves -/
structure Drawn2 (h h' : Heap) (z TI TO i1 i2 l1 l2 : Addr) (k : Nat) (x y : Value) : Prop where
  zip : ZipAt h' z TI TO
  own : ∃ a b, IsPair h' TO a b
  it1 : h'.IsListIter i1 l1 (k + 1)
  it2 : h'.IsListIter i2 l2 (k + 1)
  new : IsPair h' h.objs.size x y
  size : h'.objs.size = h.objs.size + 1
  keep : ∀ c o, c ≠ z → c ≠ TO → c ≠ i1 → c ≠ i2 → h.get? c = some o → h'.get? c = some o
theorem gone {a : Addr} {Q : Option Obj → Shared → Prop} (ho : s.heap.get? a = none) (h : Q none s) : wpAny (model prog w) A (loadIfAlive a) Q E s := by
  have q : Q (s.heap.get? a) s := by rw [ho]; exact h
  exact fun _ _ _ => q
theorem free_dead {z TI TO T : Addr} {f : Bool} {Q : Bool → Shared → Prop} (hz : IsZipHeld s.heap z TI TO T f) (hT : s.heap.get? T = none) (h : Q true s) : wpAny (model prog w) A (Builtin.SmallTypes.ownedTupleIsFree (.ref z)) Q E s := by
  unfold Builtin.SmallTypes.ownedTupleIsFree
  refine wpAny_bind (wpAny_field hz rfl (x := rawInt T) rfl ?_)
  show wpAny _ _ (loadIfAlive ((T : Int).toNat) >>= _) _ _ _
  rw [Int.toNat_natCast]
  refine wpAny_bind (gone hT ?_)
  exact wpAny_pure h
/-- the next pair, the tuple that was given away dead -/
theorem item_dead {z TI TO T i1 i2 l1 l2 : Addr} {f : Bool} {k : Nat} {xs ys : Array Value} {x y a b : Value} {Q : Value → Shared → Prop} (D : ZipApart z TI TO i1 i2 l1 l2) (hz : IsZipHeld s.heap z TI TO T f) (hT : s.heap.get? T = none)
    (hTI : IsPair s.heap TI (.ref i1) (.ref i2)) (hTO : IsPair s.heap TO a b) (h1 : s.heap.IsListIter i1 l1 k) (h2 : s.heap.IsListIter i2 l2 k) (hl1 : s.heap.IsList l1 xs) (hl2 : s.heap.IsList l2 ys) (hx : xs[k]? = some x) (hy : ys[k]? = some y)
    (hQ : ∀ g, Drawn2 s.heap g z TI TO i1 i2 l1 l2 k x y → Q (.ref s.heap.objs.size) { s with heap := g }) :
    wpAny (model prog w) A (Builtin.«zip.__next__» ⟨[.ref z], []⟩) (fun fin s' => ∃ v, fin = .done (.ret v) ∧ Q v s') E s := by
  show wpAny _ _ (field (.ref z) 2 >>= _) _ _ _
  refine wpAny_bind (wpAny_field hz rfl (x := .bool false) rfl ?_)
  show wpAny _ _ (field (.ref z) 3 >>= _) _ _ _
  refine wpAny_bind (wpAny_field hz rfl (x := .ref TI) rfl ?_)
  refine wpAny_bind (wpAny_seqItems hTI rfl ?_)
  show wpAny _ _ (Builtin.SmallTypes.ownedTupleIsFree (.ref z) >>= _) _ _ _
  refine wpAny_bind (free_dead hz hT ?_)
  simp only [if_true]
  refine wpAny_bind (wpAny_rule (wpAny_bind (wpAny_field hz rfl (x := .ref TO) rfl ?_)))
  refine wpAny_bind (wpAny_setField_rec hz (by simp) fun g1 zg1 e1 => ?_)
  replace zg1 : g1.get? z = some { cls := .type "zip", dict := none, data := .fields #[.ellipsis, .bool f, .bool false, .ref TI, .ref TO], slots := #[] } := zg1
  refine wpAny_bind ?_
  simp only [List.zipIdx_cons, List.zipIdx_nil, List.forIn_cons, List.forIn_nil]
  refine wpAny_bind (wpAny_bind (wpAny_onRaise ?_))
  show wpAny _ _ (Builtin.SmallTypes.nextOf (.ref i1) >>= _) _ _ _
  refine wpAny_bind (wpAny_nextOf_list_item (h1.extBut e1.extBut D.i1z) (hl1.extBut e1.extBut D.l1z) hx fun g2 a1 e2 => wpAny_pure ?_)
  have p2 : IsPair g2 TO a b := e2.extBut _ _ D.TOi1 (e1.extBut _ _ D.TOz hTO)
  refine wpAny_bind (wpAny_seqItems p2 rfl (wpAny_bind (wpAny_updateSeq_pair p2 fun g3 p3 e3 => ?_)))
  replace p3 : IsPair g3 TO x b := p3
  refine wpAny_bind (wpAny_letGo (wpAny_pure (wpAny_bind (wpAny_bind (wpAny_onRaise ?_)))))
  show wpAny _ _ (Builtin.SmallTypes.nextOf (.ref i2) >>= _) _ _ _
  refine wpAny_bind (wpAny_nextOf_list_item (((h2.extBut e1.extBut D.i2z).extBut e2.extBut D.i12.symm).extBut e3.extBut D.TOi2.symm) (((hl2.extBut e1.extBut D.l2z).extBut e2.extBut D.l2i1).extBut e3.extBut D.l2TO) hy fun g4 a2 e4 => wpAny_pure ?_)
  have p4 : IsPair g4 TO x b := e4.extBut _ _ D.TOi2 p3
  refine wpAny_bind (wpAny_seqItems p4 rfl (wpAny_bind (wpAny_updateSeq_pair p4 fun g5 p5 e5 => ?_)))
  replace p5 : IsPair g5 TO x y := p5
  refine wpAny_bind (wpAny_letGo (wpAny_pure (wpAny_pure (wpAny_bind (wpAny_seqItems p5 rfl (wpAny_bind (wpAny_newTuple ?_)))))))
  have n5 : g5.objs.size = s.heap.objs.size := by rw [e5.1, e4.1, e3.1, e2.1, e1.1]
  have z5 : g5.get? z = some { cls := .type "zip", dict := none, data := .fields #[.ellipsis, .bool f, .bool false, .ref TI, .ref TO], slots := #[] } := e5.extBut _ _ D.TOz.symm (e4.extBut _ _ D.i2z.symm (e3.extBut _ _ D.TOz.symm (e2.extBut _ _ D.i1z.symm zg1)))
  have k5 : ∀ c o, c ≠ z → c ≠ TO → c ≠ i1 → c ≠ i2 → s.heap.get? c = some o → g5.get? c = some o := fun c o q1 q2 q3 q4 q => e5.extBut _ _ q2 (e4.extBut _ _ q4 (e3.extBut _ _ q2 (e2.extBut _ _ q3 (e1.extBut _ _ q1 q))))
  have b1 : g5.IsListIter i1 l1 (k + 1) := ((a1.extBut e3.extBut D.TOi1.symm).extBut e4.extBut D.i12).extBut e5.extBut D.TOi1.symm
  have b2 : g5.IsListIter i2 l2 (k + 1) := a2.extBut e5.extBut D.TOi2.symm
  have zlt : z < g5.objs.size := Heap.lt_size z5
  show wpAny _ _ (Builtin.SmallTypes.ownedTupleHandOut (.ref z) (.ref g5.objs.size) >>= _) _ _ _
  refine wpAny_bind ?_
  unfold Builtin.SmallTypes.ownedTupleHandOut
  refine wpAny_bind (wpAny_setField_rec (Heap.get?_push_of_some _ z5) (by simp) fun g7 z7 e7 => wpAny_setField_rec z7 (by simp) fun g8 z8 e8 => wpAny_pure ⟨_, rfl, ?_⟩)
  have up : ∀ c o, c ≠ z → g5.get? c = some o → g8.get? c = some o := fun c o q1 q => e8.extBut _ _ q1 (e7.extBut _ _ q1 (Heap.get?_push_of_some _ q))
  have t8 : IsPair g8 g5.objs.size x y := e8.extBut _ _ (Nat.ne_of_gt zlt) (e7.extBut _ _ (Nat.ne_of_gt zlt) (Heap.get?_push_size _ rfl))
  have n8 : g8.objs.size = g5.objs.size + 1 := by rw [e8.1, e7.1, Heap.size_push]
  show Q (.ref g5.objs.size) _
  have zh : IsZipHeld g8 z TI TO g5.objs.size false := z8
  rw [n5] at zh t8 n8 ⊢
  exact hQ g8 ⟨.inr ⟨_, _, zh⟩, ⟨_, _, up _ _ D.TOz p5⟩, b1.at fun o q => up _ o D.i1z q, b2.at fun o q => up _ o D.i2z q, t8, n8, fun c o q1 q2 q3 q4 q => up c o q1 (k5 c o q1 q2 q3 q4 q)⟩
/-- the next pair, at any place between two draws -/
theorem item_any {z TI TO i1 i2 l1 l2 : Addr} {k : Nat} {xs ys : Array Value} {x y a b : Value} {Q : Value → Shared → Prop} (D : ZipApart z TI TO i1 i2 l1 l2) (hz : ZipAt s.heap z TI TO)
    (hTI : IsPair s.heap TI (.ref i1) (.ref i2)) (hTO : IsPair s.heap TO a b) (h1 : s.heap.IsListIter i1 l1 k) (h2 : s.heap.IsListIter i2 l2 k) (hl1 : s.heap.IsList l1 xs) (hl2 : s.heap.IsList l2 ys) (hx : xs[k]? = some x) (hy : ys[k]? = some y)
    (hQ : ∀ g, Drawn2 s.heap g z TI TO i1 i2 l1 l2 k x y → Q (.ref s.heap.objs.size) { s with heap := g }) :
    wpAny (model prog w) A (Builtin.«zip.__next__» ⟨[.ref z], []⟩) (fun fin s' => ∃ v, fin = .done (.ret v) ∧ Q v s') E s := by
  rcases hz with hz | ⟨T, f, hz⟩
  · exact zip_next_item D hz hTI hTO h1 h2 hl1 hl2 hx hy fun g q1 q2 q3 q4 q5 q6 q7 => hQ g ⟨.inr ⟨_, false, q1⟩, ⟨_, _, q2⟩, q3, q4, q5, q6, q7⟩
  · cases hT : s.heap.get? T with
    | none => exact item_dead D hz hT hTI hTO h1 h2 hl1 hl2 hx hy hQ
    | some oT => exact zip_next_item_held D hz hT hTI h1 h2 hl1 hl2 hx hy fun g q1 q3 q4 q5 q6 q7 => hQ g ⟨.inr ⟨_, _, q1⟩, ⟨_, _, q7 _ _ D.TOz D.TOi1 D.TOi2 hTO⟩, q3, q4, q5, q6, fun c o c1 _ c3 c4 q => q7 c o c1 c3 c4 q⟩
/-- no more pairs -/
theorem end_dead {z TI TO T i1 i2 l1 l2 : Addr} {f : Bool} {k : Nat} {xs ys : Array Value} {a b : Value} {Q : Fin → Shared → Prop} (hh : A.handled = none) (D : ZipApart z TI TO i1 i2 l1 l2) (hz : IsZipHeld s.heap z TI TO T f) (hT : s.heap.get? T = none)
    (hTI : IsPair s.heap TI (.ref i1) (.ref i2)) (hTO : IsPair s.heap TO a b) (h1 : s.heap.IsListIter i1 l1 k) (h2 : s.heap.IsListIter i2 l2 k) (hl1 : s.heap.IsList l1 xs) (hl2 : s.heap.IsList l2 ys) (hend : xs[k]? = none ∨ ys[k]? = none)
    (hE : ∀ g e, (∀ c o, c ≠ z → c ≠ TO → c ≠ i1 → c ≠ i2 → s.heap.get? c = some o → g.get? c = some o) → (∃ o, g.get? e = some o ∧ o.cls = .type "StopIteration") → E (.ref e) { s with heap := g }) :
    wpAny (model prog w) A (Builtin.«zip.__next__» ⟨[.ref z], []⟩) Q E s := by
  show wpAny _ _ (field (.ref z) 2 >>= _) _ _ _
  refine wpAny_bind (wpAny_field hz rfl (x := .bool false) rfl ?_)
  show wpAny _ _ (field (.ref z) 3 >>= _) _ _ _
  refine wpAny_bind (wpAny_field hz rfl (x := .ref TI) rfl ?_)
  refine wpAny_bind (wpAny_seqItems hTI rfl ?_)
  show wpAny _ _ (Builtin.SmallTypes.ownedTupleIsFree (.ref z) >>= _) _ _ _
  refine wpAny_bind (free_dead hz hT ?_)
  simp only [if_true]
  refine wpAny_bind (wpAny_rule (wpAny_bind (wpAny_field hz rfl (x := .ref TO) rfl ?_)))
  refine wpAny_bind (wpAny_setField_rec hz (by simp) fun g1 zg1 e1 => ?_)
  replace zg1 : g1.get? z = some { cls := .type "zip", dict := none, data := .fields #[.ellipsis, .bool f, .bool false, .ref TI, .ref TO], slots := #[] } := zg1
  refine wpAny_bind ?_
  simp only [List.zipIdx_cons, List.zipIdx_nil, List.forIn_cons, List.forIn_nil]
  refine wpAny_bind (wpAny_bind (wpAny_onRaise ?_))
  show wpAny _ _ (Builtin.SmallTypes.nextOf (.ref i1) >>= _) _ _ _
  cases hx : xs[k]? with
  | none =>
    refine wpAny_bind (wpAny_nextOf_list_end hh (h1.extBut e1.extBut D.i1z) (hl1.extBut e1.extBut D.l1z) hx fun g2 e e2 he => ?_)
    obtain ⟨oe, hoe, hce⟩ := he
    have z2 := e2 _ _ D.i1z.symm zg1
    have nez : e ≠ z := fun q => by subst q; rw [z2] at hoe; cases hoe; simp at hce
    exact wpAny_setField_rec z2 (by simp) fun g3 _ e3 => hE g3 e (fun c o c1 _ c3 _ q => e3.extBut _ _ c1 (e2 _ _ c3 (e1.extBut _ _ c1 q))) ⟨oe, e3.extBut _ _ nez hoe, hce⟩
  | some x =>
    have hy : ys[k]? = none := by
      rcases hend with q | q
      · rw [hx] at q; cases q
      · exact q
    refine wpAny_bind (wpAny_nextOf_list_item (h1.extBut e1.extBut D.i1z) (hl1.extBut e1.extBut D.l1z) hx fun g2 a1 e2 => wpAny_pure ?_)
    have p2 : IsPair g2 TO a b := e2.extBut _ _ D.TOi1 (e1.extBut _ _ D.TOz hTO)
    refine wpAny_bind (wpAny_seqItems p2 rfl (wpAny_bind (wpAny_updateSeq_pair p2 fun g3 p3 e3 => wpAny_bind (wpAny_letGo (wpAny_pure ?_)))))
    refine wpAny_bind (wpAny_bind (wpAny_onRaise ?_))
    show wpAny _ _ (Builtin.SmallTypes.nextOf (.ref i2) >>= _) _ _ _
    refine wpAny_bind (wpAny_nextOf_list_end hh (((h2.extBut e1.extBut D.i2z).extBut e2.extBut D.i12.symm).extBut e3.extBut D.TOi2.symm) (((hl2.extBut e1.extBut D.l2z).extBut e2.extBut D.l2i1).extBut e3.extBut D.l2TO) hy fun g4 e e4 he => ?_)
    obtain ⟨oe, hoe, hce⟩ := he
    have z4 := e4 _ _ D.i2z.symm (e3.extBut _ _ D.TOz.symm (e2.extBut _ _ D.i1z.symm zg1))
    have nez : e ≠ z := fun q => by subst q; rw [z4] at hoe; cases hoe; simp at hce
    exact wpAny_setField_rec z4 (by simp) fun g5 _ e5 => hE g5 e (fun c o c1 c2 c3 c4 q => e5.extBut _ _ c1 (e4 _ _ c4 (e3.extBut _ _ c2 (e2.extBut _ _ c3 (e1.extBut _ _ c1 q))))) ⟨oe, e5.extBut _ _ nez hoe, hce⟩
theorem end_any {z TI TO i1 i2 l1 l2 : Addr} {k : Nat} {xs ys : Array Value} {a b : Value} {Q : Fin → Shared → Prop} (hh : A.handled = none) (D : ZipApart z TI TO i1 i2 l1 l2) (hz : ZipAt s.heap z TI TO)
    (hTI : IsPair s.heap TI (.ref i1) (.ref i2)) (hTO : IsPair s.heap TO a b) (h1 : s.heap.IsListIter i1 l1 k) (h2 : s.heap.IsListIter i2 l2 k) (hl1 : s.heap.IsList l1 xs) (hl2 : s.heap.IsList l2 ys) (hend : xs[k]? = none ∨ ys[k]? = none)
    (hE : ∀ g e, (∀ c o, c ≠ z → c ≠ TO → c ≠ i1 → c ≠ i2 → s.heap.get? c = some o → g.get? c = some o) → (∃ o, g.get? e = some o ∧ o.cls = .type "StopIteration") → E (.ref e) { s with heap := g }) :
    wpAny (model prog w) A (Builtin.«zip.__next__» ⟨[.ref z], []⟩) Q E s := by
  rcases hz with hz | ⟨T, f, hz⟩
  · exact zip_next_end hh D hz hTI hTO h1 h2 hl1 hl2 hend hE
  · cases hT : s.heap.get? T with
    | none => exact end_dead hh D hz hT hTI hTO h1 h2 hl1 hl2 hend hE
    | some oT => exact zip_next_end_held hh D hz hT hTI h1 h2 hl1 hl2 hend fun g e q r => hE g e (fun c o c1 _ c3 c4 x => q c o c1 c3 c4 x) r
theorem ZipAt.ty {z TI TO : Addr} (q : ZipAt s.heap z TI TO) : s.TypeIs (.ref z) "zip" := by
  rcases q with q | ⟨T, f, q⟩
  · exact ⟨_, q, rfl⟩
  · exact ⟨_, q, rfl⟩
/-- an enumerate over a zip: the next pair of a number and a pair -/
theorem en_item {e z TI TO i1 i2 l1 l2 : Addr} {k : Nat} {xs ys : Array Value} {x y a b old : Value} {Q : Option Value → Shared → Prop} (D : ZipApart z TI TO i1 i2 l1 l2) (he : IsEnum s.heap e z ((k : Nat) : Int) old) (hne : e ≠ z ∧ e ≠ TO ∧ e ≠ i1 ∧ e ≠ i2 ∧ e ≠ TI) (hz : ZipAt s.heap z TI TO)
    (hTI : IsPair s.heap TI (.ref i1) (.ref i2)) (hTO : IsPair s.heap TO a b) (h1 : s.heap.IsListIter i1 l1 k) (h2 : s.heap.IsListIter i2 l2 k) (hl1 : s.heap.IsList l1 xs) (hl2 : s.heap.IsList l2 ys) (hx : xs[k]? = some x) (hy : ys[k]? = some y)
    (hQ : ∀ g g1, Drawn2 s.heap g1 z TI TO i1 i2 l1 l2 k x y → IsEnumOut g e z ((k : Int) + 1) (.ref s.heap.objs.size) (s.heap.objs.size + 1) → g.get? (s.heap.objs.size + 1) = some { cls := .type "tuple", data := .seq #[.int k s.toks, .ref s.heap.objs.size] } →
      g.objs.size = s.heap.objs.size + 2 → (∀ c o, c ≠ e → g1.get? c = some o → g.get? c = some o) → Q (some (.ref (s.heap.objs.size + 1))) { s with heap := g, toks := s.toks + 1 }) :
    wpAny (model prog w) A (pyNext (.ref e)) Q E s := by
  have ty : s.TypeIs (.ref e) "enumerate" := ⟨_, he, rfl⟩
  unfold pyNext
  refine wpAny_bind (wpAny_attempt (wpAny_callSpecial?_slot (name := Str.ofString "__next__") ty F.slot_enumerate_next (wpAny_call_entry F.slot_enumerate_next ty F.entry_enumerate_next ?_ (F.args_enumerate_next_1 _))))
  show wpAny _ _ (field (.ref e) 2 >>= _) _ _ _
  refine wpAny_bind (wpAny_field he rfl (x := .ref z) rfl ?_)
  refine wpAny_bind ?_
  unfold Builtin.SmallTypes.nextOf
  refine wpAny_bind (wpAny_callSpecial?_slot (name := Str.ofString "__next__") hz.ty F.slot_zip_next (wpAny_call_entry F.slot_zip_next hz.ty F.entry_zip_next (item_any D hz hTI hTO h1 h2 hl1 hl2 hx hy fun g1 d1 => ?_) (F.args_zip_next_1 _)))
  refine wpAny_pure ?_
  have he1 : IsEnum g1 e z ((k : Nat) : Int) old := d1.keep _ _ hne.1 hne.2.1 hne.2.2.1 hne.2.2.2.1 he
  have elt : e < s.heap.objs.size := Heap.lt_size he
  show wpAny _ _ (field (.ref e) 3 >>= _) _ _ _
  refine wpAny_bind (wpAny_field he1 rfl (x := rawInt ((k : Nat) : Int)) rfl ?_)
  show wpAny _ _ (field (.ref e) 4 >>= _) _ _ _
  refine wpAny_bind (wpAny_field he1 rfl (x := .none) rfl ?_)
  show wpAny _ _ (mkInt ((k : Nat) : Int) >>= _) _ _ _
  refine wpAny_bind (wpAny_mkInt ?_)
  show wpAny _ _ (setField (.ref e) 3 (rawInt ((k : Int) + 1)) >>= _) _ _ _
  refine wpAny_bind (wpAny_setField_rec he1 (by simp) fun g2 he2 e2 => ?_)
  replace he2 : IsEnum g2 e z ((k : Int) + 1) old := he2
  show wpAny _ _ (setField (.ref e) 4 .none >>= _) _ _ _
  refine wpAny_bind (wpAny_setField_rec he2 (by simp) fun g3 he3 e3 => ?_)
  replace he3 : IsEnum g3 e z ((k : Int) + 1) old := he3
  have n3 : g3.objs.size = s.heap.objs.size + 1 := by rw [e3.1, e2.1]; exact d1.size
  show wpAny _ _ (newTuple [.int k s.toks, .ref s.heap.objs.size] >>= _) _ _ _
  refine wpAny_bind (wpAny_newTuple ?_)
  show wpAny _ _ (Builtin.SmallTypes.ownedTupleIsFree (.ref e) >>= _) _ _ _
  have he4 : IsEnum (g3.push { cls := .type "tuple", data := .seq #[.int k s.toks, .ref s.heap.objs.size] }) e z ((k : Int) + 1) old := Heap.get?_push_of_some _ he3
  have t4 : (g3.push { cls := .type "tuple", data := .seq #[.int k s.toks, .ref s.heap.objs.size] }).get? (s.heap.objs.size + 1) = some { cls := .type "tuple", data := .seq #[.int k s.toks, .ref s.heap.objs.size] } := by rw [← n3]; exact Heap.get?_push_size _ rfl
  have n4 : (g3.push { cls := .type "tuple", data := .seq #[.int k s.toks, .ref s.heap.objs.size] }).objs.size = s.heap.objs.size + 2 := by rw [Heap.size_push, n3]
  have k4 : ∀ c o, c ≠ e → g1.get? c = some o → (g3.push { cls := .type "tuple", data := .seq #[.int k s.toks, .ref s.heap.objs.size] }).get? c = some o := fun c o q r => Heap.get?_push_of_some _ (e3.extBut _ _ q (e2.extBut _ _ q r))
  rw [n3]
  generalize g3.push { cls := .type "tuple", data := .seq #[.int k s.toks, .ref s.heap.objs.size] } = g4 at he4 t4 n4 k4
  refine wpAny_bind ?_
  unfold Builtin.SmallTypes.ownedTupleIsFree
  refine wpAny_bind (wpAny_field he4 rfl (x := .none) rfl (wpAny_pure ?_))
  simp only [if_true]
  refine wpAny_bind (wpAny_rule (wpAny_bind (wpAny_field he4 rfl (x := old) rfl ?_)))
  refine wpAny_bind (wpAny_setField_rec he4 (by simp) fun g5 he5 e5 => ?_)
  replace he5 : IsEnum g5 e z ((k : Int) + 1) (.ref s.heap.objs.size) := he5
  show wpAny _ _ (Builtin.SmallTypes.ownedTupleHandOut (.ref e) (.ref (s.heap.objs.size + 1)) >>= _) _ _ _
  refine wpAny_bind ?_
  unfold Builtin.SmallTypes.ownedTupleHandOut
  refine wpAny_bind (wpAny_setField_rec he5 (by simp) fun g6 he6 e6 => wpAny_setField_rec he6 (by simp) fun g7 he7 e7 => wpAny_bind (wpAny_letGo (wpAny_pure ⟨_, rfl, wpAny_pure ?_⟩)))
  have up : ∀ c o, c ≠ e → g4.get? c = some o → g7.get? c = some o := fun c o q r => e7.extBut _ _ q (e6.extBut _ _ q (e5.extBut _ _ q r))
  refine hQ g7 g1 d1 he7 (up _ _ (Nat.ne_of_gt (Nat.lt_succ_of_lt elt)) t4) (by rw [e7.1, e6.1, e5.1, n4]) fun c o q r => up c o q (k4 c o q r)
theorem en_end {e z TI TO i1 i2 l1 l2 : Addr} {k : Nat} {xs ys : Array Value} {a b old : Value} {Q : Option Value → Shared → Prop} (hh : A.handled = none) (D : ZipApart z TI TO i1 i2 l1 l2) (he : IsEnum s.heap e z ((k : Nat) : Int) old) (hz : ZipAt s.heap z TI TO)
    (hTI : IsPair s.heap TI (.ref i1) (.ref i2)) (hTO : IsPair s.heap TO a b) (h1 : s.heap.IsListIter i1 l1 k) (h2 : s.heap.IsListIter i2 l2 k) (hl1 : s.heap.IsList l1 xs) (hl2 : s.heap.IsList l2 ys) (hend : xs[k]? = none ∨ ys[k]? = none)
    (hQ : ∀ g, (∀ c o, c ≠ z → c ≠ TO → c ≠ i1 → c ≠ i2 → s.heap.get? c = some o → g.get? c = some o) → Q none { s with heap := g }) : wpAny (model prog w) A (pyNext (.ref e)) Q E s := by
  have ty : s.TypeIs (.ref e) "enumerate" := ⟨_, he, rfl⟩
  unfold pyNext
  refine wpAny_bind (wpAny_attempt (wpAny_callSpecial?_slot (name := Str.ofString "__next__") ty F.slot_enumerate_next (wpAny_call_entry F.slot_enumerate_next ty F.entry_enumerate_next ?_ (F.args_enumerate_next_1 _))))
  show wpAny _ _ (field (.ref e) 2 >>= _) _ _ _
  refine wpAny_bind (wpAny_field he rfl (x := .ref z) rfl ?_)
  refine wpAny_bind ?_
  unfold Builtin.SmallTypes.nextOf
  refine wpAny_bind (wpAny_callSpecial?_slot (name := Str.ofString "__next__") hz.ty F.slot_zip_next (wpAny_call_entry F.slot_zip_next hz.ty F.entry_zip_next (end_any hh D hz hTI hTO h1 h2 hl1 hl2 hend fun g x q r => ?_) (F.args_zip_next_1 _)))
  obtain ⟨ox, hox, hcx⟩ := r
  exact wpAny_bind (wpAny_isInstance (T := "StopIteration") (b := true) ⟨ox, hox, hcx⟩ isSubtype_stop (wpAny_pure (hQ _ q)))
end
/-- the two lists as they stand at each turn: a number and a new pair of both items, in a new pair -/
def Itez (K : PySem.W.Frag) (a b : Addr) : It :=
  ⟨fun i H => ∃ (xs ys : List V) (x y : V), SqL K H a xs ∧ SqL K H b ys ∧ xs[i]? = some x ∧ ys[i]? = some y,
    fun i H v H' => ∃ (T U : Addr) (x y : V), v = .ref U ∧ H T = none ∧ (upd H T (.tup [x, y])) U = none ∧ H' = upd (upd H T (.tup [x, y])) U (.tup [.int (i : Nat), .ref T]) ∧ (∀ xs, SqL K H a xs → xs[i]? = some x) ∧ ∀ ys, SqL K H b ys → ys[i]? = some y,
    fun i H => ∃ xs ys : List V, SqL K H a xs ∧ SqL K H b ys ∧ (xs.length ≤ i ∨ ys.length ≤ i)⟩
theorem turn_ez {P : Program} {w : World} {K : PySem.W.Frag} {elts : List Expr} {kk : Nat} {tpos : Pos} {a b e z TI TO i1 i2 : Addr} (D : ZipApart z TI TO i1 i2 a b) (ne : e ≠ z ∧ e ≠ TO ∧ e ≠ i1 ∧ e ≠ i2 ∧ e ≠ TI) :
    Turn P w K (.Tuple elts kk tpos) (Itez K a b) [e, z, TI, TO, i1, i2] e (fun i h => (∃ old, IsEnum h e z ((i : Nat) : Int) old) ∧ ZipAt h z TI TO ∧ IsPair h TI (.ref i1) (.ref i2) ∧ (∃ x y, IsPair h TO x y) ∧ h.IsListIter i1 a i ∧ h.IsListIter i2 b i) where
  mem := by simp
  obj := fun i h st c hc => by
    obtain ⟨⟨old, he⟩, hz, hTI, ⟨x, y, hTO⟩, ⟨o1, e1, _, d1⟩, ⟨o2, e2, _, d2⟩⟩ := st
    have cs : c = e ∨ c = z ∨ c = TI ∨ c = TO ∨ c = i1 ∨ c = i2 := by simpa using hc
    rcases cs with q | q | q | q | q | q
    · rw [q]; exact ⟨_, he, fun v q => nomatch q⟩
    · rw [q]; exact hz.lt
    · rw [q]; exact ⟨_, hTI, fun v q => nomatch q⟩
    · rw [q]; exact ⟨_, hTO, fun v q => nomatch q⟩
    · rw [q]; exact ⟨o1, e1, fun v q => by rw [d1] at q; cases q⟩
    · rw [q]; exact ⟨o2, e2, fun v q => by rw [d2] at q; cases q⟩
  keep := fun i h h' st k => by
    obtain ⟨⟨old, he⟩, hz, hTI, ⟨x, y, hTO⟩, h1, h2⟩ := st
    exact ⟨⟨old, k e (by simp) _ he⟩, hz.keep fun o q => k z (by simp) o q, k TI (by simp) _ hTI, ⟨x, y, k TO (by simp) _ hTO⟩, h1.at fun o q => k i1 (by simp) o q, h2.at fun o q => k i2 (by simp) o q⟩
  item := by
    intro X hP hw hK hc i pins s σ H E I hf st hg
    subst hP hw hK
    obtain ⟨⟨old, he⟩, hz, hTI, ⟨x0, y0, hTO⟩, h1, h2⟩ := st
    obtain ⟨xs, ys, x, y, qx, qy, hx, hy⟩ := hg
    obtain ⟨its, rv, p1, _⟩ := I.list qx
    obtain ⟨jts, rw', p2, _⟩ := I.list qy
    obtain ⟨u, hu, ru⟩ := rv.get hx
    obtain ⟨u2, hu2, ru2⟩ := rw'.get hy
    have elt : e < s.heap.objs.size := Heap.lt_size he
    refine en_item D he ne hz hTI hTO h1 h2 p1.isList p2.isList (x := u) (y := u2) (by simpa using hu) (by simpa using hu2) fun g g1 d1 eo t2 n2 k2 => ?_
    refine ⟨_, rfl, wpAny_letOwnedTupleGo_enum (s := { s with heap := g, toks := s.toks + 1 }) eo fun g' he' sb => ?_⟩
    have m0 : ∀ c, c < s.heap.objs.size + 1 → c ≠ s.heap.objs.size + 1 := fun c q => Nat.ne_of_lt q
    have kk : ∀ c o, c ≠ e → g1.get? c = some o → g'.get? c = some o := fun c o q r => (sb.2 c q).trans (k2 c o q r)
    have tp : g'.get? s.heap.objs.size = some { cls := .type "tuple", data := .seq #[u, u2] } := kk _ _ (Nat.ne_of_gt elt) d1.new
    have tq : g'.get? (s.heap.objs.size + 1) = some { cls := .type "tuple", data := .seq #[.int i s.toks, .ref s.heap.objs.size] } := (sb.2 _ (Nat.ne_of_gt (Nat.lt_succ_of_lt elt))).trans t2
    have old' : ∀ c o, c ∉ [e, z, TI, TO, i1, i2] → s.heap.get? c = some o → g'.get? c = some o := fun c o q r => by
      simp only [List.mem_cons, List.not_mem_nil, or_false, not_or] at q
      exact kk _ _ q.1 (d1.keep _ _ q.2.1 q.2.2.2.1 q.2.2.2.2.1 q.2.2.2.2.2 r)
    have f0 : H s.heap.objs.size = none := I.hok.fresh (Nat.le_refl _)
    have tp1 : g1.get? s.heap.objs.size = some { cls := .type "tuple", data := .seq #[u, u2] } := d1.new
    have new1 : ObjOk X.prog X.w (upd H s.heap.objs.size (.tup [x, y])) g1 s.heap.objs.size (.tup [x, y]) := ⟨by show 2 ≤ sizeLine; decide, [u, u2], .cons ru (.cons ru2 .nil), ⟨_, tp1, rfl, _, rfl⟩⟩
    have I1 : Inv X pins σ (upd H s.heap.objs.size (.tup [x, y])) { s with heap := g1, toks := s.toks } := I.turnedNew (ch := [e, z, TI, TO, i1, i2]) (fun c o q r => by
      simp only [List.mem_cons, List.not_mem_nil, or_false, not_or] at q
      exact d1.keep _ _ q.2.1 q.2.2.2.1 q.2.2.2.2.1 q.2.2.2.2.2 r) hf (Nat.le_refl _) new1
    have fe : FpOk X pins (upd H s.heap.objs.size (.tup [x, y])) e := by
      obtain ⟨q0, q⟩ := hf e (by simp)
      exact ⟨by rw [upd_ne (Nat.ne_of_lt elt)]; exact q0, q⟩
    have new2 : ObjOk X.prog X.w (upd (upd H s.heap.objs.size (.tup [x, y])) (s.heap.objs.size + 1) (.tup [.int (i : Nat), .ref s.heap.objs.size])) g' (s.heap.objs.size + 1) (.tup [.int (i : Nat), .ref s.heap.objs.size]) :=
      ⟨by show 2 ≤ sizeLine; decide, [.int i s.toks, .ref s.heap.objs.size], .cons ⟨_, rfl⟩ (.cons rfl .nil), ⟨_, tq, rfl, _, rfl⟩⟩
    have I2 : Inv X pins σ (upd (upd H s.heap.objs.size (.tup [x, y])) (s.heap.objs.size + 1) (.tup [.int (i : Nat), .ref s.heap.objs.size])) { s with heap := g', toks := s.toks + 1 } :=
      I1.turnedNew (t' := s.toks + 1) (ch := [e]) (fun c o q r => kk c o (fun z => q (by simp [z])) r) (fun c hc => by rw [List.mem_singleton.mp hc]; exact fe) (Nat.le_of_eq d1.size) new2
    have gU : (upd H s.heap.objs.size (.tup [x, y])) (s.heap.objs.size + 1) = none := I1.hok.fresh (Nat.le_of_eq d1.size)
    refine ⟨.ref (s.heap.objs.size + 1), _, I2, rfl, ⟨_, _, x, y, rfl, f0, gU, rfl, fun l hl => by rw [I.list_inj hl qx]; exact hx, fun l hl => by rw [I.list_inj hl qy]; exact hy⟩, ⟨⟨.ref s.heap.objs.size, ?_⟩, ?_, ?_, ?_, ?_, ?_⟩, fun c hcm => ?_⟩
    · have q : ((i + 1 : Nat) : Int) = (i : Int) + 1 := by omega
      rw [q]; exact he'
    · exact d1.zip.keep fun o r => kk _ _ ne.1.symm r
    · exact kk _ _ ne.2.2.2.2.symm (d1.keep _ _ D.TIz D.TITO D.TIi1 D.TIi2 hTI)
    · obtain ⟨a1, a2, q⟩ := d1.own
      exact ⟨a1, a2, kk _ _ ne.2.1.symm q⟩
    · exact d1.it1.at fun o r => kk _ _ ne.2.2.1.symm r
    · exact d1.it2.at fun o r => kk _ _ ne.2.2.2.1.symm r
    · have lt : c < s.heap.objs.size := by
        have cs : c = e ∨ c = z ∨ c = TI ∨ c = TO ∨ c = i1 ∨ c = i2 := by simpa using hcm
        obtain ⟨oz, hoz, _⟩ := hz.lt
        rcases cs with q | q | q | q | q | q
        · rw [q]; exact elt
        · rw [q]; exact Heap.lt_size hoz
        · rw [q]; exact Heap.lt_size hTI
        · rw [q]; exact Heap.lt_size hTO
        · rw [q]; obtain ⟨_, e1, _⟩ := h1; exact Heap.lt_size e1
        · rw [q]; obtain ⟨_, e2, _⟩ := h2; exact Heap.lt_size e2
      rw [upd_ne (Nat.ne_of_lt (Nat.lt_succ_of_lt lt)), upd_ne (Nat.ne_of_lt lt)]
      exact (hf c hcm).1
  done := by
    intro X hP hw hK hc i pins s σ H E I hf st hg
    subst hP hw hK
    obtain ⟨⟨old, he⟩, hz, hTI, ⟨x0, y0, hTO⟩, h1, h2⟩ := st
    obtain ⟨xs, ys, qx, qy, hend⟩ := hg
    obtain ⟨its, rv, p1, _⟩ := I.list qx
    obtain ⟨jts, rw', p2, _⟩ := I.list qy
    have l1 := rv.length
    have l2 := rw'.length
    have hn : its.toArray[i]? = none ∨ jts.toArray[i]? = none := by
      rcases hend with q | q
      · exact .inl (by simp; omega)
      · exact .inr (by simp; omega)
    exact en_end (I.ok.hd hc) D he hz hTI hTO h1 h2 p1.isList p2.isList hn fun g hk => ⟨rfl, I.turnedL (t' := s.toks) (ch := [e, z, TI, TO, i1, i2]) (fun c o q r =>
      hk c o (fun q' => q (by simp [q'])) (fun q' => q (by simp [q'])) (fun q' => q (by simp [q'])) (fun q' => q (by simp [q'])) r) hf⟩
  self := fun A i s Q E st h => let ⟨⟨_, he⟩, _⟩ := st; wpAny_pyIter_enum he h
end Zen

namespace Zen
open PySem PySem.Spec PyProof.Rows L2
theorem meets_en (z TI TO : Addr) : Meets (Builtin.«enumerate.__new__» ⟨[.type "enumerate", .ref z], []⟩) (fun _ R s => IsZip s.heap z TI TO .none ∧
    R (.ok (.ret (.ref s.heap.objs.size))) { s with heap := s.heap.push { cls := .type "enumerate", data := .fields #[.none, .bool false, .ref z, rawInt 0, .none, .none] } }) :=
  .of_wp fun prog w A R s h => by
    obtain ⟨hp, g, d, tk, os⟩ := s
    obtain ⟨h1, h⟩ := h
    have hsub := sub_enumerate
    have q1 : ∀ {A' : Around} {E : Value → Shared → Prop} {Q : Value → Shared → Prop}, Q (.ref z) ⟨hp, g, d, tk, os⟩ → wpAny (model prog w) A' (pyIter (.ref z)) Q E ⟨hp, g, d, tk, os⟩ := fun q => wpAny_pyIter_zip (s := ⟨hp, g, d, tk, os⟩) h1 q
    wp_walk using q1
    refine wpAny_stack_any fun st => wpAny_pure ?_
    split
    · rename_i c _ _ _ _ _
      cases (c == Value.type "enumerate")
      · wp_walk using q1
        exact ⟨_, rfl, h⟩
      · wp_walk using q1
        exact ⟨_, rfl, h⟩
    · wp_walk using q1
      exact ⟨_, rfl, h⟩
end Zen

namespace Zen
open PySem PySem.Spec PyProof.Rows L2
theorem call_en {prog : Program} {w : World} {A : Around} {E : Value → Shared → Prop} {s : Shared} {z TI TO : Addr} {Q : Value → Shared → Prop} (hz : IsZip s.heap z TI TO .none)
    (h : ∀ g, IsEnum g s.heap.objs.size z 0 .none → (∀ b o, s.heap.get? b = some o → g.get? b = some o) → Q (.ref s.heap.objs.size) { s with heap := g }) : wpAny (model prog w) A (call (.type "enumerate") [.ref z]) Q E s := by
  refine callType_new F.called_enumerate (by decide) (F.typeCall_enumerate_1 _) (F.newCall_enumerate_1 _) (fun obj => F.args_object_init_2 obj _) F.entry_enumerate_new (meets_en z TI TO) ⟨hz, ?_⟩
  have he : IsEnum (s.heap.push { cls := .type "enumerate", data := .fields #[.none, .bool false, .ref z, rawInt 0, .none, .none] }) s.heap.objs.size z 0 .none := Heap.get?_push_size s.heap rfl
  exact ⟨⟨_, he, rfl⟩, h _ he fun b o x => Heap.get?_push_of_some _ x⟩
def iEz (K : PySem.W.Frag) (ta : TA) : TI := fun σ H R => ta σ H fun vs H1 => ∃ a b xs ys, vs = [.ref a, .ref b] ∧ SqL K H1 a xs ∧ SqL K H1 b ys ∧ R (Itez K a b) H1
theorem pi_ez {X : Cx} {e e2 : Expr} {ta : TA} {p p2 pos pos2 tpos : Pos} {elts : List Expr} {kk : Nat} (hg : Gl X "enumerate") (hm : X.mg "enumerate" = none) (hg2 : Gl X "zip") (hm2 : X.mg "zip" = none) (ha : PA X [e, e2] ta)
    (hs1 : starEach [.Call (.Name "zip" p2) [e, e2] [] pos2] X.env = [(false, eval (.Call (.Name "zip" p2) [e, e2] [] pos2) X.env)] := by rfl)
    (hs : starEach [e, e2] X.env = (false, eval e X.env) :: starEach [e2] X.env := by rfl) (hpl : (backTo pos2 (starEach [e2] X.env)).any (·.1) = false := by rfl) :
    PI X (.Tuple elts kk tpos) (.Call (.Name "enumerate" p) [.Call (.Name "zip" p2) [e, e2] [] pos2] [] pos) (iEz X.K ta) := by
  refine ⟨fun pins s σ H R I h => ?_⟩
  refine Call_ (ld_blt I hg hm boot_enumerate (PyProof.Rows.callWith_type1 ?_ hs1 rfl))
  rw [hs1]
  show wpAny _ _ (spliced ((false, eval (.Call (.Name "zip" p2) [e, e2] [] pos2) X.env) :: backTo pos [])) _ _ s
  refine Calls.spliced_cons ?_
  refine Call_ (ld_blt I hg2 hm2 PyProof.Rows.boot_zip (PyProof.Rows.callWith_type1 (thn (ha.run pos2 pins s σ H _ I h) fun us s1 ⟨vs, H1, I1, r1, q1⟩ => ?_) hs hpl))
  obtain ⟨a, b, xs, ys, ex, hqx, hqy, q⟩ := q1
  subst ex
  cases r1 with
  | cons r rr =>
    cases rr with
    | cons r' rr =>
      cases rr
      cases r
      cases r'
      obtain ⟨its, rv, p1', _⟩ := I1.list hqx
      obtain ⟨jts, rv2, p2', _⟩ := I1.list hqy
      have la : a < s1.heap.objs.size := p1'.lt
      have lb : b < s1.heap.objs.size := p2'.lt
      refine call_zip_2 p1'.isList p2'.isList fun g hz hTI hTO h1 h2 hsz hk => ?_
      refine Calls.spliced_nil ?_
      refine call_en (s := { s1 with heap := g }) hz fun g' he k' => wpAny_pyIter_enum he ?_
      have n0 : g.objs.size = s1.heap.objs.size + 5 := hsz
      show PIE X pins σ _ R (.ref g.objs.size) _
      have he : IsEnum g' g.objs.size (s1.heap.objs.size + 4) 0 .none := he
      rw [n0] at he ⊢
      have I2 : Inv X pins σ H1 { s1 with heap := g' } := I1.kept (t' := s1.toks) fun b o q => k' _ _ (hk _ _ q)
      have ne : ∀ j : Nat, j < 5 → s1.heap.objs.size + 5 ≠ s1.heap.objs.size + j := fun j hj q => by
        have := Nat.add_left_cancel q
        omega
      refine ⟨s1.heap.objs.size + 5, [s1.heap.objs.size + 5, s1.heap.objs.size + 4, s1.heap.objs.size + 2, s1.heap.objs.size + 3, s1.heap.objs.size, s1.heap.objs.size + 1], _, _, H1, rfl, I2, turn_ez (PySem.W.ktu_apart s1.heap.objs.size a b la lb) ⟨ne 4 (by decide), ne 3 (by decide), ne 0 (by decide), ne 1 (by decide), ne 2 (by decide)⟩,
        ⟨⟨.none, he⟩, .inl (k' _ _ hz), k' _ _ hTI, ⟨_, _, k' _ _ hTO⟩, h1.at fun o q => k' _ _ q, h2.at fun o q => k' _ _ q⟩, fun c hcm => ?_, q⟩
      have hle : s1.heap.objs.size ≤ c := by
        have cs : c = s1.heap.objs.size + 5 ∨ c = s1.heap.objs.size + 4 ∨ c = s1.heap.objs.size + 2 ∨ c = s1.heap.objs.size + 3 ∨ c = s1.heap.objs.size ∨ c = s1.heap.objs.size + 1 := by simpa using hcm
        rcases cs with z | z | z | z | z | z
        · rw [z]; exact Nat.le_add_right _ _
        · rw [z]; exact Nat.le_add_right _ _
        · rw [z]; exact Nat.le_add_right _ _
        · rw [z]; exact Nat.le_add_right _ _
        · rw [z]; exact Nat.le_refl _
        · rw [z]; exact Nat.le_add_right _ _
      exact I1.fpOk hle (I1.hok.fresh hle)
/-- its turns -/
theorem walk_ez {K : PySem.W.Frag} {a b : Addr} {xs ys : List V} {n : Nat} (hn : n = min xs.length ys.length) : Walk (Itez K a b) n (fun H => SqL K H a xs ∧ SqL K H b ys)
    (fun i H v H' => ∃ (T U : Addr) (x y : V), v = .ref U ∧ H T = none ∧ (upd H T (.tup [x, y])) U = none ∧ H' = upd (upd H T (.tup [x, y])) U (.tup [.int (i : Nat), .ref T]) ∧ xs[i]? = some x ∧ ys[i]? = some y) := by
  subst hn
  refine ⟨fun i _ hi q => ?_, fun _ q => ⟨xs, ys, q.1, q.2, by omega⟩, fun i H v H' _ q y => ?_⟩
  · have h1 : i < xs.length := by omega
    have h2 : i < ys.length := by omega
    exact ⟨xs, ys, xs[i], ys[i], q.1, q.2, by simp [h1], by simp [h2]⟩
  · obtain ⟨T, U, x, z, e1, e2, e3, e4, e5, e6⟩ := y
    exact ⟨T, U, x, z, e1, e2, e3, e4, e5 xs q.1, e6 ys q.2⟩
theorem pg_tupK {X : Cx} {K : PySem.W.Frag} {es : List Expr} {k : Nat} {t : TGs} {n : Nat} {pos : Pos} (hc : X.calm = true) (h : PGs X es t) (e : X.K = K := by rfl)
    (hn : (assignEach es X.env).length = n := by rfl) (hst : (assignEach es X.env).findIdx? (·.1) = none := by rfl) : PG X (.Tuple es k pos) (gTup K n t) := by
  subst e
  exact pg_tup hc h hn hst
end Zen

namespace Db
open PySem L2 Evl StX
section
variable {X : Cx} (K : PySem.W.Frag) {tg l : Expr} {tl te : TE} {t : TA} {es : List Expr} {p : Pos}
theorem pi_tupK (h : PE X l tl) (e : X.K = K := by rfl) : PI X tg l (iTup K tl) := by subst e; exact pi_tup h
theorem pi_listK (h : PE X l tl) (e : X.K = K := by rfl) : PI X tg l (iList K tl) := by subst e; exact pi_list h
theorem pa_starK {x : Expr} (he : PE X x te) (hr : PA X es t) (e : X.K = K := by rfl) (hs : starEach (.Starred x p :: es) X.env = (true, eval x X.env) :: starEach es X.env := by rfl) : PA X (.Starred x p :: es) (tStar K te t) := by
  subst e
  exact pa_star he hr hs
end
/-- memories, each a tuple -/
def MV (K : PySem.W.Frag) (H : Hp) (v : V) (ws : List Nat) : Prop := ∃ a, v = .ref a ∧ SqT K H a (ws.map wV)
def MVs (K : PySem.W.Frag) (H : Hp) (vs : List V) (ms : List (List Nat)) : Prop := Paired (MV K H) vs ms
theorem MVs.mono {K : PySem.W.Frag} {H H' : Hp} {vs : List V} {ms : List (List Nat)} (e : Ex H H') (q : MVs K H vs ms) : MVs K H' vs ms := Paired.mapP q fun _ _ ⟨a, h, s⟩ => ⟨a, h, ex_t e s⟩
theorem MVs.length {K : PySem.W.Frag} {H : Hp} {vs : List V} {ms : List (List Nat)} (q : MVs K H vs ms) : vs.length = ms.length := Paired.length q
theorem MVs.get {K : PySem.W.Frag} {H : Hp} : ∀ {vs : List V} {ms : List (List Nat)} {i : Nat} {v : V}, MVs K H vs ms → vs[i]? = some v → ∃ m, ms[i]? = some m ∧ MV K H v m
  | _, _, _, _, .nil, e => by simp at e
  | _, _, 0, _, .cons r _, e => by simp at e; subst e; exact ⟨_, rfl, r⟩
  | _, _, i + 1, x, .cons _ t, e => by
    obtain ⟨u, h1, h2⟩ := MVs.get (i := i) (v := x) t (by simpa using e)
    exact ⟨u, by simpa using h1, h2⟩
theorem MVs.append {K : PySem.W.Frag} {H : Hp} : ∀ {us vs : List V} {ds es : List (List Nat)}, MVs K H us ds → MVs K H vs es → MVs K H (us ++ vs) (ds ++ es)
  | _, _, _, _, .nil, h => h
  | _, _, _, _, .cons r t, h => .cons r (MVs.append t h)
/-- all memories of so many cells, in their order -/
def grow (m : List Nat) : List (List Nat) := [m ++ [0], m ++ [1], m ++ [2]]
def mems : Nat → List (List Nat)
  | 0 => [[]]
  | n + 1 => (mems n).flatMap grow
theorem mems_length : ∀ n, (mems n).length = 3 ^ n
  | 0 => rfl
  | n + 1 => by
    have h : ∀ l : List (List Nat), (l.flatMap grow).length = 3 * l.length := by
      intro l
      induction l with
      | nil => rfl
      | cons a l ih => rw [List.flatMap_cons, List.length_append, ih]; show 3 + _ = _; rw [List.length_cons]; omega
    show ((mems n).flatMap grow).length = _
    rw [h, mems_length n, Nat.pow_succ]
    omega
theorem mems_mem : ∀ {n : Nat} {m : List Nat}, m ∈ mems n → m.length = n ∧ ∀ x ∈ m, x < 3
  | 0, m, h => by
    cases List.mem_singleton.mp h
    exact ⟨rfl, fun x hx => nomatch hx⟩
  | n + 1, m, h => by
    obtain ⟨u, hu, hm⟩ := List.mem_flatMap.mp h
    obtain ⟨l, s⟩ := mems_mem hu
    have : m = u ++ [0] ∨ m = u ++ [1] ∨ m = u ++ [2] := by simpa [grow] using hm
    rcases this with rfl | rfl | rfl <;> refine ⟨by simp [l], fun x hx => ?_⟩ <;> (rcases List.mem_append.mp hx with z | z; exact s x z; have := List.mem_singleton.mp z; omega)
/-- what both read and what stands, as data -/
def datO (S : Sts) : PyData := .tuple [.list (wD S.ss), .list (wD S.os), .tuple (wD S.ws)]
/-- the same is read and stands -/
def same3 (S U : Sts) : Bool := decide (S.ss = U.ss) && (decide (S.os = U.os) && decide (S.ws = U.ws))
def partRow (c : List Nat) (ds es : List Deed) : Option (List Nat × Rule) := ([Rule.new, .left, .right, .wait].find? fun r => !same3 (out r (begin0 c ds es)) (out .old (begin0 c ds es))).map fun r => (c, r)
def partD (c : Nat) (ds es : List Deed) : Option (List Nat × Rule) := (mems c).findSome? fun m => partRow m ds es
def datP : Option (List Nat × Rule) → PyData
  | none => .none
  | some (m, r) => .tuple [.tuple (wD m), .str "old", .str r.name]
theorem MVs.buts {K : PySem.W.Frag} {H H' : Hp} {S : List Addr} {vs : List V} {ms : List (List Nat)} (b : Bt S H H') (hp : ∀ p ∈ S, ∃ us, H p = some (.lst us)) (q : MVs K H vs ms) : MVs K H' vs ms := Paired.mapP q fun _ _ ⟨a, h, s⟩ => ⟨a, h, t_but b hp s⟩
theorem it_list {K : PySem.W.Frag} {a : Addr} {xs : List V} {H0 : Hp} {B : V → Hp → (Hp → Prop) → Prop} {Qd : Hp → Prop} (Pv : Nat → Hp → Prop) (h0 : Pv 0 H0) (hl : ∀ i H, i ≤ xs.length → Pv i H → SqL K H a xs)
    (hs : ∀ i x H, xs[i]? = some x → Pv i H → B x H (Pv (i + 1))) (hd : ∀ H, Pv xs.length H → Qd H) :
    ∃ W : Nat → Nat → Hp → Prop, (∃ m, W 0 m H0) ∧ ∀ i m H, W i m H →
      ((Itl K a).stop i H ∧ Qd H) ∨ ((Itl K a).go i H ∧ ∃ Nx : Hp → Prop, (∀ H', Nx H' → ∃ m', m' < m ∧ W (i + 1) m' H') ∧ ∀ x H', (Itl K a).yld i H x H' → B x H' Nx) := by
  refine ⟨fun i m H => m = xs.length - i ∧ i ≤ xs.length ∧ Pv i H, ⟨xs.length, by simp, Nat.zero_le _, h0⟩, ?_⟩
  rintro i m H ⟨rfl, hi, p⟩
  have q := hl i H hi p
  by_cases hlt : i < xs.length
  · refine .inr ⟨⟨xs, xs[i], q, by simp [hlt]⟩, Pv (i + 1), fun H' p' => ⟨xs.length - (i + 1), by omega, rfl, hlt, p'⟩, fun x H' y => ?_⟩
    obtain ⟨e, y⟩ := y
    subst e
    exact hs i x _ (y xs q) p
  · have e : i = xs.length := by omega
    subst e
    exact .inl ⟨⟨xs, q, Nat.le_refl _⟩, hd H p⟩
theorem it_tup {K : PySem.W.Frag} {a : Addr} {xs : List V} {H0 : Hp} {B : V → Hp → (Hp → Prop) → Prop} {Qd : Hp → Prop} (Pv : Nat → Hp → Prop) (h0 : Pv 0 H0) (hl : ∀ i H, i ≤ xs.length → Pv i H → SqT K H a xs)
    (hs : ∀ i x H, xs[i]? = some x → Pv i H → B x H (Pv (i + 1))) (hd : ∀ H, Pv xs.length H → Qd H) :
    ∃ W : Nat → Nat → Hp → Prop, (∃ m, W 0 m H0) ∧ ∀ i m H, W i m H →
      ((Itt K a).stop i H ∧ Qd H) ∨ ((Itt K a).go i H ∧ ∃ Nx : Hp → Prop, (∀ H', Nx H' → ∃ m', m' < m ∧ W (i + 1) m' H') ∧ ∀ x H', (Itt K a).yld i H x H' → B x H' Nx) := by
  refine ⟨fun i m H => m = xs.length - i ∧ i ≤ xs.length ∧ Pv i H, ⟨xs.length, by simp, Nat.zero_le _, h0⟩, ?_⟩
  rintro i m H ⟨rfl, hi, p⟩
  have q := hl i H hi p
  by_cases hlt : i < xs.length
  · refine .inr ⟨⟨xs, xs[i], q, by simp [hlt]⟩, Pv (i + 1), fun H' p' => ⟨xs.length - (i + 1), by omega, rfl, hlt, p'⟩, fun x H' y => ?_⟩
    obtain ⟨e, y⟩ := y
    subst e
    exact hs i x _ (y xs q) p
  · have e : i = xs.length := by omega
    subst e
    exact .inl ⟨⟨xs, q, Nat.le_refl _⟩, hd H p⟩
theorem grow_at {m : List Nat} {k : Nat} (h : k < 3) : (grow m).take (k + 1) = (grow m).take k ++ [m ++ [k]] := by
  match k, h with
  | 0, _ => rfl
  | 1, _ => rfl
  | 2, _ => rfl
theorem flat_at {l : List (List Nat)} {j : Nat} {m : List Nat} (h : l[j]? = some m) : (l.take (j + 1)).flatMap grow = (l.take j).flatMap grow ++ grow m := by
  rw [List.take_add_one, h, List.flatMap_append]
  simp
section
variable {K : PySem.W.Frag} {te tl th : TE} {tu tz : TS} {D : Ends} {σ : L2.St} {H : Hp} {j : Nat} {R : Addr → Hp → Prop}
theorem q_forX (h : ∀ Q : VK, (∀ l H2, R l H2 → Q (.ref l) H2) → te σ H Q) (k : ∀ l H2, R l H2 → tSeq (tFor (iList K (tC (.ref l))) (gName j) tu) tz D σ H2) : tSeq (tFor (iList K te) (gName j) tu) tz D σ H := h _ fun l H2 r => k l H2 r
theorem s_forXT (h : ∀ Q : VK, (∀ l H2, R l H2 → Q (.ref l) H2) → te σ H Q) (k : ∀ l H2, R l H2 → tFor (iTup K (tC (.ref l))) (gName j) tu D σ H2) : tFor (iTup K te) (gName j) tu D σ H := h _ fun l H2 r => k l H2 r
end
theorem eqvA_w : ∀ a b : List Nat, PyData.eqvAll (wD a) (wD b) = decide (a = b)
  | [], [] => by simp [wD, PyData.eqvAll]
  | [], y :: b => by simp [wD, PyData.eqvAll]
  | x :: a, [] => by simp [wD, PyData.eqvAll]
  | x :: a, y :: b => by
    have h := eqvA_w a b
    show PyData.eqvAll (.int x :: wD a) (.int y :: wD b) = _
    rw [PyData.eqvAll, h]
    have e : PyData.eqv (.int (x : Int)) (.int (y : Int)) = decide (x = y) := by
      by_cases z : x = y
      · subst z
        simp [PyData.eqv]
      · rw [decide_eq_false z]
        simp only [PyData.eqv]
        have z2 : ¬ (x : Int) = (y : Int) := by omega
        simpa using z2
    rw [e]
    by_cases hx : x = y <;> by_cases hr : a = b <;> simp [hx, hr]
theorem eqv_o (S U : Sts) : PyData.eqv (datO S) (datO U) = same3 S U := by
  unfold datO same3
  simp only [PyData.eqv, PyData.eqvAll, eqvA_w, Bool.and_true]
theorem sh_w (ws : List Nat) : Sh 1 (.list (wD ws)) := sh_lst fun d hd => by
  obtain ⟨n, _, rfl⟩ := List.mem_map.mp hd
  exact sh_int
theorem sh_wT (ws : List Nat) : Sh 1 (.tuple (wD ws)) := sh_tup fun d hd => by
  obtain ⟨n, _, rfl⟩ := List.mem_map.mp hd
  exact sh_int
theorem sh_o (S : Sts) : Sh 2 (datO S) := sh_tup fun d hd => by
  simp only [List.mem_cons, List.not_mem_nil, or_false] at hd
  rcases hd with rfl | rfl | rfl
  · exact sh_w _
  · exact sh_w _
  · exact sh_wT _
theorem findSome_at {α β : Type} {f : α → Option β} : ∀ {l : List α} {i : Nat} {a : α} {b : β}, l[i]? = some a → (∀ j a', j < i → l[j]? = some a' → f a' = none) → f a = some b → l.findSome? f = some b
  | [], _, _, _, h, _, _ => by simp at h
  | x :: l, 0, a, b, h, _, e => by
    cases h
    rw [List.findSome?_cons, e]
  | x :: l, i + 1, a, b, h, n, e => by
    rw [List.findSome?_cons, n 0 x (by omega) rfl]
    exact findSome_at (l := l) (i := i) (by simpa using h) (fun j a' hj hb => n (j + 1) a' (by omega) (by simpa using hb)) e
theorem findSome_no {α β : Type} {f : α → Option β} : ∀ {l : List α}, (∀ j a', j < l.length → l[j]? = some a' → f a' = none) → l.findSome? f = none
  | [], _ => rfl
  | x :: l, n => by
    rw [List.findSome?_cons, n 0 x (by simp) rfl]
    exact findSome_no (l := l) fun j a' hj hb => n (j + 1) a' (by simp; omega) (by simpa using hb)
def others : List Rule := [.new, .left, .right, .wait]
theorem partRow_find (c : List Nat) (ds es : List Deed) : partRow c ds es = others.findSome? fun r => if same3 (out r (begin0 c ds es)) (out .old (begin0 c ds es)) = true then none else some (c, r) := by
  unfold partRow
  show (others.find? _).map _ = _
  generalize others = l
  induction l with
  | nil => rfl
  | cons r l ih =>
    rw [List.find?_cons, List.findSome?_cons]
    cases h : same3 (out r (begin0 c ds es)) (out .old (begin0 c ds es)) with
    | true => simpa [h] using ih
    | false => simp [h]
theorem s_forTn {K : PySem.W.Frag} {tl : TE} {tu : TS} {D : Ends} {σ : L2.St} {H : Hp} {a : Addr} {xs : List V} {j : Nat} (h : Ev tl σ H (.ref a)) (hx : SqT K H a xs) (Pv : Nat → L2.St → Hp → Prop) (h0 : ∀ H1, Ex H H1 → Pv 0 σ H1) (hl : ∀ i σ' H', i ≤ xs.length → Pv i σ' H' → SqT K H' a xs)
    (hs : ∀ i x σ' H', xs[i]? = some x → Pv i σ' H' → tu { D with nx := Pv (i + 1), ct := Pv (i + 1), bk := D.nx } (σ'.set j (some x)) H') (hd : ∀ σ' H', Pv xs.length σ' H' → D.nx σ' H') : tFor (iTup K tl) (gName j) tu D σ H :=
  s_forT h hx Pv h0 hl hs hd
theorem sl_tupK {X : Cx} (K : PySem.W.Frag) (e : X.K = K := by rfl) : SlR X (rSlT K) := by subst e; exact sl_tup
section
variable {K : PySem.W.Frag} {te tb : TE} {σ : L2.St} {H : Hp} {xs : List V} {v : V} {i : Int}
/-- a cell of a new list -/
theorem ev_ixNew (h : EvL te σ H xs) (hb : Ev tb σ H (.int i)) (ha : atI xs i = some v) : Ev (tOp (rIxL K) te tb) σ H v := fun H1 e Q q => h H1 e _ fun p H2 hp e2 hx => hb H2 (e.trans e2) _ fun H3 e3 => ⟨p, _, i, _, rfl, rfl, SqL.of (e3 _ _ hx), ha, q H3 (e2.trans e3)⟩
theorem eu_tupleOf (h : EvL te σ H xs) : EvU (tCB (fun xs H Q => ∃ p ys, xs = [.ref p] ∧ ((SqL K H p ys ∧ ∀ l, H l = none → Q (.ref l) (upd H l (.tup ys))) ∨ (SqT K H p ys ∧ Q (.ref p) H))) (tCons te tNil)) σ H xs := fun H1 e Q q =>
  h H1 e _ fun p H2 hp e2 hx => ⟨p, xs, rfl, .inl ⟨SqL.of hx, fun l hl => q l _ (fresh_back e2 hl) (e2.trans (Ex.new hl)) upd_same⟩⟩
end
/-- the i-th memory of so many cells, digit by digit -/
def dig (c i : Nat) : List Nat := (List.range c).map fun k => i / 3 ^ (c - 1 - k) % 3
theorem mems_dig : ∀ c, 1 ≤ c → c ≤ 4 → mems c = (List.range (3 ^ c)).map (dig c)
  | 1, _, _ => by decide +kernel
  | 2, _, _ => by decide +kernel
  | 3, _, _ => by decide +kernel
  | 4, _, _ => by decide +kernel
  | 0, h, _ => absurd h (by decide)
  | n + 5, _, h => absurd h (by omega)
theorem given_all (n : Nat) (v : Nat → V) : given n (fun _ => true) v = (List.range n).map v := by
  unfold given
  rw [List.filter_eq_self.mpr (fun _ _ => rfl)]
def t3 (S : Sts) : List Nat × List Nat × List Nat := (S.ss, S.os, S.ws)
theorem same3_iff (S U : Sts) : same3 S U = true ↔ t3 S = t3 U := by
  unfold same3 t3
  simp
theorem same3_comm (S U : Sts) : same3 S U = same3 U S := by
  rw [Bool.eq_iff_iff, same3_iff, same3_iff]
  exact ⟨Eq.symm, Eq.symm⟩
def rulesL : List Rule := [.old, .new, .left, .right, .wait]
def pairA : List V := [.int 0, .int 0, .int 0, .int 0, .int 1, .int 1, .int 1, .int 2, .int 2, .int 3]
def pairB : List V := [.int 1, .int 2, .int 3, .int 4, .int 2, .int 3, .int 4, .int 3, .int 4, .int 4]
theorem pair_at {k : Nat} (h : k < 10) : ∃ (a b : Nat) (rA rB : Rule), pairA[k]? = some (.int a) ∧ pairB[k]? = some (.int b) ∧ rulesL[a]? = some rA ∧ rulesL[b]? = some rB ∧ ((k < 4 ∧ rA = .old ∧ others[k]? = some rB) ∨ 4 ≤ k) := by
  match k, h with
  | 0, _ => exact ⟨0, 1, _, _, rfl, rfl, rfl, rfl, .inl ⟨by decide, rfl, rfl⟩⟩
  | 1, _ => exact ⟨0, 2, _, _, rfl, rfl, rfl, rfl, .inl ⟨by decide, rfl, rfl⟩⟩
  | 2, _ => exact ⟨0, 3, _, _, rfl, rfl, rfl, rfl, .inl ⟨by decide, rfl, rfl⟩⟩
  | 3, _ => exact ⟨0, 4, _, _, rfl, rfl, rfl, rfl, .inl ⟨by decide, rfl, rfl⟩⟩
  | 4, _ => exact ⟨1, 2, _, _, rfl, rfl, rfl, rfl, .inr (by decide)⟩
  | 5, _ => exact ⟨1, 3, _, _, rfl, rfl, rfl, rfl, .inr (by decide)⟩
  | 6, _ => exact ⟨1, 4, _, _, rfl, rfl, rfl, rfl, .inr (by decide)⟩
  | 7, _ => exact ⟨2, 3, _, _, rfl, rfl, rfl, rfl, .inr (by decide)⟩
  | 8, _ => exact ⟨2, 4, _, _, rfl, rfl, rfl, rfl, .inr (by decide)⟩
  | 9, _ => exact ⟨3, 4, _, _, rfl, rfl, rfl, rfl, .inr (by decide)⟩
  | n + 10, h => omega
theorem names_at {a : Nat} {r : Rule} (h : rulesL[a]? = some r) : ruleNames[a]? = some (.str r.name) := by
  have e : ruleNames = rulesL.map fun r => V.str r.name := rfl
  rw [e, List.getElem?_map, h]
  rfl
/-- told of the three, apart from a list -/
def O3 (K : PySem.W.Frag) (D : Addr) (X : Hp) (v : V) (S : Sts) : Prop := ∃ t s o m, v = .ref t ∧ X t = some (.tup [.ref s, .ref o, .ref m]) ∧ X s = some (.lst (S.ss.map wV)) ∧ X o = some (.lst (S.os.map wV)) ∧ SqT K X m (S.ws.map wV) ∧ s ≠ D ∧ o ≠ D
theorem O3.mono {K : PySem.W.Frag} {D : Addr} {X Y : Hp} {v : V} {S : Sts} (e : Ex X Y) (h : O3 K D X v S) : O3 K D Y v S := by
  obtain ⟨t, s, o, m, h1, h2, h3, h4, h5, h6, h7⟩ := h
  exact ⟨t, s, o, m, h1, e _ _ h2, e _ _ h3, e _ _ h4, ex_t e h5, h6, h7⟩
theorem O3.set {K : PySem.W.Frag} {D : Addr} {X : Hp} {v : V} {S : Sts} {bs cs : List V} (hD : X D = some (.lst bs)) (h : O3 K D X v S) : O3 K D (upd X D (.lst cs)) v S := by
  obtain ⟨t, s, o, m, h1, h2, h3, h4, h5, h6, h7⟩ := h
  have b : Bt [D] X (upd X D (.lst cs)) := (Bt.refl X).set (by simp)
  have nt : t ≠ D := ne_of h2 hD (by intro z; cases z)
  exact ⟨t, s, o, m, h1, b _ _ (by simp [nt]) h2, b _ _ (by simp [h6]) h3, b _ _ (by simp [h7]) h4, t_but b (by simp [hD]) h5, h6, h7⟩
/-! ### without a clash no rule matters -/
theorem beat_nc {r : Rule} {ws : List Nat} {d e : Deed} (h : clashD d e = false) : beat r ws d e = beat .old ws d e := by
  have cm : ∀ (a b x y : Nat), a ≠ b → (ws.set a x).set b y = (ws.set b y).set a x := fun a b x y n => List.set_comm x y n
  cases d with
  | rs => cases e <;> cases r <;> simp [beat, wrl, rdl]
  | rd c =>
    cases e with
    | rs => cases r <;> simp [beat, wrl, rdl]
    | rd c' => cases r <;> simp [beat, wrl, rdl]
    | wr c' y =>
      have n : c ≠ c' := fun z => by subst z; simp [clashD, Deed.cell, Deed.isW] at h
      cases r <;> simp [beat, wrl, rdl, List.getElem?_set, n, n.symm, List.getD_eq_getElem?_getD]
  | wr c x =>
    cases e with
    | rs => cases r <;> simp [beat, wrl, rdl]
    | rd c' =>
      have n : c ≠ c' := fun z => by subst z; simp [clashD, Deed.cell, Deed.isW] at h
      cases r <;> simp [beat, wrl, rdl, List.getElem?_set, n, n.symm, List.getD_eq_getElem?_getD]
    | wr c' y =>
      have n : c ≠ c' := fun z => by subst z; simp [clashD, Deed.cell, Deed.isW] at h
      cases r <;> simp [beat, wrl, rdl, cm c c' x y n]
theorem getD_tail (l : List Deed) (i : Nat) : l.tail.getD i .rs = l.getD (i + 1) .rs := by cases l <;> simp
theorem runF_nc {r : Rule} : ∀ (n : Nat) (S : Sts), (∀ i, clashD (S.l.getD i .rs) (S.r.getD i .rs) = false) → runF r n S = runF .old n S
  | 0, _, _ => rfl
  | n + 1, S, h => by
    have h0 : clashD (S.l.headD .rs) (S.r.headD .rs) = false := by
      have z := h 0
      rwa [getD_zero, getD_zero] at z
    show runF r n (stepS r S) = runF .old n (stepS .old S)
    by_cases hd : S.done
    · rw [stepS_done hd, stepS_done hd]
      exact runF_nc n S h
    · rw [stepS_of hd, stepS_of hd]
      have w : ∀ q : Rule, waits q S = false := fun q => by unfold waits; rw [h0, Bool.and_false]
      have e : ∀ q : Rule, one q S = after S (beat .old S.ws (S.l.headD .rs) (S.r.headD .rs)) false := fun q => by
        unfold one
        rw [w q, beat_nc h0]
        rfl
      rw [e r, e .old]
      refine runF_nc n _ fun i => ?_
      show clashD (S.l.tail.getD i .rs) (S.r.tail.getD i .rs) = false
      rw [getD_tail, getD_tail]
      exact h (i + 1)
theorem partD_nc {c : Nat} {ds es : List Deed} (h : clashesD ds es = []) : partD c ds es = none := by
  have nc : ∀ i, clashD (ds.getD i .rs) (es.getD i .rs) = false := fun i => by
    by_cases hi : i < min ds.length es.length
    · have z := List.filter_eq_nil_iff.mp h i (List.mem_range.mpr hi)
      simpa using z
    · by_cases h1 : i < ds.length
      · have e : es.getD i .rs = .rs := by rw [List.getD_eq_getElem?_getD, List.getElem?_eq_none (by omega)]; rfl
        rw [e]
        unfold clashD
        cases (ds.getD i .rs).cell <;> rfl
      · have e : ds.getD i .rs = .rs := by rw [List.getD_eq_getElem?_getD, List.getElem?_eq_none (by omega)]; rfl
        rw [e]
        rfl
  refine findSome_no fun j m _ _ => ?_
  rw [partRow_find]
  refine findSome_no fun k r _ _ => ?_
  rw [if_pos ((same3_iff _ _).mpr _)]
  have e : out r (begin0 m ds es) = out .old (begin0 m ds es) := runF_nc _ _ nc
  rw [e]
theorem nice_P {c : Nat} {ds es : List Deed} (hc : c ≤ 4) : Nice 2 (datP (partD c ds es)) := by
  cases h : partD c ds es with
  | none => exact .non
  | some z =>
    obtain ⟨m, r⟩ := z
    have hm : m ∈ mems c := by
      obtain ⟨a, ha, hb⟩ := List.exists_of_findSome?_eq_some h
      unfold partRow at hb
      obtain ⟨x, _, hx⟩ := Option.map_eq_some_iff.mp hb
      cases hx
      exact ha
    have hl := (mems_mem hm).1
    refine .tup (by simp) fun d hd => ?_
    simp only [List.mem_cons, List.not_mem_nil, or_false] at hd
    rcases hd with rfl | rfl | rfl
    · exact nice_wT (by omega)
    · exact .str (by decide +kernel)
    · exact .str (by cases r <;> decide +kernel)
/-- the deeds made over -/
def conv : Deed → Deed
  | .wr _ _ => .wr 0 1
  | _ => .rs
theorem conv_ok {d : Deed} {n : Nat} (h : 0 < n) : (conv d).ok n := by
  cases d with
  | wr c x => exact ⟨h, by decide⟩
  | rd c => exact True.intro
  | rs => exact True.intro
theorem eu_if {t : TT} {ta tb : TE} {σ : L2.St} {H : Hp} {b : Bool} {xs : List V} (h : EvT t σ H b) (h1 : b = true → EvU ta σ H xs) (h2 : b = false → EvU tb σ H xs) : EvU (tIf t ta tb) σ H xs := fun H1 e Q q => h H1 e _ fun H2 e2 => by
  cases b with
  | true =>
    show ta σ H2 Q
    exact h1 rfl H2 (e.trans e2) Q fun p H3 hp e3 h3 => q p H3 (fresh_back e2 hp) (e2.trans e3) h3
  | false =>
    show tb σ H2 Q
    exact h2 rfl H2 (e.trans e2) Q fun p H3 hp e3 h3 => q p H3 (fresh_back e2 hp) (e2.trans e3) h3
theorem conv_at {l : List Deed} {j : Nat} {d : Deed} (h : l[j]? = some d) : (l.take (j + 1)).map conv = (l.take j).map conv ++ [conv d] := by
  rw [List.take_add_one, h, List.map_append]
  rfl
theorem s_ifX {t : TT} {tu tw : TS} {D : Ends} {σ : L2.St} {H : Hp} {R : Bool → Hp → Prop} (h : ∀ Q : Bool → Hp → Prop, (∀ b H2, R b H2 → Q b H2) → t σ H Q) (h1 : ∀ H2, R true H2 → tu D σ H2) (h2 : ∀ H2, R false H2 → tw D σ H2) : tIfS t tu tw D σ H := h _ fun b H2 r => by
  cases b with
  | true =>
    show tu D σ H2
    exact h1 H2 r
  | false =>
    show tw D σ H2
    exact h2 H2 r
theorem s_conv {K : PySem.W.Frag} {i : Nat} {D : Ends} {σ : L2.St} {H : Hp} {p : Addr} {us : List V} {ds : List Deed} (hi : σ[i]? = some (some (.ref p))) (hl : SqL K H p us) (hP : PV K H us ds) (hz : ds.length ≤ 40) (hw : ∀ x, wipe ((wipe σ [9]).set 9 (some x)) [9] = wipe σ [9]) (hx : ∀ x, ((wipe σ [9]).set 9 (some x))[9]? = some (some x))
    (k : ∀ p' us' H', H p' = none → Ex H H' → H' p' = some (.lst us') → PV K H' us' (ds.map conv) → D.nx (σ.set i (some (.ref p'))) H') :
    tAsg (tLc (iList K (tVar i)) (gName 9) tYes (tIf (tTest (tOp rEq (tOp (rIxT K) (tVar 9) (tC (.int 0))) (tC (.str "write")))) (tTup (tCons (tC (.str "write")) (tCons (tC (.int 0)) (tCons (tC (.int 1)) tNil)))) (tTup (tCons (tC (.str "rest")) tNil))) [9]) (gName i) D σ H := by
  refine ⟨_, hi, p, rfl, ⟨us, hl⟩, fun L hL => ?_⟩
  have hlen := hP.length
  refine it_list (xs := us) (fun j X => ∃ bs, X L = some (.lst bs) ∧ PV K X bs ((ds.take j).map conv) ∧ Ex H X ∧ bs.length = j) ⟨[], upd_same, .nil, Ex.new hL, rfl⟩ (fun j X _ ⟨_, _, _, e, _⟩ => ex_l e hl) ?_ ?_
  · rintro j x X hj ⟨bs, hb, hB, eX, hn⟩
    have hju := (List.getElem?_eq_some_iff.mp hj).1
    obtain ⟨d, hd, a, rfl, hv⟩ := (hP.mono eX).get hj
    refine gn ?_
    refine ⟨hw _, ?_⟩
    have wd : decide (V.str d.tag = V.str "write") = d.isW := by
      cases d with
      | rd c => exact (by decide +kernel : decide (V.str "read" = V.str "write") = false)
      | wr c x => exact (by decide +kernel : decide (V.str "write" = V.str "write") = true)
      | rs => exact (by decide +kernel : decide (V.str "rest" = V.str "write") = false)
    have ev : EvU (tIf (tTest (tOp rEq (tOp (rIxT K) (tVar 9) (tC (.int 0))) (tC (.str "write")))) (tTup (tCons (tC (.str "write")) (tCons (tC (.int 0)) (tCons (tC (.int 1)) tNil)))) (tTup (tCons (tC (.str "rest")) tNil))) ((wipe σ [9]).set 9 (some (.ref a))) X (conv d).vals :=
      eu_if (b := d.isW) (et_test (ev_is (ev_op (x := .str d.tag) (y := .str "write") (ev_op (ev_var (hx _)) ev_c (DV.tag hv)) ev_c (rv_eq rfl)) (by rw [wd])))
        (fun hb => by
          cases d with
          | wr c x => exact eu_tup (vs := [.str "write", .int 0, .int 1]) (ea_cons ev_c (ea_cons ev_c (ea_cons ev_c ea_nil))) (by simp)
          | rd c => cases hb
          | rs => cases hb)
        (fun hb => by
          cases d with
          | wr c x => cases hb
          | rd c => exact eu_tup (vs := [.str "rest"]) (ea_cons ev_c ea_nil) (by simp)
          | rs => exact eu_tup (vs := [.str "rest"]) (ea_cons ev_c ea_nil) (by simp))
    refine ev X (Ex.refl X) _ fun t Y nt eY ht => ?_
    have hb2 := eY _ _ hb
    have b2 : Bt [L] Y (upd Y L (.lst (bs ++ [.ref t]))) := (Bt.refl Y).set (by simp)
    have l2 : ∀ q ∈ [L], ∃ us, Y q = some (.lst us) := by simp [hb2]
    refine ⟨bs, hb2, by show bs.length < 2 ^ 24; omega, bs ++ [.ref t], upd_same, ?_, (eX.trans eY).mut hL, by rw [List.length_append, hn]; rfl⟩
    rw [conv_at hd]
    exact (pv_buts b2 l2 (hB.mono eY)).append (.cons ⟨t, rfl, t_but b2 l2 (SqT.of ht)⟩ .nil)
  · rintro X ⟨bs, hb, hB, eX, hn⟩
    rw [hlen, List.take_length] at hB
    exact gn (k L bs X hL eX hb hB)
theorem q_conv {K : PySem.W.Frag} {i : Nat} {tz : TS} {D : Ends} {σ : L2.St} {H : Hp} {p : Addr} {us : List V} {ds : List Deed} (hi : σ[i]? = some (some (.ref p))) (hl : SqL K H p us) (hP : PV K H us ds) (hz : ds.length ≤ 40) (hw : ∀ x, wipe ((wipe σ [9]).set 9 (some x)) [9] = wipe σ [9]) (hx : ∀ x, ((wipe σ [9]).set 9 (some x))[9]? = some (some x))
    (k : ∀ p' us' H', H p' = none → Ex H H' → H' p' = some (.lst us') → PV K H' us' (ds.map conv) → tz D (σ.set i (some (.ref p'))) H') :
    tSeq (tAsg (tLc (iList K (tVar i)) (gName 9) tYes (tIf (tTest (tOp rEq (tOp (rIxT K) (tVar 9) (tC (.int 0))) (tC (.str "write")))) (tTup (tCons (tC (.str "write")) (tCons (tC (.int 0)) (tCons (tC (.int 1)) tNil)))) (tTup (tCons (tC (.str "rest")) tNil))) [9]) (gName i)) tz D σ H :=
  s_conv (D := { D with nx := tz D }) hi hl hP hz hw hx k
theorem eqv_list_w (a b : List Nat) : PyData.eqv (.list (wD a)) (.list (wD b)) = decide (a = b) := by simp only [PyData.eqv, eqvA_w]
section
variable {tz : TS} {D : Ends} {σ : L2.St} {H : Hp}
/-- a test whose value comes with what is made on the way -/
theorem q_whenX {t : TT} {tu : TS} {R : Hp → Prop} (h : ∀ Q : Bool → Hp → Prop, (∀ H2, R H2 → Q false H2) → t σ H Q) (k : ∀ H2, R H2 → tz D σ H2) : tSeq (tIfS t tu tNext) tz D σ H := h _ fun H2 r => k H2 r
theorem s_whenX {t : TT} {tu : TS} {R : Hp → Prop} (h : ∀ Q : Bool → Hp → Prop, (∀ H2, R H2 → Q false H2) → t σ H Q) (k : ∀ H2, R H2 → D.nx σ H2) : tIfS t tu tNext D σ H := h _ fun H2 r => k H2 r
end
section
variable {K : PySem.W.Frag} {σ : L2.St} {H : Hp} {ta te tb tw : TE} {t : TT} {tu : TS} {D : Ends} {tz : TS}
theorem el_rep {xs : List V} {n : Nat} (h : EvL te σ H xs) (hb : Ev tb σ H (.int n)) (hz : xs.length * n ≤ 100000) (hn : n ≤ 100000) : EvL (tOp rRep te tb) σ H (List.replicate n xs).flatten := fun H1 e Q q =>
  h H1 e _ fun p H2 hp e2 hx => hb H2 (e.trans e2) _ fun H3 e3 => ⟨p, n, xs, rfl, rfl, e3 _ _ hx, by omega, by omega, by rw [Int.toNat_natCast]; exact sz_of hz, fun p' hp' => by
    rw [Int.toNat_natCast]
    exact q p' _ (fresh_back (e2.trans e3) hp') ((e2.trans e3).trans (Ex.new hp')) upd_same⟩
theorem el_catN {xs ys : List V} (ha : EvL ta σ H xs) (hb : EvL tb σ H ys) (hz : xs.length + ys.length ≤ 100000) : EvL (tOp rCat ta tb) σ H (xs ++ ys) := fun H1 e Q q =>
  ha H1 e _ fun p H2 hp e2 hx => hb H2 (e.trans e2) _ fun p' H3 hp' e3 hy => ⟨p, p', xs, ys, rfl, rfl, e3 _ _ hx, hy, sz_of hz, fun p2 hp2 => q p2 _ (fresh_back (e2.trans e3) hp2) ((e2.trans e3).trans (Ex.new hp2)) upd_same⟩
/-- a while whose test draws -/
theorem s_whileX (W : Nat → L2.St → Hp → Prop) (m0 : Nat) (h0 : W m0 σ H)
    (hs : ∀ m σ' H', W m σ' H' → ∃ R : Bool → Hp → Prop, (∀ Q : Bool → Hp → Prop, (∀ b H1, R b H1 → Q b H1) → t σ' H' Q) ∧ (∀ H1, R true H1 → ∃ N : L2.St → Hp → Prop, (∀ σ2 H2, N σ2 H2 → ∃ m', m' < m ∧ W m' σ2 H2) ∧ tu { D with nx := N, ct := N, bk := D.nx } σ' H1) ∧ (∀ H1, R false H1 → D.nx σ' H1)) : tWhile t tu D σ H :=
  ⟨W, ⟨m0, h0⟩, fun m σ' H' hw => by
    obtain ⟨R, hb, h1, h2⟩ := hs m σ' H' hw
    refine hb _ fun b H1 r => ?_
    cases b with
    | true => exact h1 H1 r
    | false => exact h2 H1 r⟩
end
theorem cut_from {α : Type} (us : List α) (i : Nat) (g : List α → Option Int → Option Int → List α) (hg : ∀ l a b, g l a b = (l.drop (HT.sIx l.length 0 a)).take (HT.sIx l.length l.length b - HT.sIx l.length 0 a)) : g us (some (i : Int)) none = us.drop i := by
  have e1 : HT.sIx us.length 0 (some (i : Int)) = min i us.length := HT.sIx_nat _ _ _
  have e2 : HT.sIx us.length us.length none = us.length := HT.sIx_none _ _
  rw [hg, e1, e2]
  by_cases h : i ≤ us.length
  · rw [Nat.min_eq_left h, List.take_of_length_le (by rw [List.length_drop]; exact Nat.le_refl _)]
  · rw [Nat.min_eq_right (by omega), List.drop_of_length_le (Nat.le_refl _), List.drop_of_length_le (by omega)]
    simp
theorem cut_to {α : Type} (us : List α) (i : Nat) (g : List α → Option Int → Option Int → List α) (hg : ∀ l a b, g l a b = (l.drop (HT.sIx l.length 0 a)).take (HT.sIx l.length l.length b - HT.sIx l.length 0 a)) : g us none (some (i : Int)) = us.take i := by
  have e1 : HT.sIx us.length 0 none = 0 := HT.sIx_none _ _
  have e2 : HT.sIx us.length us.length (some (i : Int)) = min i us.length := HT.sIx_nat _ _ _
  rw [hg, e1, e2, List.drop_zero, Nat.sub_zero, ← List.take_eq_take_min]
theorem cutV_from (us : List V) (i : Nat) : cutV us (some (i : Int)) none = us.drop i := cut_from us i cutV fun _ _ _ => rfl
theorem cutV_to (us : List V) (i : Nat) : cutV us none (some (i : Int)) = us.take i := cut_to us i cutV fun _ _ _ => rfl
section
variable {K : PySem.W.Frag} {σ : L2.St} {H : Hp} {to te : TE}
theorem ev_m1 {r : V → List V → Hp → VK → Prop} {a : Str} {y z : V} (h1 : Ev to σ H (.str a)) (h2 : Ev te σ H y) (hr : ∀ H1, Ex H H1 → ∀ Q : VK, (∀ H2, Ex H1 H2 → Q z H2) → r (.str a) [y] H1 Q) : Ev (tM1 r to te) σ H z := fun H1 e Q q =>
  h1 H1 e _ fun H2 e2 => ⟨⟨a, rfl⟩, h2 H2 (e.trans e2) _ fun H3 e3 => hr H3 ((e.trans e2).trans e3) Q fun H4 e4 => q H4 ((e2.trans e3).trans e4)⟩
end
end Db

namespace Zen
open PySem PySem.Spec PyProof.Rows L2
/-! enumerate of a text -/
def IteS (x : Str) : It :=
  ⟨fun i _ => i < x.cps.size, fun i H v H' => ∃ T c, v = .ref T ∧ H T = none ∧ H' = L2.upd H T (.tup [.int (i : Nat), .str ⟨#[c]⟩]) ∧ x.cps[i]? = some c, fun i _ => i = x.cps.size⟩
theorem draws_str {prog : Program} {w : World} {A : Around} (hh : A.handled = none) (it : Addr) (x : Str) (t : Tok) (ty : String) (hty : ty = "str_ascii_iterator" ∨ ty = "str_iterator") :
    Draws prog w A it [it] x.cps.size (fun i v => ∃ c u, x.cps[i]? = some c ∧ v = .str ⟨#[c]⟩ u) (fun i h => h.IsStrIter it ty x t i) := by
  rcases hty with rfl | rfl
  · exact Draws.strAscii hh it x t
  · exact Draws.strWide hh it x t
theorem turn_enumS {P : Program} {w : World} {K : PySem.W.Frag} {elts : List Expr} {kk : Nat} {tpos : Pos} (x : Str) (t : Tok) (ty : String) (hty : ty = "str_ascii_iterator" ∨ ty = "str_iterator") (e it : Addr) :
    Turn P w K (.Tuple elts kk tpos) (IteS x) [e, it] e (fun i h => (∃ old, IsEnum h e it ((i : Nat) : Int) old) ∧ h.IsStrIter it ty x t i ∧ e ≠ it) where
  mem := by simp
  obj := fun i h st b hb => by
    obtain ⟨⟨old, he⟩, ⟨o, ho, hc, hd⟩, _⟩ := st
    have e' : b = e ∨ b = it := by simpa using hb
    rcases e' with z | z
    · rw [z]; exact ⟨_, he, fun v q => nomatch q⟩
    · rw [z]; exact ⟨o, ho, fun v q => by rw [hd] at q; cases q⟩
  keep := fun i h h' st k => let ⟨⟨old, he⟩, ⟨o, ho, r⟩, hne⟩ := st; ⟨⟨old, k e (by simp) _ he⟩, ⟨o, k it (by simp) o ho, r⟩, hne⟩
  item := by
    intro X hP hw hK hc i pins s σ H E I hf st hg
    subst hP hw hK
    obtain ⟨⟨old, he⟩, hit, hne⟩ := st
    have hel : e < s.heap.objs.size := Heap.lt_size he
    have hil : it < s.heap.objs.size := by obtain ⟨_, q, _⟩ := hit; exact Heap.lt_size q
    refine wpAny_pyNext_enum_itemD (draws_str (prog := X.prog) (w := X.w) (A := X.A.in1) (I.ok.hd hc) it x t ty hty) he hit hg hne (by simpa using hne) fun v h' tk hv ho hit' hT hsz hk => ?_
    obtain ⟨c, u, hcx, rfl⟩ := hv
    refine ⟨_, rfl, wpAny_letOwnedTupleGo_enum (s := { s with heap := h', toks := tk + 1 }) ho fun h'' he' sb => ?_⟩
    have hT2 : h''.get? s.heap.objs.size = some { cls := .type "tuple", data := .seq #[.int i tk, .str ⟨#[c]⟩ u] } := (sb.2 _ (Nat.ne_of_gt hel)).trans hT
    have new : ObjOk X.prog X.w (L2.upd H s.heap.objs.size (.tup [.int (i : Nat), .str ⟨#[c]⟩])) h'' s.heap.objs.size (.tup [.int (i : Nat), .str ⟨#[c]⟩]) :=
      ⟨by show 2 ≤ sizeLine; decide, [.int i tk, .str ⟨#[c]⟩ u], .cons ⟨_, rfl⟩ (.cons ⟨_, rfl⟩ .nil), ⟨_, hT2, rfl, _, rfl⟩⟩
    have I1 : Inv X pins σ (L2.upd H s.heap.objs.size (.tup [.int (i : Nat), .str ⟨#[c]⟩])) { s with heap := h'', toks := tk + 1 } :=
      I.turnedNew (ch := [e, it]) (fun b ob hb q => (sb.2 b (fun z => hb (by simp [z]))).trans (hk b ob (fun z => hb (by simp [z])) (fun z => hb (by simp [z])) q)) hf (Nat.le_refl _) new
    refine ⟨.ref s.heap.objs.size, _, I1, rfl, ⟨_, c, rfl, I.hok.fresh (Nat.le_refl _), rfl, hcx⟩, ⟨⟨.str ⟨#[c]⟩ u, ?_⟩, ?_, hne⟩, fun b hb => ?_⟩
    · have e1 : ((i + 1 : Nat) : Int) = (i : Int) + 1 := by omega
      rw [e1]; exact he'
    · obtain ⟨o, ho2, r⟩ := hit'
      exact ⟨o, (sb.2 it (Ne.symm hne)).trans ho2, r⟩
    · have hb' : b < s.heap.objs.size := by
        have e' : b = e ∨ b = it := by simpa using hb
        rcases e' with z | z
        · rw [z]; exact hel
        · rw [z]; exact hil
      rw [upd_ne (Nat.ne_of_lt hb')]
      exact (hf b hb).1
  done := by
    intro X hP hw hK hc i pins s σ H E I hf st hg
    subst hP hw hK
    obtain ⟨⟨old, he⟩, hit, hne⟩ := st
    obtain ⟨f0, f1, f2, f3, f4, f5⟩ := hf it (by simp)
    cases hg
    exact wpAny_pyNext_enum_endD (draws_str (prog := X.prog) (w := X.w) (A := X.A.in1) (I.ok.hd hc) it x t ty hty) he hit fun h' eb => ⟨rfl, I.turned (t' := s.toks) (fun b o hb q => eb b o hb q) f0 f1 f3 f4 f5⟩
  self := fun A i s Q E st h => let ⟨⟨_, he⟩, _⟩ := st; wpAny_pyIter_enum he h

def iEnumS (ta : TA) : TI := fun σ H R => ta σ H fun vs H1 => ∃ x, vs = [.str x] ∧ R (IteS x) H1
theorem ty_iter (x : Str) : strIterType x = "str_ascii_iterator" ∨ strIterType x = "str_iterator" := by
  unfold strIterType
  split
  · exact .inl rfl
  · exact .inr rfl
theorem pi_enumS {X : Cx} {e : Expr} {ta : TA} {p pos tpos : Pos} {elts : List Expr} {kk : Nat} (hg : Gl X "enumerate") (hm : X.mg "enumerate" = none) (ha : PA X [e] ta) (hs : starEach [e] X.env = [(false, eval e X.env)] := by rfl) :
    PI X (.Tuple elts kk tpos) (.Call (.Name "enumerate" p) [e] [] pos) (iEnumS ta) := by
  refine ⟨fun pins s σ H R I h => ?_⟩
  refine Call_ (ld_blt I hg hm boot_enumerate (PyProof.Rows.callWith_type1 (thn (ha.run pos pins s σ H _ I h) fun us s1 ⟨vs, H1, I1, r1, q1⟩ => ?_) hs rfl))
  obtain ⟨x, ex, q⟩ := q1
  subst ex
  cases r1 with
  | cons r rr =>
    cases rr
    obtain ⟨t, rfl⟩ := r
    refine call_enumerate_str fun h' he hit hsz hk => wpAny_pyIter_enum he ?_
    have I2 : Inv X pins σ H1 { s1 with heap := h' } := I1.kept (t' := s1.toks) hk
    refine ⟨s1.heap.objs.size + 1, [s1.heap.objs.size + 1, s1.heap.objs.size], _, _, H1, rfl, I2, turn_enumS x t (strIterType x) (ty_iter x) (s1.heap.objs.size + 1) s1.heap.objs.size, ⟨⟨.none, he⟩, hit, Nat.succ_ne_self _⟩, fun b hb => ?_, q⟩
    have e' : b = s1.heap.objs.size + 1 ∨ b = s1.heap.objs.size := by simpa using hb
    have hle : s1.heap.objs.size ≤ b := by
      rcases e' with z | z
      · rw [z]; exact Nat.le_add_right _ _
      · rw [z]; exact Nat.le_refl _
    exact I1.fpOk hle (I1.hok.fresh hle)
theorem walk_enumS {x : Str} : Walk (IteS x) x.cps.size (fun _ => True) (YPair (fun i => some (.int (i : Nat))) (fun i => x.cps[i]?.map fun c => .str ⟨#[c]⟩)) := by
  refine ⟨fun i _ hi _ => hi, fun _ _ => rfl, fun i H v H' _ q y => ?_⟩
  obtain ⟨T, c, h1, h2, h3, h4⟩ := y
  exact ⟨T, .int (i : Nat), _, h1, h2, h3, rfl, by show x.cps[i]?.map _ = _; rw [h4]; rfl⟩
end Zen
namespace Zen
open PySem PySem.Spec PyProof.Rows L2
/-! a text times a number -/
theorem reps_one (c : Nat) : ∀ (k : Nat) (acc : Array Nat), (List.replicate k #[c]).foldl (· ++ ·) acc = acc ++ (List.replicate k c).toArray
  | 0, acc => by simp
  | k + 1, acc => by
    rw [List.replicate_succ, List.foldl_cons, reps_one c k]
    apply Array.ext'
    simp [List.replicate_succ]
theorem op_mulS {X : Cx} : OpR X (binaryOp .Mult) (fun x y H Q => ∃ (c n : Nat), x = .str ⟨#[c]⟩ ∧ y = .int n ∧ n ≤ 100000 ∧ Q (.str ⟨(List.replicate n c).toArray⟩) H) := by
  intro pins s σ H x y v u Q I rx ry h
  obtain ⟨c, n, rfl, rfl, hz, q⟩ := h
  obtain ⟨t, rfl⟩ := rx
  obtain ⟨t', rfl⟩ := ry
  have hl : (⟨#[c]⟩ : Str).length = 1 := rfl
  obtain ⟨m1, m2, m3⟩ := mulOk_of (x := ⟨#[c]⟩) (n := (n : Int)) 1 100000 (by rw [hl]; exact Nat.le_refl _) (by omega) (by omega) (by decide) (by decide)
  refine P.mul_str m1 m2 m3 ?_
  by_cases h1 : (n : Int) < 1
  · rw [if_pos h1]
    have e : n = 0 := by omega
    subst e
    exact ⟨by decide, ⟨.str Str.empty, H, I.tok _, ⟨_, rfl⟩, q⟩⟩
  · rw [if_neg h1]
    by_cases h2 : ((n : Int) == 1 || (⟨#[c]⟩ : Str).length == 0) = true
    · rw [if_pos h2]
      have e : n = 1 := by
        rw [hl] at h2
        simp at h2
        omega
      subst e
      exact ⟨.str ⟨#[c]⟩, H, I, ⟨_, rfl⟩, q⟩
    · rw [if_neg h2]
      have e : (⟨(List.replicate (n : Int).toNat (⟨#[c]⟩ : Str).cps).foldl (· ++ ·) #[]⟩ : Str) = ⟨(List.replicate n c).toArray⟩ := by
        have z := reps_one c n #[]
        rw [Int.toNat_natCast]
        show (⟨(List.replicate n #[c]).foldl (· ++ ·) #[]⟩ : Str) = _
        rw [z]
        simp
      rw [e]
      refine ⟨?_, ⟨.str ⟨(List.replicate n c).toArray⟩, H, I.tok _, ⟨_, rfl⟩, q⟩⟩
      show (⟨(List.replicate n c).toArray⟩ : Str).length ≤ sizeLine
      unfold Str.length
      simp
      exact Nat.le_trans hz (by decide)
end Zen

namespace Db
open PySem L2 Evl StX
/-! ### orders: false for l, true for r -/
def sgn (b : Bool) : Nat := if b then 114 else 108
def oS (o : List Bool) : Str := ⟨(o.map sgn).toArray⟩
theorem oS_l : ("l" : Str) = oS [false] := by decide +kernel
theorem oS_r : ("r" : Str) = oS [true] := by decide +kernel
theorem oS_nil : ("" : Str) = oS [] := by decide +kernel
theorem oS_app (a b : List Bool) : oS a ++ oS b = oS (a ++ b) := by
  show Str.append _ _ = _
  unfold Str.append oS
  simp
theorem oS_len (a : List Bool) : (oS a).length = a.length := by
  unfold oS Str.length
  simp
theorem oS_size (a : List Bool) : (oS a).cps.size = a.length := by
  unfold oS
  simp
theorem oS_at (a : List Bool) (i : Nat) : (oS a).cps[i]? = a[i]?.map sgn := by
  unfold oS
  simp
theorem oS_one (b : Bool) : (⟨#[sgn b]⟩ : Str) = oS [b] := rfl
theorem sgn_inj {a b : Bool} (h : sgn a = sgn b) : a = b := by
  revert h
  cases a <;> cases b <;> decide
theorem oS_inj {a b : List Bool} (h : oS a = oS b) : a = b := by
  unfold oS at h
  injection h with h
  injection h with h
  exact (List.map_inj_right fun _ _ => sgn_inj).mp h
theorem oS_is (a b : List Bool) : decide (V.str (oS a) = V.str (oS b)) = decide (a = b) :=
  decide_eq_decide.mpr ⟨fun h => oS_inj (V.str.inj h), fun h => by rw [h]⟩
theorem cnt_oS (a : List Bool) (b : Bool) : PyProof.Rows.cnt (sgn b) (a.map sgn) = (a.count b : Int) := by
  induction a with
  | nil => rfl
  | cons x r ih =>
    rw [List.map_cons, PyProof.Rows.cnt_cons, ih, List.count_cons]
    by_cases h : x = b
    · subst h
      simp
      omega
    · have h2 : ¬ sgn x = sgn b := fun z => h (sgn_inj z)
      simp [h, h2]
theorem oS_count (a : List Bool) (b : Bool) : Txt.count (oS a) (oS [b]) = (a.count b : Int) := by
  have h := PyProof.Rows.count_cnt (oS a) (sgn b)
  have e : (oS a).cps.toList = a.map sgn := by unfold oS; simp
  rw [e, cnt_oS] at h
  exact h
theorem oS_cut (a : List Bool) (k : Nat) : cutS (oS a) none (some (k : Int)) = oS (a.take k) := by
  unfold cutS
  have e : (oS a).cps.toList = a.map sgn := by unfold oS; simp
  have e1 : HT.sIx (oS a).length 0 none = 0 := HT.sIx_none _ _
  have e2 : HT.sIx (oS a).length (oS a).length (some (k : Int)) = min k (oS a).length := HT.sIx_nat _ _ _
  rw [e, e1, e2, oS_len, List.drop_zero, Nat.sub_zero]
  unfold oS
  rw [List.map_take, ← List.length_map (f := sgn) (as := a), ← List.take_eq_take_min]
theorem cnt_both : ∀ o : List Bool, o.count false + o.count true = o.length
  | [] => rfl
  | b :: o => by
    have h := cnt_both o
    cases b
    · rw [List.count_cons_self, List.count_cons_of_ne (by decide), List.length_cons]; omega
    · rw [List.count_cons_self, List.count_cons_of_ne (by decide), List.length_cons]; omega
/-- one deed is done -/
def oneB (S : Sts) (b : Bool) : Sts :=
  if b then { S with ws := wrl S.ws (S.r.headD .rs), r := S.r.tail, os := S.os ++ rdl S.ws (S.r.headD .rs) }
  else { S with ws := wrl S.ws (S.l.headD .rs), l := S.l.tail, ss := S.ss ++ rdl S.ws (S.l.headD .rs) }
/-- one by one in an order -/
def fol (o : List Bool) (S : Sts) : Sts := o.foldl oneB S
theorem fol_nil (S : Sts) : fol [] S = S := rfl
theorem fol_cons (b : Bool) (o : List Bool) (S : Sts) : fol (b :: o) S = fol o (oneB S b) := rfl
theorem fol_app (o u : List Bool) (S : Sts) : fol (o ++ u) S = fol u (fol o S) := List.foldl_append
theorem fol_take {o : List Bool} {k : Nat} {b : Bool} (h : o[k]? = some b) (S : Sts) : fol (o.take (k + 1)) S = oneB (fol (o.take k) S) b := by
  rw [List.take_add_one, h, fol_app]
  rfl
theorem fol_l : ∀ (o : List Bool) (S : Sts), (fol o S).l = S.l.drop (o.count false)
  | [], S => rfl
  | b :: o, S => by
    rw [fol_cons, fol_l o]
    cases b with
    | false =>
      show S.l.tail.drop _ = _
      rw [List.count_cons_self, ← List.drop_one, List.drop_drop, Nat.add_comm]
    | true =>
      show S.l.drop _ = _
      rw [List.count_cons_of_ne (by decide)]
theorem fol_r : ∀ (o : List Bool) (S : Sts), (fol o S).r = S.r.drop (o.count true)
  | [], S => rfl
  | b :: o, S => by
    rw [fol_cons, fol_r o]
    cases b with
    | true =>
      show S.r.tail.drop _ = _
      rw [List.count_cons_self, ← List.drop_one, List.drop_drop, Nat.add_comm]
    | false =>
      show S.r.drop _ = _
      rw [List.count_cons_of_ne (by decide)]
/-- what stays through deeds one by one -/
structure Fit1 (c m : Nat) (S : Sts) : Prop where
  len : S.ws.length = c
  small : ∀ x ∈ S.ws, x < 3
  okl : ∀ d ∈ S.l, d.ok c
  okr : ∀ d ∈ S.r, d.ok c
  ss : S.ss.length ≤ m
  os : S.os.length ≤ m
theorem Fit1.one {c m : Nat} {S : Sts} {b : Bool} (F : Fit1 c m S) : Fit1 c (m + 1) (oneB S b) := by
  have h1 := F.ss
  have h2 := F.os
  cases b with
  | false =>
    refine ⟨(wrl_length _ _).trans F.len, wrl_small F.small (ok_headD F.okl), fun d hd => F.okl d (mem_tail hd), F.okr, ?_, by show S.os.length ≤ m + 1; omega⟩
    show (S.ss ++ _).length ≤ m + 1
    have := rdl_length S.ws (S.l.headD .rs)
    rw [List.length_append]; omega
  | true =>
    refine ⟨(wrl_length _ _).trans F.len, wrl_small F.small (ok_headD F.okr), F.okl, fun d hd => F.okr d (mem_tail hd), by show S.ss.length ≤ m + 1; omega, ?_⟩
    show (S.os ++ _).length ≤ m + 1
    have := rdl_length S.ws (S.r.headD .rs)
    rw [List.length_append]; omega
theorem Fit1.begin0 {c : Nat} {ws : List Nat} {l r : List Deed} (h1 : ws.length = c) (h2 : ∀ x ∈ ws, x < 3) (h3 : ∀ d ∈ l, d.ok c) (h4 : ∀ d ∈ r, d.ok c) : Fit1 c 0 (begin0 ws l r) := ⟨h1, h2, h3, h4, Nat.le_refl _, Nat.le_refl _⟩
theorem Fit1.fol {c : Nat} : ∀ (o : List Bool) (m : Nat) (S : Sts), Fit1 c m S → Fit1 c (m + o.length) (Db.fol o S)
  | [], _, _, F => F
  | b :: o, m, S, F => by
    have h := Fit1.fol o _ _ (F.one (b := b))
    rw [fol_cons, List.length_cons, show m + (o.length + 1) = m + 1 + o.length by omega]
    exact h
/-- what ordered tells: three tuples -/
def Told3 (K : PySem.W.Frag) (H : Hp) (v : V) (S : Sts) : Prop := ∃ t s o m : Addr, v = .ref t ∧ SqT K H t [.ref s, .ref o, .ref m] ∧ SqT K H s (S.ss.map wV) ∧ SqT K H o (S.os.map wV) ∧ SqT K H m (S.ws.map wV)
theorem Told3.mono {K : PySem.W.Frag} {H H' : Hp} {v : V} {S : Sts} (e : Ex H H') (h : Told3 K H v S) : Told3 K H' v S := by
  obtain ⟨t, s, o, m, h1, h2, h3, h4, h5⟩ := h
  exact ⟨t, s, o, m, h1, ex_t e h2, ex_t e h3, ex_t e h4, ex_t e h5⟩
def datQ (S : Sts) : PyData := .tuple [.tuple (wD S.ss), .tuple (wD S.os), .tuple (wD S.ws)]
theorem Told3.dp {K : PySem.W.Frag} {H : Hp} {v : V} {S : Sts} (h : Told3 K H v S) : Dp K H v (datQ S) := by
  obtain ⟨t, s, o, m, rfl, h2, h3, h4, h5⟩ := h
  exact .tup h2 (.cons (.tup h3 (dpa_w _)) (.cons (.tup h4 (dpa_w _)) (.cons (.tup h5 (dpa_w _)) .nil)))
theorem eqv_q (S U : Sts) : PyData.eqv (datQ S) (datQ U) = decide (t3 S = t3 U) := by
  have e : decide (t3 S = t3 U) = same3 S U := by
    rw [Bool.eq_iff_iff, decide_eq_true_iff, same3_iff]
  rw [e]
  unfold datQ same3
  simp only [PyData.eqv, PyData.eqvAll, eqvA_w, Bool.and_true]
theorem sh_q (S : Sts) : Sh 2 (datQ S) := sh_tup fun d hd => by
  simp only [List.mem_cons, List.not_mem_nil, or_false] at hd
  rcases hd with rfl | rfl | rfl <;> exact sh_wT _
theorem nice_q {c m : Nat} {S : Sts} (F : Fit1 c m S) (hc : c ≤ 4) (hm : m ≤ 1000) : Nice 2 (datQ S) := by
  have h1 := F.ss
  have h2 := F.os
  have h3 := F.len
  refine .tup (by simp) fun d hd => ?_
  simp only [List.mem_cons, List.not_mem_nil, or_false] at hd
  rcases hd with rfl | rfl | rfl <;> exact nice_wT (by omega)
/-! one program behind the other, by the rule new -/
theorem fol_left : ∀ (ds es : List Deed) (ws ss os : List Nat) (n m : Nat), t3 (out .new ⟨ws, ds, List.replicate ds.length .rs ++ es, ss, os, n⟩) = t3 (fol (List.replicate ds.length false ++ List.replicate es.length true) ⟨ws, ds, es, ss, os, m⟩)
  | [], [], ws, ss, os, n, m => by
    show t3 (out .new ⟨ws, [], [], ss, os, n⟩) = _
    rw [out_done ⟨rfl, rfl⟩]
    rfl
  | [], e :: es, ws, ss, os, n, m => by
    have nd : ¬ (Sts.mk ws [] (e :: es) ss os n).done := fun z => nomatch z.2
    have h := fol_left [] es (wrl ws e) ss (os ++ rdl ws e) (n + 1) m
    show t3 (out .new ⟨ws, [], e :: es, ss, os, n⟩) = _
    rw [← out_one nd]
    have w : waits .new (Sts.mk ws [] (e :: es) ss os n) = false := rfl
    have e1 : one .new (Sts.mk ws [] (e :: es) ss os n) = ⟨wrl ws e, [], es, ss, os ++ rdl ws e, n + 1⟩ := by
      unfold one
      rw [w]
      show after _ (beat .new ws .rs e) false = _
      have e2 : beat .new ws .rs e = (wrl ws e, [], rdl (wrl ws e) e) := rfl
      rw [e2, rdl_wrl]
      simp [after]
    rw [e1]
    exact h
  | d :: ds, es, ws, ss, os, n, m => by
    have nd : ¬ (Sts.mk ws (d :: ds) (.rs :: (List.replicate ds.length .rs ++ es)) ss os n).done := fun z => nomatch z.1
    have h := fol_left ds es (wrl ws d) (ss ++ rdl ws d) os (n + 1) m
    show t3 (out .new ⟨ws, d :: ds, .rs :: (List.replicate ds.length .rs ++ es), ss, os, n⟩) = _
    rw [← out_one nd]
    have w : waits .new (Sts.mk ws (d :: ds) (.rs :: (List.replicate ds.length .rs ++ es)) ss os n) = false := rfl
    have e1 : one .new (Sts.mk ws (d :: ds) (.rs :: (List.replicate ds.length .rs ++ es)) ss os n) = ⟨wrl ws d, ds, List.replicate ds.length .rs ++ es, ss ++ rdl ws d, os, n + 1⟩ := by
      unfold one
      rw [w]
      show after _ (beat .new ws d .rs) false = _
      have e2 : beat .new ws d .rs = (wrl ws d, rdl (wrl ws d) d, []) := rfl
      rw [e2, rdl_wrl]
      simp [after]
    rw [e1]
    exact h
theorem oS_rep (b : Bool) (n : Nat) : (⟨(List.replicate n (sgn b)).toArray⟩ : Str) = oS (List.replicate n b) := by
  unfold oS
  rw [List.map_replicate]
theorem rv_mulS {H : Hp} {b : Bool} {n : Nat} (h : n ≤ 100000) : RV (fun x y H Q => ∃ (c n : Nat), x = V.str ⟨#[c]⟩ ∧ y = V.int n ∧ n ≤ 100000 ∧ Q (.str ⟨(List.replicate n c).toArray⟩) H) (.str (oS [b])) (.int n) H (.str (oS (List.replicate n b))) := fun H1 _ Q q =>
  ⟨sgn b, n, rfl, rfl, h, by rw [oS_rep]; exact q H1 (Ex.refl H1)⟩
/-- the written signs of the orders' file -/
structure TxO (mg : Str → Option Value) (t1 t2 : Tok) : Prop where
  g_LEFT : mg "LEFT" = some (.str "l" t1)
  g_RIGHT : mg "RIGHT" = some (.str "r" t2)
theorem txo_mk {K : PySem.W.Frag} {h : Heap} {mg : Str → Option Value} {t1 t2 : Tok} (X : K.In h) (G : h.Ns mainGlobals mg) (a1 : PySem.W.nsIn K mainGlobals "LEFT" = some (some (.str "l" t1))) (a2 : PySem.W.nsIn K mainGlobals "RIGHT" = some (some (.str "r" t2))) : TxO mg t1 t2 :=
  ⟨PySem.W.mg_of X G a1, PySem.W.mg_of X G a2⟩
section
variable {K : PySem.W.Frag} {σ : L2.St} {H : Hp} {to te : TE}
theorem ev_countO {o : List Bool} {b : Bool} {n : Nat} (h1 : Ev to σ H (.str (oS o))) (h2 : Ev te σ H (.str (oS [b]))) (h : o.count b = n) :
    Ev (tM1 (fun x xs H Q => ∃ a b, x = .str a ∧ xs = [.str b] ∧ Q (.int (Txt.count a b)) H) to te) σ H (.int n) :=
  ev_m1 h1 h2 fun H1 _ Q q => ⟨_, _, rfl, rfl, by rw [oS_count, h]; exact q H1 (Ex.refl H1)⟩
theorem rc_lenO {o : List Bool} (h : o.length ≤ 100000) : RC (fun xs H Q => ∃ x n, xs = [x] ∧ LenV K x H n ∧ Q (.int n) H) [.str (oS o)] H (.int o.length) := fun H1 _ Q q => ⟨_, o.length, rfl, ⟨sz_of (by rw [oS_len]; exact h), (oS_len o).symm⟩, q H1 (Ex.refl H1)⟩
end
section
variable {K : PySem.W.Frag} {σ : L2.St} {H : Hp} {ta te tb : TE}
/-- a cell of a new tuple -/
theorem ev_ixNewT {xs : List V} {v : V} {i : Int} (h : EvU te σ H xs) (hb : Ev tb σ H (.int i)) (ha : atI xs i = some v) : Ev (tOp (rIxT K) te tb) σ H v := fun H1 e Q q => h H1 e _ fun p H2 hp e2 hx => hb H2 (e.trans e2) _ fun H3 e3 => ⟨p, _, i, _, rfl, rfl, SqT.of (e3 _ _ hx), ha, q H3 (e2.trans e3)⟩
theorem ev_slO {tl th : TO} {o : List Bool} {k : Nat} (h : Ev te σ H (.str (oS o))) (h1 : EvO tl σ H none) (h2 : EvO th σ H (some (k : Int))) (hz : o.length ≤ 100000) : Ev (tSl rSlS te tl th) σ H (.str (oS (o.take k))) := fun H1 e Q q =>
  h H1 e _ fun H2 e2 => h1 H2 (e.trans e2) _ fun H3 e3 => h2 H3 ((e.trans e2).trans e3) _ fun H4 e4 => ⟨_, rfl, sz_of (by rw [oS_len]; exact hz), by rw [oS_cut]; exact q H4 ((e2.trans e3).trans e4)⟩
theorem rv_ixO {o : List Bool} {i : Nat} {b : Bool} (h : o.length ≤ 100000) (ha : o[i]? = some b) : RV rIxS (.str (oS o)) (.int i) H (.str (oS [b])) :=
  rv_ixS (by rw [oS_len]; exact h) (atI_nat (by unfold oS; rw [List.toList_toArray, List.getElem?_map, ha]; rfl))
theorem rc_intB {b : Bool} : RC (fun xs H Q => (∃ i, xs = [V.int i] ∧ Q (.int i) H) ∨ ∃ k, xs = [V.bl k] ∧ Q (.int (if k then 1 else 0)) H) [.bl b] H (.int (if b then 1 else 0)) := fun H1 _ _ q => .inr ⟨b, rfl, q H1 (Ex.refl H1)⟩
end
section
variable {K : PySem.W.Frag} {σ : L2.St} {H : Hp} {ta te tb tw : TE} {D : Ends} {tz : TS}
/-- if the deed in a slot is a read, what stands is put behind a list -/
theorem q_ro {i : Nat} {w rr : Addr} {x : V} {d : Deed} {ws rs : List Nat} (hx : σ[i]? = some (some x)) (dv : DV K H x d) (hw : H w = some (.lst (ws.map wV))) (hr : H rr = some (.lst (rs.map wV))) (nwr : w ≠ rr) (ho : d.ok ws.length) (hz : rs.length ≤ 1000)
    (ht : ∀ H1, Ex H H1 → Ev te σ H1 (.ref rr)) (hwv : ∀ H1, Ex H H1 → Ev tw σ H1 (.ref w)) (k : ∀ H', Bt [rr] H H' → H' w = some (.lst (ws.map wV)) → H' rr = some (.lst ((rs ++ rdl ws d).map wV)) → tz D σ H') :
    tSeq (tIfS (tTest (tOp rEq (tOp (rIxT K) (tVar i) (tC (.int 0))) (tC (.str "read")))) (tDrop (tBM K "list" rAppend te (tCons (tOp (rIxL K) tw (tOp (rIxT K) (tVar i) (tC (.int 1)))) tNil))) tNext) tz D σ H := by
  obtain ⟨a, rfl, h1⟩ := dv
  refine q_when (b := decide (V.str d.tag = V.str "read")) (et_test (ev_op (ev_op (ev_var hx) ev_c (DV.tag h1)) ev_c (rv_eq rfl))) (fun hb H1 f1 => ?_) (fun hb H1 f1 => ?_)
  · cases d with
    | wr c x => exact absurd hb (by show ¬ decide (V.str "write" = V.str "read") = true; decide +kernel)
    | rs => exact absurd hb (by show ¬ decide (V.str "rest" = V.str "read") = true; decide +kernel)
    | rd c =>
      have g1 := ex_t f1 h1
      have gw := f1 _ _ hw
      have gs := f1 _ _ hr
      have hc : c < ws.length := ho
      have hxx : (ws.map wV)[c]? = some (wV (ws.getD c 0)) := by rw [List.getElem?_map, List.getD_eq_getElem?_getD, List.getElem?_eq_getElem hc]; rfl
      refine s_app (l := rr) (v := wV (ws.getD c 0)) gs (ht H1 f1) (ev_op (hwv H1 f1) (ev_op (ev_var hx) ev_c (rv_ixT g1 rfl)) (rv_ixL (SqL.of gw) (atI_nat hxx))) (by rw [List.length_map]; omega) fun H2 f2 => ?_
      refine k _ ((Bt.of_ex (f1.trans f2)).upd (.inl (by simp))) ?_ ?_
      · rw [upd_ne nwr]; exact f2 _ _ gw
      · rw [upd_same, List.map_append]
        rfl
  · refine k _ (Bt.of_ex f1) (f1 _ _ hw) ?_
    cases d with
    | rd c => exact absurd hb (by show ¬ decide (V.str "read" = V.str "read") = false; decide +kernel)
    | wr c x => show H1 rr = some (.lst ((rs ++ []).map wV)); rw [List.append_nil]; exact f1 _ _ hr
    | rs => show H1 rr = some (.lst ((rs ++ []).map wV)); rw [List.append_nil]; exact f1 _ _ hr
end
section
variable {K : PySem.W.Frag} {σ : L2.St} {H : Hp} {ta te tb tw : TE} {D : Ends} {tz : TS}
end
/-- signs, each a text -/
def sV (b : Bool) : V := .str (oS [b])
def sD (o : List Bool) : List PyData := o.map fun b => .str (oS [b])
theorem sD_dp {K : PySem.W.Frag} {H : Hp} : ∀ o : List Bool, DpAll K H (o.map sV) (sD o)
  | [] => .nil
  | b :: r => .cons (.str _) (sD_dp r)
theorem sh_sD (o : List Bool) : Sh 1 (.list (sD o)) := sh_lst fun d hd => by
  obtain ⟨b, _, rfl⟩ := List.mem_map.mp hd
  refine sh_str ?_
  cases b <;> decide +kernel
theorem eqv_sD (o : List Bool) : PyData.eqv (.list (sD o)) (.list []) = decide (o = []) := by
  cases o with
  | nil => simp [sD, PyData.eqv, PyData.eqvAll]
  | cons d r => simp [sD, PyData.eqv, PyData.eqvAll]
theorem reps_flat {α : Type} (x : α) (n : Nat) : (List.replicate n [x]).flatten = List.replicate n x := by
  induction n with
  | zero => rfl
  | succ n ih => rw [List.replicate_succ, List.flatten_cons, ih, List.replicate_succ]; rfl
theorem count_rep (a b : Bool) (n : Nat) : (List.replicate n a).count b = if a = b then n else 0 := by
  rw [List.count_replicate]
  cases a <;> cases b <;> rfl
theorem count_erase {o : List Bool} {i : Nat} {b : Bool} (h : o[i]? = some b) (c : Bool) : (o.eraseIdx i).count c + [b].count c = o.count c := by
  obtain ⟨hi, rfl⟩ := List.getElem?_eq_some_iff.mp h
  rw [List.eraseIdx_eq_take_drop_succ, List.count_append]
  conv => rhs; rw [← List.take_append_drop i o, List.count_append, List.drop_eq_getElem_cons hi]
  rw [List.count_cons (l := o.drop (i + 1)), List.count_singleton]
  omega
theorem PV.rests {K : PySem.W.Frag} {H : Hp} {a : Addr} (h : SqT K H a Deed.rs.vals) : ∀ n : Nat, PV K H (List.replicate n (.ref a)) (List.replicate n .rs)
  | 0 => .nil
  | n + 1 => .cons ⟨a, rfl, h⟩ (PV.rests h n)
theorem map_erase {α β : Type} (f : α → β) : ∀ (l : List α) (i : Nat), (l.map f).eraseIdx i = (l.eraseIdx i).map f
  | [], i => by simp
  | a :: r, 0 => rfl
  | a :: r, i + 1 => by
    have h := map_erase f r i
    simpa using h
end Db

/-! tables of sets of up to a thousand things: masks up to 2047 -/
namespace NS
open PySem PySem.Spec PyProof.Rows L2
def seqL (m : Nat) : Nat → Nat → List Nat
  | 0, _ => []
  | n + 1, x => x :: seqL m n ((x * 5 + 1) % (m + 1))
def bitsOf : List Nat → Nat
  | [] => 0
  | x :: r => 2 ^ x ||| bitsOf r
theorem mem_bits : ∀ {l : List Nat} {j : Nat}, (bitsOf l).testBit j = true → j ∈ l
  | [], j, h => by simp [bitsOf] at h
  | x :: r, j, h => by
    rw [bitsOf, Nat.testBit_or, Bool.or_eq_true, Nat.testBit_two_pow] at h
    rcases h with h | h
    · rw [← of_decide_eq_true h]; simp
    · exact List.mem_cons_of_mem _ (mem_bits h)
theorem mem_seq {m : Nat} : ∀ {n a x : Nat}, x ∈ seqL m n (lcgN m a) → ∃ b, b < a + n ∧ lcgN m b = x
  | n + 1, a, x, h => by
    rcases List.mem_cons.mp h with rfl | h
    · exact ⟨a, by omega, rfl⟩
    · obtain ⟨b, h1, h2⟩ := mem_seq (n := n) (a := a + 1) h
      exact ⟨b, by omega, h2⟩
/-- a mask by which a search comes everywhere -/
structure Rd (m : Nat) : Prop where
  all : ∀ j, j ≤ m → ∃ b, b ≤ m ∧ lcgN m b = j
  rnd : lcgN m (m + 1) = 0
  odd : m % 2 = 1
  big : m ≤ 2047
theorem rd_of {m : Nat} (h1 : bitsOf (seqL m (m + 1) 0) = 2 ^ (m + 1) - 1) (h2 : lcgN m (m + 1) = 0) (h3 : m % 2 = 1) (h4 : m ≤ 2047) : Rd m := by
  refine ⟨fun j hj => ?_, h2, h3, h4⟩
  have hb : (bitsOf (seqL m (m + 1) 0)).testBit j = true := by
    rw [h1, Nat.testBit_two_pow_sub_one]
    exact decide_eq_true (by omega)
  obtain ⟨b, hb1, hb2⟩ := mem_seq (a := 0) (mem_bits hb)
  exact ⟨b, by omega, hb2⟩
theorem rd7 : Rd 7 := rd_of (by decide +kernel) (by decide +kernel) rfl (by decide)
theorem rd31 : Rd 31 := rd_of (by decide +kernel) (by decide +kernel) rfl (by decide)
theorem rd127 : Rd 127 := rd_of (by decide +kernel) (by decide +kernel) rfl (by decide)
theorem rd511 : Rd 511 := rd_of (by decide +kernel) (by decide +kernel) rfl (by decide)
theorem rd2047 : Rd 2047 := rd_of (by decide +kernel) (by decide +kernel) rfl (by decide)
theorem Rd.again {m : Nat} (r : Rd m) (k : Nat) : lcgN m (m + 1 + k) = lcgN m k := by
  have h := lcgN_add m (m + 1) k
  rw [r.rnd] at h
  have h0 := lcgN_add m 0 k
  rw [Nat.zero_add] at h0
  exact h.symm.trans h0
theorem Rd.from {m i j : Nat} (r : Rd m) (hi : i ≤ m) (hj : j ≤ m) : ∃ k, k ≤ m ∧ lcgI m i k = j := by
  obtain ⟨p, hp, rfl⟩ := r.all i hi
  obtain ⟨q, hq, rfl⟩ := r.all j hj
  by_cases c : p ≤ q
  · exact ⟨q - p, by omega, by rw [lcgN_add]; congr 1; omega⟩
  · refine ⟨m + 1 + q - p, by omega, ?_⟩
    rw [lcgN_add, ← r.again q]
    congr 1
    omega
theorem Rd.run {m j : Nat} (r : Rd m) (h : Int) (hj : j ≤ m) : ∃ n, n ≤ 12 + m ∧ runI m (SetTable.bits h) n = j := by
  obtain ⟨k, hk, e⟩ := r.from (runI_le m (SetTable.bits h) 12) hj
  refine ⟨12 + k, by omega, ?_⟩
  rw [runI_tail (bits_lt h) k, e]
theorem Rd.meets {m j : Nat} (r : Rd m) (h : Int) (hj : j ≤ m) : ∃ k, k < 10 * SetTable.turns m ∧ way m h k = j := by
  obtain ⟨n, hn, e⟩ := r.run h hj
  obtain ⟨k, hk, e2⟩ := run_nth m (SetTable.bits h) n
  refine ⟨k, ?_, ?_⟩
  · unfold SetTable.turns
    omega
  · show (nth m (runAt m (SetTable.bits h % (m + 1)) (SetTable.bits h)) k).j = j
    rw [e2, ← e]
    rfl
theorem way_in (m : Nat) (h : Int) (k : Nat) : way m h k ≤ m := by
  have h0 : SetTable.bits h % (m + 1) < m + 1 := Nat.mod_lt _ (Nat.succ_pos m)
  have h1 := runEnd_bd (Nat.le_of_lt_succ h0)
  have h2 := nth_in (m := m) k (runAt m (SetTable.bits h % (m + 1)) (SetTable.bits h)) (by unfold runAt; dsimp only; omega)
  exact Nat.le_trans (Nat.le_add_right _ _) h2
/-- a table where all is found again -/
structure Tb (t : SetTable) (hs : List Int) : Prop where
  up : Ris t.place.toList
  no : t.dummies = #[]
  sz : t.place.size = hs.length
  rd : Rd t.mask
  le : ∀ x ∈ t.place.toList, x ≤ t.mask
  hit : ∀ (i : Nat) (h : Int) (j : Nat), hs[i]? = some h → t.place.toList[i]? = some j → ∃ k, way t.mask h k = j ∧ ∀ l, l < k → way t.mask h l ∈ t.place.toList
theorem Tb.len {t : SetTable} {hs : List Int} (T : Tb t hs) : t.place.toList.length = hs.length := T.sz
theorem Tb.free {t : SetTable} {hs : List Int} (T : Tb t hs) (hl : hs.length ≤ t.mask) (h : Int) : ∃ n, n < 10 * SetTable.turns t.mask ∧ way t.mask h n ∉ t.place.toList ∧ ∀ l, l < n → way t.mask h l ∈ t.place.toList := by
  obtain ⟨j, hj, hn⟩ := st_missing t.place.toList (t.mask + 1) (by rw [T.len]; omega)
  obtain ⟨k, hk, e⟩ := T.rd.meets h (Nat.le_of_lt_succ hj)
  obtain ⟨n, n1, n2, n3⟩ := st_least (p := fun k => way t.mask h k ∉ t.place.toList) k (by rw [e]; exact hn)
  exact ⟨n, by omega, n2, fun l hl => Decidable.not_not.mp (n3 l hl)⟩
theorem Tb.ahead {t : SetTable} {hs : List Int} (T : Tb t hs) {h : Int} {n i j : Nat} (hn : way t.mask h n ∉ t.place.toList) (hi : hs[i]? = some h) (hj : t.place.toList[i]? = some j) : ∃ k, k < n ∧ way t.mask h k = j := by
  obtain ⟨k, e, all⟩ := T.hit i h j hi hj
  refine ⟨k, ?_, e⟩
  have ne : k ≠ n := by
    rintro rfl
    exact hn (by rw [e]; exact List.mem_of_getElem? hj)
  have nl : ¬ n < k := fun z => hn (all n z)
  omega
/-- one more -/
structure Put (t : SetTable) (hs : List Int) (h : Int) (j p : Nat) : Prop where
  at_ : (t.put j).2 = p
  le : p ≤ hs.length
  tb : Tb (t.put j).1 (hs.take p ++ h :: hs.drop p)
  mask : (t.put j).1.mask = t.mask
  led : (t.put j).1.led = t.led
  plain : (t.put j).1.plain = t.plain
  fill : (t.put j).1.fill = hs.length + 1
theorem Tb.put {t : SetTable} {hs : List Int} (T : Tb t hs) {h : Int} {n : Nat} (hn : way t.mask h n ∉ t.place.toList) (hb : ∀ l, l < n → way t.mask h l ∈ t.place.toList) :
    Put t hs h (way t.mask h n) (SetTable.below t.place (way t.mask h n)) := by
  have jm := way_in t.mask h n
  generalize hj : way t.mask h n = j at hn jm
  have hc := (below_cut T.up j).1
  have h1 : SetTable.below t.place j ≤ t.place.toList.length := hc
  have h2 : SetTable.below t.place j ≤ hs.length := by rw [← T.len]; exact h1
  have pl := put_place t j
  have psz : (t.put j).1.place.size = hs.length + 1 := by
    have z := congrArg List.length pl
    rw [len_ins _ h1, T.len] at z
    exact z
  have more : ∀ x, x ∈ t.place.toList → x ∈ (t.put j).1.place.toList := fun x hx => by
    rw [pl]; exact mem_ins.mpr (Or.inr hx)
  have nj : t.place[SetTable.below t.place j]? ≠ some j := fun e => hn (List.mem_of_getElem? (by rw [Array.getElem?_toList]; exact e))
  have nd := put_dm T.no j
  refine ⟨rfl, h2, ⟨ris_insert T.up nj, nd, by rw [len_ins _ h2]; exact psz, T.rd, ?_, ?_⟩, rfl, rfl, rfl, ?_⟩
  · intro x hx
    rw [pl] at hx
    rcases mem_ins.mp hx with rfl | hx
    · exact jm
    · exact T.le x hx
  · intro i h' j' a1 a2
    rw [tins_get hs h2] at a1
    rw [pl, tins_get t.place.toList h1] at a2
    have old : ∀ i', hs[i']? = some h' → t.place.toList[i']? = some j' → ∃ k, way t.mask h' k = j' ∧ ∀ l, l < k → way t.mask h' l ∈ (t.put j).1.place.toList := fun i' z1 z2 => by
      obtain ⟨k, e, all⟩ := T.hit i' h' j' z1 z2
      exact ⟨k, e, fun l hl => more _ (all l hl)⟩
    show ∃ k, way t.mask h' k = j' ∧ ∀ l, l < k → way t.mask h' l ∈ (t.put j).1.place.toList
    split at a1
    · rename_i c
      rw [if_pos c] at a2
      exact old i a1 a2
    · rename_i c
      rw [if_neg c] at a2
      split at a1
      · rename_i d
        rw [if_pos d] at a2
        cases a1
        cases a2
        exact ⟨n, hj, fun l hl => more _ (hb l hl)⟩
      · rename_i d
        rw [if_neg d] at a2
        exact old (i - 1) a1 a2
  · unfold SetTable.fill
    rw [psz, nd]
    rfl
/-! laid anew -/
theorem Rd.find {m j : Nat} (r : Rd m) (owner : Array (Option Nat)) (h : Int) (hj : j ≤ m) (hf : oAt owner j = none) :
    ∃ n, SetTable.layClean.free m owner (SetTable.turns m) (SetTable.bits h % (m + 1)) (SetTable.bits h) = some (way m h n) ∧ oAt owner (way m h n) = none ∧ ∀ l, l < n → oAt owner (way m h l) ≠ none := by
  obtain ⟨q, hq, e⟩ := r.run h hj
  have there : way m h (off m (SetTable.bits h % (m + 1)) (SetTable.bits h) q) = j := by
    have z := nth_off m q (SetTable.bits h % (m + 1)) (SetTable.bits h)
    rw [itL_run] at z
    exact (congrArg SetTable.Probe.j z).trans e
  obtain ⟨n, n1, n2, n3⟩ := st_least (p := fun k => oAt owner (way m h k) = none) (off m (SetTable.bits h % (m + 1)) (SetTable.bits h) q) (by rw [there]; exact hf)
  have turns : q < SetTable.turns m := by unfold SetTable.turns; omega
  refine ⟨n, free_spec m owner (SetTable.turns m) q _ _ n turns n1 (fun l hl => ?_) ?_, n2, n3⟩
  · have z := n3 l hl
    show (oAt owner (way m h l)).isNone = false
    cases c : oAt owner (way m h l) with
    | none => exact absurd c z
    | some _ => rfl
  · show (oAt owner (way m h n)).isNone = true
    rw [show oAt owner (way m h n) = none from n2]
    rfl
theorem own_more {m : Nat} (r : Rd m) {done : List Int} {owner : Array (Option Nat)} (O : Own m done owner) (hl : done.length ≤ m) (h : Int) :
    ∃ j, SetTable.layClean.free m owner (SetTable.turns m) (SetTable.bits h % (m + 1)) (SetTable.bits h) = some j ∧ Own m (done ++ [h]) (owner.setIfInBounds j (some done.length)) := by
  obtain ⟨ps, p1, p2⟩ := O.ps
  obtain ⟨j0, j1, j2⟩ := st_missing ps (m + 1) (by omega)
  have f0 : oAt owner j0 = none := by
    by_cases c : oAt owner j0 = none
    · exact c
    · exact absurd (p2 j0 (by omega) c) j2
  obtain ⟨n, e1, e2, e3⟩ := r.find owner h (Nat.le_of_lt_succ j1) f0
  have wm := way_in m h n
  generalize hw : way m h n = j at e1 e2 wm
  have jin : j < owner.size := by rw [O.sz]; omega
  have self := oAt_set_self (some done.length) jin
  have keep : ∀ i, oAt owner i ≠ none → oAt (owner.setIfInBounds j (some done.length)) i ≠ none := fun i hi => by
    by_cases c : i = j
    · subst c
      rw [self]
      exact fun z => nomatch z
    · rwa [oAt_set_ne _ c]
  have len1 : (done ++ [h]).length = done.length + 1 := by simp
  refine ⟨j, e1, ⟨by rw [Array.size_setIfInBounds, O.sz], ?_, ?_, j :: ps, by rw [len1, List.length_cons, p1], ?_⟩⟩
  · intro i k hi hk
    by_cases c : i = j
    · subst c
      rw [self] at hk
      cases hk
      exact ⟨h, n, by simp, hw, fun l hl => keep _ (e3 l hl)⟩
    · rw [oAt_set_ne _ c] at hk
      obtain ⟨h', n', b1, b2, b3⟩ := O.at_ i k hi hk
      exact ⟨h', n', by rw [List.getElem?_append_left (List.getElem?_eq_some_iff.mp b1).1]; exact b1, b2, fun l hl => keep _ (b3 l hl)⟩
  · intro k hk
    rw [len1] at hk
    by_cases c : k = done.length
    · exact ⟨j, wm, by rw [c]; exact self⟩
    · obtain ⟨i, i1, i2⟩ := O.all k (by omega)
      refine ⟨i, i1, ?_⟩
      have ne : i ≠ j := by
        rintro rfl
        rw [e2] at i2
        cases i2
      rw [oAt_set_ne _ ne]
      exact i2
  · intro i hi hk
    by_cases c : i = j
    · rw [c]; simp
    · rw [oAt_set_ne _ c] at hk
      exact List.mem_cons_of_mem _ (p2 i hi hk)
theorem own_all {m : Nat} (r : Rd m) : ∀ (rest done : List Int) (owner : Array (Option Nat)), Own m done owner → done.length + rest.length ≤ m →
    ∃ o', rest.foldl (stepF m) (some (owner, done.length)) = some (o', done.length + rest.length) ∧ Own m (done ++ rest) o'
  | [], done, owner, O, _ => ⟨owner, rfl, by rwa [List.append_nil]⟩
  | h :: rest, done, owner, O, hl => by
    have hl' : done.length + (rest.length + 1) ≤ m := hl
    obtain ⟨j, e, O1⟩ := own_more r O (by omega) h
    obtain ⟨o', e2, O2⟩ := own_all r rest (done ++ [h]) _ O1 (by rw [List.length_append]; show done.length + 1 + rest.length ≤ m; omega)
    refine ⟨o', ?_, by rw [List.append_assoc] at O2; exact O2⟩
    rw [List.foldl_cons, stepF_some e]
    rw [List.length_append] at e2
    show _ = some (o', done.length + (rest.length + 1))
    have e3 : done.length + (rest.length + 1) = done.length + [h].length + rest.length := by show _ = done.length + 1 + rest.length; omega
    rw [e3]
    exact e2
theorem lay_all {m : Nat} (r : Rd m) (hs : Array Int) (hn : hs.size ≤ m) : ∃ owner, SetTable.layClean m hs = some owner ∧ Own m hs.toList owner := by
  obtain ⟨o', e, O⟩ := own_all r hs.toList [] _ (Own.init m) (by show 0 + hs.size ≤ m; omega)
  refine ⟨o', ?_, O⟩
  rw [layClean_eq, show (some (Array.replicate (m + 1) (none : Option Nat), 0)) = some (Array.replicate (m + 1) (none : Option Nat), ([] : List Int).length) from rfl, e]
  rfl
structure Laid (t t' : SetTable) (hs : Array Int) (m : Nat) (order : Array Nat) : Prop where
  perm : order.toList.Perm (List.range hs.size)
  tb : Tb t' (order.toList.map fun i => hs.getD i 0)
  mask : t'.mask = m
  led : t'.led = t.led
  plain : t'.plain = t.plain
theorem laid_anew (t : SetTable) {hs : Array Int} {wanted m : Nat} (hw : SetTable.sizeAbove wanted - 1 = m) (r : Rd m) (hn : hs.size ≤ m) : ∃ t' order, t.relaid hs wanted = some (t', order) ∧ Laid t t' hs m order := by
  obtain ⟨owner, e, O⟩ := lay_all r hs hn
  have rr : t.relaid hs wanted = some (tabOf t m owner, ((liveOf m owner).map (·.2)).toArray) := by
    rw [relaid_eq, hw, e]
    rfl
  obtain ⟨r1, r2⟩ := ris_live (fun j => owner.getD j none) (List.range (m + 1)) (by unfold Ris; exact List.pairwise_lt_range)
  change Ris ((liveOf m owner).map (·.1)) at r1
  change ∀ x ∈ (liveOf m owner).map (·.1), x ∈ List.range (m + 1) at r2
  have nd : ((liveOf m owner).map (·.1)).Nodup := r1.imp fun h => Nat.ne_of_lt h
  have inl : ∀ j k, (j, k) ∈ liveOf m owner ↔ j ≤ m ∧ oAt owner j = some k := fun j k => mem_live O.sz
  have ll : (liveOf m owner).length = hs.size := by
    obtain ⟨ps, p1, p2⟩ := O.ps
    have a := nat_nodup_len _ ps nd fun x hx => by
      obtain ⟨⟨y, k⟩, hq, rfl⟩ := List.mem_map.mp hx
      obtain ⟨b1, b2⟩ := (inl y k).mp hq
      exact p2 y b1 (by rw [b2]; exact fun z => nomatch z)
    have b := nat_nodup_len (List.range hs.size) ((liveOf m owner).map (·.2)) List.nodup_range fun k hk => by
      obtain ⟨j, b1, b2⟩ := O.all k (List.mem_range.mp hk)
      exact List.mem_map.mpr ⟨(j, k), (inl j k).mpr ⟨b1, b2⟩, rfl⟩
    have p1' : ps.length = hs.size := p1
    rw [List.length_map, p1'] at a
    rw [List.length_map, List.length_range] at b
    omega
  refine ⟨_, _, rr, ⟨perm_range hs.size _ (by simp [ll]) fun k hk => ?_, ⟨r1, rfl, by simp [tabOf], r, fun x hx => Nat.le_of_lt_succ (List.mem_range.mp (r2 x hx)), ?_⟩, rfl, rfl, rfl⟩⟩
  · obtain ⟨j, b1, b2⟩ := O.all k hk
    exact List.mem_map.mpr ⟨(j, k), (inl j k).mpr ⟨b1, b2⟩, rfl⟩
  · intro i h j a1 a2
    have a1' : (((liveOf m owner).map (·.2)).map fun i => hs.getD i 0)[i]? = some h := a1
    have a2' : ((liveOf m owner).map (·.1))[i]? = some j := a2
    obtain ⟨⟨y, k⟩, q1, rfl⟩ : ∃ q, (liveOf m owner)[i]? = some q ∧ q.1 = j := by
      rw [List.getElem?_map] at a2'
      exact Option.map_eq_some_iff.mp a2'
    rw [List.getElem?_map, List.getElem?_map, q1] at a1'
    have eh : hs.getD k 0 = h := Option.some.inj a1'
    obtain ⟨b1, b2⟩ := (inl y k).mp (List.mem_of_getElem? q1)
    obtain ⟨h0, n, c1, c2, c3⟩ := O.at_ y k b1 b2
    have e0 : h0 = h := by
      rw [← eh, Array.getD_eq_getD_getElem?, ← Array.getElem?_toList, c1]
      rfl
    subst e0
    refine ⟨n, c2, fun l hl => ?_⟩
    show way m h0 l ∈ (liveOf m owner).map (·.1)
    obtain ⟨k2, hk2⟩ := Option.ne_none_iff_exists'.mp (c3 l hl)
    exact List.mem_map.mpr ⟨(_, k2), (inl _ k2).mpr ⟨way_in m h0 l, hk2⟩, rfl⟩
end NS

/-! sets of nested tuples of whole numbers -/
namespace NS
open PySem PySem.Spec PyProof.Rows L2
section
variable {P : Program} {w : World} {A : Around} {E : Value → Shared → Prop} {s : Shared}
/-- only whole numbers and tuples -/
inductive Whole : Nat → NestedKey → Prop
  | num (n : Nat) (i : Int) : Whole n (.num i)
  | tup {n : Nat} {ks : List NestedKey} : (∀ k ∈ ks, Whole n k) → Whole (n + 1) (.tup ks)
/-- .. ints for numbers -/
inductive Plain (h : Heap) : Nat → Value → Prop
  | int (n : Nat) (i : Int) (t : Tok) : Plain h n (.int i t)
  | tup {n : Nat} {a : Addr} {o : Obj} {vs : Array Value} {m : Nat} : h.get? a = some o → o.cls = .type "tuple" → o.data = .seq vs m → (∀ v ∈ vs.toList, Plain h n v) → Plain h (n + 1) (.ref a)
theorem not_class : ∀ {n : Nat} {v : Value} {m : Nat} {Q : Bool → Shared → Prop}, Plain s.heap n v → n ≤ m → Q false s → wpAny (model P w) A (ofAClassStatement m v) Q E s
  | _, _, m, Q, .int n i t, _, h => by
    rw [ofAClass_int]
    exact wpAny_pure h
  | n + 1, _, 0, _, .tup _ _ _ _, hm, _ => absurd hm (by omega)
  | n + 1, _, m + 1, Q, .tup (a := a) (o := o) (vs := vs) h1 h2 h3 h4, hm, h => by
    have T : s.TypeIs (.ref a) "tuple" := ⟨o, h1, h2⟩
    unfold ofAClassStatement
    refine wpAny_bind (wpAny_typeOf T ?_)
    dsimp only
    have e : (("tuple" : String) == "tuple") = true := by decide
    simp only [e, if_true]
    refine wpAny_bind (wpAny_pure ?_)
    simp only [Bool.not_true, Bool.false_eq_true, if_false]
    refine wpAny_bind (wpAny_seqItems h1 h3 ?_)
    dsimp only
    refine wpAny_bind ?_
    rw [← Array.forIn_toList]
    refine wpAny_forIn_list _ (fun rest r s' => r.1 = none ∧ s = s' ∧ ∀ v ∈ rest, Plain s.heap n v) _ ?_ ?_ _ _ ⟨rfl, rfl, h4⟩
    · rintro v rest r s' ⟨hr, rfl, hv⟩
      refine wpAny_bind (not_class (hv v (by simp)) (by omega) ?_)
      simp only [Bool.false_eq_true, if_false]
      exact wpAny_pure ⟨rfl, rfl, fun u hu => hv u (by simp [hu])⟩
    · rintro ⟨r1, r2⟩ s' ⟨hr, rfl, _⟩
      cases hr
      exact wpAny_pure h
theorem by_value : ∀ {n : Nat} {v : Value} {m : Nat} {Q : Bool → Shared → Prop}, Plain s.heap n v → n ≤ m → Q true s → wpAny (model P w) A (hashByValue m v) Q E s
  | _, _, m, Q, .int n i t, _, h => by
    rw [hashBy_int]
    exact wpAny_pure h
  | n + 1, _, 0, _, .tup _ _ _ _, hm, _ => absurd hm (by omega)
  | n + 1, _, m + 1, Q, .tup (a := a) (o := o) (vs := vs) h1 h2 h3 h4, hm, h => by
    have T : s.TypeIs (.ref a) "tuple" := ⟨o, h1, h2⟩
    unfold hashByValue
    refine wpAny_bind (wpAny_specialOf T F.slot_tuple_hash.lookup ?_)
    dsimp only
    refine wpAny_bind (wpAny_seqItems h1 h3 ?_)
    refine wpAny_bind ?_
    show wpAny _ _ (forIn vs _ _) _ _ s
    rw [← Array.forIn_toList]
    refine wpAny_forIn_list _ (fun rest r s' => r.1 = none ∧ s = s' ∧ ∀ v ∈ rest, Plain s.heap n v) _ ?_ ?_ _ _ ⟨rfl, rfl, h4⟩
    · rintro v rest r s' ⟨hr, rfl, hv⟩
      refine wpAny_bind (by_value (hv v (by simp)) (by omega) ?_)
      simp only [Bool.not_true, Bool.false_eq_true, if_false]
      exact wpAny_pure ⟨rfl, rfl, fun u hu => hv u (by simp [hu])⟩
    · rintro ⟨r1, r2⟩ s' ⟨hr, rfl, _⟩
      cases hr
      exact wpAny_pure h
/-- the tuple at b is the key k, of ints alone -/
structure IsN (P : Program) (w : World) (h : Heap) (k : NestedKey) (b : Addr) : Prop where
  is : (nestedKind P w).is h k b
  pl : Plain h 7 (.ref b)
theorem Plain.at {h h' : Heap} (hk : ∀ a o vs n, h.get? a = some o → o.data = .seq vs n → h'.get? a = some o) : ∀ {n : Nat} {v : Value}, Plain h n v → Plain h' n v
  | _, _, .int n i t => .int n i t
  | _, _, .tup h1 h2 h3 h4 => .tup (hk _ _ _ _ h1 h3) h2 h3 fun v hv => Plain.at hk (h4 v hv)
theorem IsN.at {h h' : Heap} {k : NestedKey} {b : Addr} (hk : ∀ a o vs n, h.get? a = some o → o.data = .seq vs n → h'.get? a = some o) (q : IsN P w h k b) : IsN P w h' k b := ⟨nestedKind_stays.stays hk q.is, q.pl.at hk⟩
theorem IsN.but {h h' : Heap} {k : NestedKey} {a b : Addr} {o : Obj} {es : Array (Int × Value)} {ep : Nat} {t : SetTable} (q : IsN P w h k b) (ho : h.get? a = some o) (hd : o.data = .set es ep t) (hs : Heap.SameBut a h h') : IsN P w h' k b :=
  q.at fun c o' vs n e1 e2 => (hs.2 c (by
    rintro rfl
    rw [ho] at e1
    cases e1
    rw [hd] at e2
    cases e2)).trans e1
/-- a search shows nothing -/
theorem unseen {k : NestedKey} {b : Addr} {Q : Bool → Shared → Prop} (hk : IsN P w s.heap k b) {ys : List Value} (hy : ∀ y ∈ ys, ∃ k' c, y = Value.ref c ∧ IsN P w s.heap k' c) (h : Q false s) : wpAny (model P w) A (searchCouldBeSeen (.ref b) ys) Q E s := by
  unfold searchCouldBeSeen
  refine wpAny_bind ?_
  refine wpAny_forIn_list _ (fun rest r s' => r.1 = none ∧ s = s' ∧ ∀ y ∈ rest, ∃ k' c, y = Value.ref c ∧ IsN P w s.heap k' c) _ ?_ ?_ _ _ ⟨rfl, rfl, hy⟩
  · rintro v rest r s' ⟨hr, rfl, hv⟩
    obtain ⟨k', c, rfl, hc⟩ := hv v (by simp)
    have hv' : ∀ y ∈ rest, ∃ k' c, y = Value.ref c ∧ IsN P w s.heap k' c := fun u hu => hv u (by simp [hu])
    dsimp only
    by_cases z : (b == c || (carriedByValue (.ref b) && carriedByValue (.ref c))) = true
    · exact wp_if_pos z (wpAny_pure ⟨rfl, rfl, hv'⟩)
    · refine wp_if_neg z (wpAny_bind ((nestedKind P w).quiet hk.is ?_))
      simp only [Bool.not_true, Bool.false_eq_true, if_false]
      refine wpAny_bind ((nestedKind P w).quiet hc.is ?_)
      simp only [Bool.not_true, Bool.false_eq_true, if_false]
      refine wpAny_bind (not_class hk.pl (by decide) ?_)
      simp only [Bool.false_eq_true, if_false]
      refine wpAny_bind (not_class hc.pl (by decide) ?_)
      simp only [Bool.false_eq_true, if_false]
      exact wpAny_pure ⟨rfl, rfl, hv'⟩
  · rintro ⟨r1, r2⟩ s' ⟨hr, rfl, _⟩
    cases hr
    exact wpAny_pure h
/-! ### the set -/
abbrev nh (P : Program) (w : World) (k : NestedKey) : Int := (nestedKind P w).hash k
def rowsN (P : Program) (w : World) (L : List (Addr × NestedKey)) : List (Int × Value) := L.map fun p => (nh P w p.2, Value.ref p.1)
/-- the set at a: its rows, its table -/
structure SetN (P : Program) (w : World) (h : Heap) (a : Addr) (L : List (Addr × NestedKey)) (es : Array (Int × Value)) (ep : Nat) (t : SetTable) : Prop where
  obj : ∃ o, h.get? a = some o ∧ o.ExactSet ∧ o.data = .set es ep t
  rows : es.toList = rowsN P w L
  tb : Tb t (L.map fun p => nh P w p.2)
  nd : (L.map (·.2)).Nodup
  plain : t.plain = true
  led : w.params.followText "set-order" = true ∨ t.led = true
  room : L.length * 5 < t.mask * 3
variable {a : Addr} {L : List (Addr × NestedKey)} {es : Array (Int × Value)} {ep : Nat} {t : SetTable}
theorem SetN.size {h : Heap} (R : SetN P w h a L es ep t) : es.size = L.length := by
  have z := congrArg List.length R.rows
  simpa [rowsN] using z
theorem SetN.fits {h : Heap} (R : SetN P w h a L es ep t) : t.fits es.size = true := by
  have z1 := R.tb.sz
  have z2 := R.size
  have z3 := R.room
  rw [List.length_map] at z1
  unfold SetTable.fits SetTable.fill
  rw [R.tb.no]
  simp only [Bool.and_eq_true, beq_iff_eq, decide_eq_true_eq, List.size_toArray, List.length_nil]
  omega
theorem SetN.row {h : Heap} (R : SetN P w h a L es ep t) {i : Nat} {p : Addr × NestedKey} (q : L[i]? = some p) : es[i]? = some (nh P w p.2, Value.ref p.1) := by
  rw [← Array.getElem?_toList, R.rows, rowsN, List.getElem?_map, q]
  rfl
abbrev bg (t : SetTable) (h : Int) : SetTable.Probe := runAt t.mask (SetTable.bits h % (t.mask + 1)) (SetTable.bits h)
theorem bg_dummy (t : SetTable) (h : Int) (n : Nat) : (nth t.mask (bg t h) n).dummy = none := by
  have key : ∀ (n : Nat) (p : SetTable.Probe), p.dummy = none → (nth t.mask p n).dummy = none := fun n => by
    induction n with
    | zero => exact fun p h => h
    | succ n ih =>
      intro p hp
      refine ih _ ?_
      unfold adv
      split <;> exact hp
  exact key n _ rfl
/-- the search, from the c-th step on -/
theorem look (R : SetN P w s.heap a L es ep t) (all : ∀ p ∈ L, IsN P w s.heap p.2 p.1) {x : Addr} {k : NestedKey} (hx : IsN P w s.heap k x) (hu : (nestedKind P w).room A) {n : Nat} (hn : n < 10 * SetTable.turns t.mask)
    (empty : way t.mask (nh P w k) n ∉ t.place.toList) (full : ∀ l, l < n → way t.mask (nh P w k) l ∈ t.place.toList) {Q : SetFound → Shared → Prop} (yes : k ∈ L.map (·.2) → Q (.there none) s) (no : k ∉ L.map (·.2) → Q (.free (way t.mask (nh P w k) n) false) s) :
    ∀ (f c : Nat) (stand : Option SetTable.Probe), stand.getD (t.probeStart (nh P w k)) = nth t.mask (bg t (nh P w k)) c → c ≤ n → n - c < f →
      (∀ (i : Nat) p, L[i]? = some p → p.2 = k → ∃ l, c ≤ l ∧ l < n ∧ t.place.toList[i]? = some (way t.mask (nh P w k) l)) → wpAny (model P w) A (setSearchFrom a (.ref x) (nh P w k) true f stand) Q E s
  | 0, _, _, _, _, hf, _ => absurd hf (by omega)
  | f + 1, c, stand, hst, hc, hf, there => by
    obtain ⟨o, ho, hex, hd⟩ := R.obj
    have odd := R.tb.rd.odd
    rw [setSearchFrom_succ]
    refine wpAny_bind (wpAny_setState_of ho hd R.fits ?_)
    dsimp only
    refine wp_if_neg (by unfold SetTable.gaveWay; rw [odd]; decide) ?_
    have step : ∀ q, nth t.mask (nth t.mask (bg t (nh P w k)) c) q = nth t.mask (bg t (nh P w k)) (c + q) := fun q => (nth_add t.mask c _ q).symm
    have stepj : ∀ q, (nth t.mask (nth t.mask (bg t (nh P w k)) c) q).j = way t.mask (nh P w k) (c + q) := fun q => by rw [step]
    have cn : c + (n - c) = n := by omega
    have hash : ∀ (i : Nat) p, L[i]? = some p → (es[i]?.map (·.1)).getD 0 = nh P w p.2 := fun i p hp => by rw [R.row hp]; rfl
    rcases go_spec t R.tb.up R.tb.no (fun i => (es[i]?.map (·.1)).getD 0) (nh P w k) (10 * SetTable.turns t.mask) (n - c) _ (bg_dummy t _ c) (by omega) (fun q hq => by rw [stepj]; exact full _ (by omega)) (by rw [stepj, cn]; exact empty) with ⟨q, i, hq, hi, hh, first, probed⟩ | ⟨never, probed⟩
    · rw [stepj, step] at probed
      rw [stepj] at hi
      have pr : t.probe (fun i => (es[i]?.map (·.1)).getD 0) (nh P w k) (stand.getD (t.probeStart (nh P w k))) = some (.candidate (way t.mask (nh P w k) (c + q)) i (nth t.mask (bg t (nh P w k)) (c + (q + 1)))) := by
        rw [hst]
        exact probed
      rw [pr]
      dsimp only
      have il : i < L.length := by
        have z := (List.getElem?_eq_some_iff.mp hi).1
        rw [R.tb.len, List.length_map] at z
        exact z
      obtain ⟨p, hp⟩ : ∃ p, L[i]? = some p := ⟨_, List.getElem?_eq_getElem il⟩
      have pm := List.mem_of_getElem? hp
      have rest : wpAny (model P w) A (searchRest a (.ref x) (nh P w k) true f es t (way t.mask (nh P w k) (c + q)) i (nth t.mask (bg t (nh P w k)) (c + (q + 1)))) Q E s := by
        unfold searchRest
        rw [R.row hp]
        dsimp only
        refine wpAny_bind (wpAny_holding ((nestedKind P w).eqBool hu (all p pm).is hx.is ?_))
        refine wpAny_bind (wpAny_setState_of ho hd R.fits ?_)
        dsimp only
        by_cases same : p.2 = k
        · exact wp_if_pos (by simp [same]) (wpAny_pure (yes (List.mem_map.mpr ⟨p, pm, same⟩)))
        · refine wp_if_neg (by simp [same]) ?_
          rw [sameMem]
          dsimp only
          have live : t.slot (way t.mask (nh P w k) (c + q)) = .live i := slot_live R.tb.up hi
          simp only [if_true, live, R.row hp]
          refine wpAny_bind (wpAny_isSame_ref_self (wpAny_bind (wpAny_pure ?_)))
          simp only [if_true]
          refine wp_if_neg (by simp [same]) (look R all hx hu hn empty full yes no f (c + (q + 1)) _ rfl (by omega) (by omega) fun i' p' h1 h2 => ?_)
          obtain ⟨l, l1, l2, l3⟩ := there i' p' h1 h2
          refine ⟨l, ?_, l2, l3⟩
          have n1 : ¬ l < c + q := fun z => first (l - c) i' (by omega) (by rw [stepj, show c + (l - c) = l by omega]; exact l3) (by rw [hash i' p' h1, h2])
          have n2 : l ≠ c + q := by
            rintro rfl
            have z := slot_live R.tb.up l3
            rw [live] at z
            cases z
            rw [hp] at h1
            cases h1
            exact same h2
          omega
      by_cases led : t.led = true
      · exact wp_if_neg (by simp [led]) rest
      · refine wp_if_pos (by simp [led]) (wpAny_bind (unseen hx (fun y hy => ?_) (wp_if_neg (by decide) rest)))
        obtain ⟨e, e1, rfl⟩ := List.mem_map.mp hy
        have e2 : e ∈ es := by
          have z : e ∈ es ∧ e.1 = nh P w k := by simpa using e1
          exact z.1
        have e3 : e ∈ rowsN P w L := by rw [← R.rows]; exact Array.mem_toList_iff.mpr e2
        obtain ⟨p', p1, rfl⟩ := List.mem_map.mp e3
        exact ⟨p'.2, p'.1, rfl, all p' p1⟩
    · rw [stepj, cn] at probed
      have pr : t.probe (fun i => (es[i]?.map (·.1)).getD 0) (nh P w k) (stand.getD (t.probeStart (nh P w k))) = some (.empty (way t.mask (nh P w k) n) none) := by
        rw [hst]
        exact probed
      rw [pr]
      dsimp only
      refine wpAny_pure (no fun z => ?_)
      obtain ⟨p, p1, p2⟩ := List.mem_map.mp z
      obtain ⟨i, hi, rfl⟩ := List.getElem_of_mem p1
      have h1 : L[i]? = some L[i] := List.getElem?_eq_getElem hi
      obtain ⟨l, l1, l2, l3⟩ := there i _ h1 p2
      exact never (l - c) i (by omega) (by rw [stepj, show c + (l - c) = l by omega]; exact l3) (by rw [hash i _ h1, p2])
theorem search (R : SetN P w s.heap a L es ep t) (all : ∀ p ∈ L, IsN P w s.heap p.2 p.1) {x : Addr} {k : NestedKey} (hx : IsN P w s.heap k x) (hu : (nestedKind P w).room A) {Q : SetFound → Shared → Prop} (yes : k ∈ L.map (·.2) → Q (.there none) s)
    (no : ∀ n, k ∉ L.map (·.2) → way t.mask (nh P w k) n ∉ t.place.toList → (∀ l, l < n → way t.mask (nh P w k) l ∈ t.place.toList) → Q (.free (way t.mask (nh P w k) n) false) s) : wpAny (model P w) A (setSearch a (.ref x) (nh P w k) true) Q E s := by
  have room := R.room
  have big := R.tb.rd.big
  obtain ⟨n, n1, n2, n3⟩ := R.tb.free (by rw [List.length_map]; omega) (nh P w k)
  have small : n < 100000 := by
    unfold SetTable.turns at n1
    omega
  unfold setSearch
  refine look R all hx hu n1 n2 n3 yes (fun z => no n z n2 n3) 100000 0 none rfl (Nat.zero_le _) (by omega) fun i p h1 h2 => ?_
  have il := (List.getElem?_eq_some_iff.mp h1).1
  have hi : (L.map fun p => nh P w p.2)[i]? = some (nh P w k) := by rw [List.getElem?_map, h1, ← h2]; rfl
  have hj : t.place.toList[i]? = some (t.place.toList[i]'(by rw [R.tb.len, List.length_map]; exact il)) := List.getElem?_eq_getElem _
  obtain ⟨l, l1, l2⟩ := R.tb.ahead n2 hi hj
  exact ⟨l, Nat.zero_le _, l1, by rw [hj, ← l2]⟩
/-- laid anew, the same things stand in another order -/
theorem rows_order {order : Array Nat} (hr : es.toList = rowsN P w L) (hp : order.toList.Perm (List.range L.length)) :
    ∃ M, (order.filterMap (es[·]?)).toList = rowsN P w M ∧ M.Perm L ∧ (M.map fun p => nh P w p.2) = order.toList.map fun i => (es.map (·.1)).getD i 0 := by
  have at_ : ∀ i (h : i < L.length), es[i]? = some (nh P w L[i].2, Value.ref L[i].1) := fun i h => by
    rw [← Array.getElem?_toList, hr, rowsN, List.getElem?_map, List.getElem?_eq_getElem h]
    rfl
  have go : ∀ l : List Nat, (∀ i ∈ l, i < L.length) → l.filterMap (fun i => es[i]?) = rowsN P w (l.filterMap fun i => L[i]?) ∧ ((l.filterMap fun i => L[i]?).map fun p => nh P w p.2) = l.map fun i => (es.map (·.1)).getD i 0 := fun l => by
    induction l with
    | nil => exact fun _ => ⟨rfl, rfl⟩
    | cons i r ih =>
      intro hl
      have hi := hl i (by simp)
      obtain ⟨e1, e2⟩ := ih fun j hj => hl j (by simp [hj])
      rw [List.filterMap_cons_some (at_ i hi), List.filterMap_cons_some (List.getElem?_eq_getElem hi), List.map_cons, List.map_cons, e1, e2]
      refine ⟨rfl, ?_⟩
      congr 1
      rw [Array.getD_eq_getD_getElem?, Array.getElem?_map, at_ i hi]
      rfl
  obtain ⟨e1, e2⟩ := go order.toList fun i hi => List.mem_range.mp (hp.mem_iff.mp hi)
  refine ⟨_, by rw [Array.toList_filterMap]; exact e1, ?_, e2⟩
  have z : (List.range L.length).filterMap (fun i => L[i]?) = L := by
    have key : ∀ n, n ≤ L.length → (List.range n).filterMap (fun i => L[i]?) = L.take n := fun n => by
      induction n with
      | zero => exact fun _ => rfl
      | succ n ih =>
        intro hn
        rw [List.range_succ, List.filterMap_append, ih (by omega), List.filterMap_cons_some (List.getElem?_eq_getElem (by omega : n < L.length)), List.take_add_one, List.getElem?_eq_getElem (by omega : n < L.length)]
        rfl
    rw [key _ (Nat.le_refl _), List.take_length]
  have y := hp.filterMap (fun i => L[i]?)
  rwa [z] at y
theorem relay (ho : ∃ o, s.heap.get? a = some o ∧ o.ExactSet ∧ o.data = .set es ep t) (hr : es.toList = rowsN P w L) (tb : Tb t (L.map fun p => nh P w p.2)) (fl : L.length ≤ t.mask) (nd : (L.map (·.2)).Nodup) (pl : t.plain = true) (ld : w.params.followText "set-order" = true ∨ t.led = true)
    {wanted m : Nat} (hw : SetTable.sizeAbove wanted - 1 = m) (rd : Rd m) (hs : SetTable.sizeAbove wanted ≤ 2048) (hl : L.length * 5 < m * 3) {Q : Unit → Shared → Prop}
    (hQ : ∀ h' M es' ep' t', Heap.SameBut a s.heap h' → SetN P w h' a M es' ep' t' → t'.mask = m → M.Perm L → Q () { s with heap := h' }) : wpAny (model P w) A (setRelay a wanted) Q E s := by
  obtain ⟨o, ho, hex, hd⟩ := ho
  have sz : es.size = L.length := by
    have z := congrArg List.length hr
    simpa [rowsN] using z
  have psz := tb.sz
  rw [List.length_map] at psz
  have fits : t.fits es.size = true := by
    unfold SetTable.fits SetTable.fill
    rw [tb.no]
    simp only [Bool.and_eq_true, beq_iff_eq, decide_eq_true_eq, List.size_toArray, List.length_nil]
    omega
  obtain ⟨t', order, e, Y⟩ := laid_anew t (hs := es.map (·.1)) hw rd (by rw [Array.size_map]; omega)
  have perm := Y.perm
  rw [Array.size_map, sz] at perm
  obtain ⟨M, m1, m2, m3⟩ := rows_order hr perm
  have tb' := Y.tb
  rw [← m3] at tb'
  have sz' : (order.filterMap (es[·]?)).size = es.size := by
    have z := congrArg List.length m1
    rw [Array.length_toList, rowsN, List.length_map, m2.length_eq] at z
    omega
  rw [setRelay_eq]
  refine wpAny_bind (wpAny_setState_of ho hd fits ?_)
  dsimp only
  refine wp_if_neg (by rw [sizeLine_eq]; omega) ?_
  rw [e]
  dsimp only
  refine wpAny_bind (wp_if_neg (by rw [sz']; simp) (wpAny_pure ?_))
  dsimp only
  refine wpAny_storeSet_of ho hd ?_ (by rw [sz', sizeLine_eq]; have := rd.big; omega)
  have sb : Heap.SameBut a s.heap (s.heap.update a (Obj.putSet (order.filterMap (es[·]?)) t')) := Heap.SameBut.update ..
  refine hQ _ M _ (ep + 1) t' sb ⟨⟨_, store_at ho hd, ⟨hex.1, hex.2.1, hex.2.2⟩, rfl⟩, m1, tb', (m2.map (·.2)).nodup_iff.mpr nd, by rw [Y.plain]; exact pl, by rw [Y.led]; exact ld, by rw [m2.length_eq, Y.mask]; exact hl⟩ Y.mask m2
theorem grow5 : SetTable.sizeAbove (SetTable.grown 5) = 32 := by decide +kernel
theorem grow19 : SetTable.sizeAbove (SetTable.grown 19) = 128 := by decide +kernel
theorem grow77 : SetTable.sizeAbove (SetTable.grown 77) = 512 := by decide +kernel
theorem grow307 : SetTable.sizeAbove (SetTable.grown 307) = 2048 := by decide +kernel
/-- the masks that come -/
def Msk (m : Nat) : Prop := m = 7 ∨ m = 31 ∨ m = 127 ∨ m = 511 ∨ m = 2047
theorem full_next {m n : Nat} (hm : Msk m) (h1 : n * 5 < m * 3) (h2 : (n + 1) * 5 ≥ m * 3) (h3 : n + 1 ≤ 1000) : ∃ m', SetTable.sizeAbove (SetTable.grown (n + 1)) - 1 = m' ∧ Msk m' ∧ Rd m' ∧ SetTable.sizeAbove (SetTable.grown (n + 1)) ≤ 2048 ∧ (n + 1) * 5 < m' * 3 := by
  rcases hm with rfl | rfl | rfl | rfl | rfl
  · obtain rfl : n = 4 := by omega
    exact ⟨31, by rw [grow5], .inr (.inl rfl), rd31, by rw [grow5]; decide, by decide⟩
  · obtain rfl : n = 18 := by omega
    exact ⟨127, by rw [grow19], .inr (.inr (.inl rfl)), rd127, by rw [grow19]; decide, by decide⟩
  · obtain rfl : n = 76 := by omega
    exact ⟨511, by rw [grow77], .inr (.inr (.inr (.inl rfl))), rd511, by rw [grow77]; decide, by decide⟩
  · obtain rfl : n = 306 := by omega
    exact ⟨2047, by rw [grow307], .inr (.inr (.inr (.inr rfl))), rd2047, by rw [grow307]; decide, by decide⟩
  · omega
theorem rows_ins (L : List (Addr × NestedKey)) (p : Nat) (x : Addr) (k : NestedKey) : rowsN P w (L.take p ++ (x, k) :: L.drop p) = (rowsN P w L).take p ++ (nh P w k, Value.ref x) :: (rowsN P w L).drop p := by
  simp only [rowsN, List.map_append, List.map_cons, List.map_take, List.map_drop]
/-- one more, or nothing -/
theorem add (R : SetN P w s.heap a L es ep t) (msk : Msk t.mask) (all : ∀ p ∈ L, IsN P w s.heap p.2 p.1) {x : Addr} {k : NestedKey} (hx : IsN P w s.heap k x) (hu : (nestedKind P w).room A) (few : L.length + 1 ≤ 1000) {Q : Bool → Shared → Prop}
    (hQ : ∀ b h' M es' ep' t', Heap.SameBut a s.heap h' → SetN P w h' a M es' ep' t' → Msk t'.mask → (k ∈ L.map (·.2) → M = L) → (k ∉ L.map (·.2) → M.Perm ((x, k) :: L)) → Q b { s with heap := h' }) : wpAny (model P w) A (setAddHashed a (.ref x) (nh P w k)) Q E s := by
  obtain ⟨o, ho, hex, hd⟩ := R.obj
  have sz := R.size
  have room := R.room
  unfold setAddHashed
  refine wpAny_holding ?_
  rw [show (100000 : Nat) = 99999 + 1 from rfl, setAddHashedIn_succ]
  refine wpAny_bind (wpAny_setState_of ho hd R.fits ?_)
  dsimp only
  refine wp_if_neg (by simp [byScan, Value.scannable]) ?_
  refine wpAny_bind (search R all hx hu (fun there => ?_) fun n new empty full => ?_)
  · dsimp only
    exact wpAny_pure (hQ false s.heap L es ep t (Heap.SameBut.refl a s.heap) R msk (fun _ => rfl) fun z => absurd there z)
  dsimp only
  refine wpAny_bind (wpAny_setState_of ho hd R.fits ?_)
  dsimp only
  have Y := R.tb.put empty full
  generalize hj : way t.mask (nh P w k) n = j at Y
  generalize hp : SetTable.below t.place j = p at Y
  have pl : (t.put j).1.plain = true := by rw [Y.plain]; exact R.plain
  have led : w.params.followText "set-order" = true ∨ (t.put j).1.led = true := by rw [Y.led]; exact R.led
  have msk1 : Msk (t.put j).1.mask := by rw [Y.mask]; exact msk
  have tb := Y.tb
  have mk := Y.mask
  have fill := Y.fill
  have at_ := Y.at_
  generalize hpt : t.put j = pt at pl led msk1 tb mk fill at_ ⊢
  obtain ⟨t1, p1⟩ := pt
  dsimp only at pl led msk1 tb mk fill at_ ⊢
  subst at_
  rw [List.length_map] at fill
  first
    | (refine wpAny_bind ?_; refine wp_if_pos pl ?_; refine by_value hx.pl (by decide) ?_)
    | refine wp_if_pos pl (wpAny_bind (by_value hx.pl (by decide) ?_))
  simp only [if_true]
  have r1 : (SetTable.insertAt es p1 (nh P w k, Value.ref x)).toList = rowsN P w (L.take p1 ++ (x, k) :: L.drop p1) := by
    rw [SetTable.toList_insertAt, rows_ins, R.rows]
  have perm := put_perm L p1 (x, k)
  have tb1 : Tb t1 ((L.take p1 ++ (x, k) :: L.drop p1).map fun p => nh P w p.2) := by
    rw [List.map_append, List.map_cons, List.map_take, List.map_drop]
    exact tb
  have nd1 : ((L.take p1 ++ (x, k) :: L.drop p1).map (·.2)).Nodup := (perm.map (·.2)).nodup_iff.mpr (List.nodup_cons.mpr ⟨new, R.nd⟩)
  have len1 : (L.take p1 ++ (x, k) :: L.drop p1).length = L.length + 1 := perm.length_eq
  have sz1 : (SetTable.insertAt es p1 (nh P w k, Value.ref x)).size = L.length + 1 := by
    have z := congrArg List.length r1
    rw [Array.length_toList, rowsN, List.length_map, len1] at z
    exact z
  generalize SetTable.insertAt es p1 (nh P w k, Value.ref x) = es1 at r1 sz1 ⊢
  generalize L.take p1 ++ (x, k) :: L.drop p1 = L1 at perm tb1 nd1 len1 r1
  refine wpAny_bind (wpAny_storeSet_of ho hd ?_ (by rw [sz1, sizeLine_eq]; omega))
  have sb : Heap.SameBut a s.heap (s.heap.update a (Obj.putSet es1 t1)) := Heap.SameBut.update ..
  have ho1 := store_at (es' := es1) (t' := t1) ho hd
  generalize s.heap.update a (Obj.putSet es1 t1) = h1 at sb ho1 ⊢
  by_cases tf : t1.tooFull = true
  · have hfull : (L.length + 1) * 5 ≥ t.mask * 3 := by
      have z := tf
      unfold SetTable.tooFull at z
      rw [decide_eq_true_eq, fill, mk] at z
      exact z
    obtain ⟨m', g1, g2, g3, g4, g5⟩ := full_next msk room hfull few
    rw [sz]
    have go : wpAny (model P w) A (setRelay a (SetTable.grown (L.length + 1))) (fun _ s' => wpAny (model P w) A (pure true) Q E s') E { s with heap := h1 } :=
      relay (s := { s with heap := h1 }) ⟨_, ho1, ⟨hex.1, hex.2.1, hex.2.2⟩, rfl⟩ r1 tb1 (by have z := tb1.sz; have y := tb1.le; rw [len1, mk]; omega) nd1 pl led g1 g3 g4 (by rw [len1]; exact g5) fun h2 M es2 ep2 t2 sb2 R2 em2 pm2 => wpAny_pure (hQ true h2 M es2 ep2 t2 (sb.trans sb2) R2 (by rw [em2]; exact g2) (fun z => absurd z new) fun _ => pm2.trans perm)
    first
      | (refine wpAny_bind ?_; exact wp_if_pos (by simp [tf]) go)
      | (refine wp_if_pos (by simp [tf]) ?_; exact wpAny_bind go)
  · have nf : (L.length + 1) * 5 < t1.mask * 3 := by
      have z := tf
      unfold SetTable.tooFull at z
      rw [decide_eq_true_eq, fill] at z
      omega
    first
      | refine wp_if_neg (by simp [tf]) ?_
      | (refine wpAny_bind ?_; refine wp_if_neg (by simp [tf]) (wpAny_pure ?_))
    exact wpAny_pure (hQ true h1 L1 es1 (ep + 1) t1 sb ⟨⟨_, ho1, ⟨hex.1, hex.2.1, hex.2.2⟩, rfl⟩, r1, tb1, nd1, pl, led, by rw [len1]; exact nf⟩ msk1 (fun z => absurd z new) fun _ => perm)
/-- a new set -/
theorem setN_new {h : Heap} (ho : h.get? a = some { cls := .type "set", dict := none, data := .set #[] 0 (.fresh 0 0 (!w.params.followText "set-order")) }) : SetN P w h a [] #[] 0 (.fresh 0 0 (!w.params.followText "set-order")) :=
  ⟨⟨_, ho, ⟨rfl, rfl, rfl⟩, rfl⟩, rfl, ⟨List.Pairwise.nil, rfl, rfl, rd7, (fun x hx => by cases hx), fun i h j e => by cases e⟩, List.nodup_nil, rfl, by
    cases w.params.followText "set-order"
    · exact .inr rfl
    · exact .inl rfl, by show 0 * 5 < 7 * 3; decide⟩
end
end NS

/-! a comprehension into a new set, whatever is told of the set -/
namespace NS
open PySem PySem.Spec PyProof.Rows L2 PpSet
abbrev emptySet (w : World) : Obj := { cls := .type "set", dict := none, data := .set #[] 0 (.fresh 0 0 (!w.params.followText "set-order")) }
/-- what is told of the new set (O), what has to be said of a thing that is added (Ad) -/
structure SetRule (X : Cx) (O : Addr → HO) (Ad : V → Addr → Hp → (Hp → Prop) → Prop) : Prop where
  new : ∀ (H : Hp) (h : Heap), ObjOk X.prog X.w H (h.push (emptySet X.w)) h.objs.size (O h.objs.size)
  add : ∀ (s0 : Shared) (H0 : Hp) (sc : Scope) (ce : Env) (fp : List Addr) {pins : List (Addr × Obj)} {σ : L2.St} {H : Hp} {s : Shared} {y : V} {u : Value} {D : Addr} {N : Hp → Prop} {Q E : Value → Shared → Prop},
    Inv (X.blk s0 H0 sc ce fp) pins σ H s → RelV y u → Ad y D H N → (∀ s' H', Inv (X.blk s0 H0 sc ce fp) pins σ H' s' → N H' → Q .none s') → wpAny (model X.prog X.w) X.A (call (.builtin "set.add") [.ref D, u]) Q E s
section
variable {X : Cx} {O : Addr → HO} {Ad : V → Addr → Hp → (Hp → Prop) → Prop}
def tSg (O : Addr → HO) (Ad : V → Addr → Hp → (Hp → Prop) → Prop) (wi : TI) (g : TG) (tt : TT) (te : TE) (vs : List Nat) : TE := fun σ H Q => wi σ H fun J H1 => ∀ D, H1 D = none → ∃ W : Nat → Nat → Hp → Prop, (∃ m, W 0 m (upd H1 D (O D))) ∧ ∀ i m H, W i m H →
  (J.stop i H ∧ Q (.ref D) H) ∨ (J.go i H ∧ ∃ N : Hp → Prop, (∀ H', N H' → ∃ m', m' < m ∧ W (i + 1) m' H') ∧ ∀ x H', J.yld i H x H' → g x (wipe σ vs) H' fun σ2 H2 => wipe σ2 vs = wipe σ vs ∧ tt σ2 H2 fun b H3 => if b = true then te σ2 H3 fun y H4 => Ad y D H4 N else N H3)
theorem sg_core (SR : SetRule X O Ad) {pins : List (Addr × Obj)} {s : Shared} {σ : L2.St} {H : Hp} {Q : VK} {elt tg iter : Expr} {ifs : List Expr} {sc : Scope} {own : List (PySem.Str × Nat)} {p1 p2 : Pos} {wi : TI} {g : TG} {tt : TT} {te : TE} {use : Option (Value → Sem Unit)}
    {Qf : Value → Shared → Prop} (calm : X.calm = true) (nodup : X.N.Nodup) (I : Inv X pins σ H s) (hi : PI X tg iter wi) (bk : BlkOk X.N X.env.scope sc own) (hg : ∀ (s : Shared) (H : Hp) (C : Addr) (cl : List (PySem.Str × Addr)) (fp : List Addr), PG (X.blk s H sc (compEnvC sc cl C X.env) fp) tg g)
    (ht : ∀ (s : Shared) (H : Hp) (C : Addr) (cl : List (PySem.Str × Addr)) (fp : List Addr), PTs (X.blk s H sc (compEnvC sc cl C X.env) fp) ifs tt) (he : ∀ (s : Shared) (H : Hp) (C : Addr) (cl : List (PySem.Str × Addr)) (fp : List Addr), PE (X.blk s H sc (compEnvC sc cl C X.env) fp) elt te)
    (fold : ∀ x, foldedSetIterable iter X.env x = pure x) (h : tSg O Ad wi g tt te (own.map (·.2)) σ H Q)
    (out : ∀ D C s' m H', Inv X pins σ H' s' → Q (.ref D) H' → s'.heap.Ns C m → FpOk X pins H' C → compPost (model X.prog X.w) X.A X.xe use Qf (.ref D) C (.ok .next) s') :
    wpAny (model X.prog X.w) X.A (comprehension (.SetComp elt [⟨tg, iter, ifs, 0⟩] sc p1) sc X.env p2 (newSet (.type "set")) false (eval iter X.env) use) Qf X.xe s := by
  have cells : ∀ y ∈ sc.names, y.2 = .free → ∃ c, X.env.cells.lookup y.1 = some c := fun y m e => (bk.free y m e).elim (fun z => I.ok.has _ (.inl z)) fun z => I.ok.has _ (.inr z)
  refine wpAny_comprehension_free (use := use) rfl fold (closure_ok cells) bk.kind (fun y m e => by rw [bk.uniq y m, e]) (thn (hi.run pins s σ H _ I h) fun xv sa hx => thn hx fun itv sb ⟨it, fp, tn, J, Ha, e, Ia, T, sta, fa, q⟩ => ?_)
  subst e
  refine newSet_ok (newEnv_comp ?_)
  generalize hD : sb.heap.objs.size = D
  obtain ⟨W, ⟨m0, w0⟩, turn⟩ := q D (Ia.hok.fresh (Nat.le_of_eq hD))
  generalize hc : ({ sb with heap := sb.heap.push (emptySet X.w) } : Shared) = c
  have hch : c.heap = sb.heap.push (emptySet X.w) := by rw [← hc]
  have Ib : Inv X pins σ (upd Ha D (O D)) c := by
    subst hc hD
    exact Ia.laid (t' := sb.toks) (fun b o e => Heap.get?_push_of_some _ e) (Nat.le_refl _) (SR.new _ _)
  have old : ∀ b ∈ fp, b < sb.heap.objs.size := fun b hb => let ⟨o, e, _⟩ := T.obj _ _ sta b hb; Heap.lt_size e
  have fb : ∀ b ∈ fp, FpOk X pins (upd Ha D (O D)) b ∧ b < c.heap.objs.size := fun b hb => by
    have lt := old b hb
    obtain ⟨z1, z2⟩ := fa b hb
    refine ⟨⟨?_, z2⟩, by rw [hch, Heap.size_push]; exact Nat.lt_succ_of_lt lt⟩
    rw [upd_ne (Nat.ne_of_lt (hD ▸ lt))]
    exact z1
  have stb : tn 0 c.heap := T.keep _ _ _ sta fun b _ o e => by rw [hch]; exact Heap.get?_push_of_some _ e
  have Ic := block_start Ib bk nodup fb
  have G := hg c (upd Ha D (O D)) c.heap.objs.size (cellsFrom (c.heap.objs.size + 1) sc.names (cloFrom X.env.cells sc.names [])) fp
  have U := ht c (upd Ha D (O D)) c.heap.objs.size (cellsFrom (c.heap.objs.size + 1) sc.names (cloFrom X.env.cells sc.names [])) fp
  have V := he c (upd Ha D (O D)) c.heap.objs.size (cellsFrom (c.heap.objs.size + 1) sc.names (cloFrom X.env.cells sc.names [])) fp
  show codeAny _ _ (.compStart (.SetComp elt [⟨tg, iter, ifs, 0⟩] sc p1) 0 (.ref it) (.ref D) (compEnvC sc (cellsFrom (c.heap.objs.size + 1) sc.names (cloFrom X.env.cells sc.names [])) c.heap.objs.size X.env)) (compPost (model X.prog X.w) X.A X.xe use Qf (.ref D) c.heap.objs.size) { c with heap := pushCells (c.heap.push { cls := .type "dict", data := .dict #[] }) sc.names }
  have nb : ∀ b ∈ fp, (upd Ha D (O D)) b = none := fun b hb => (fb b hb).1.1
  generalize hce : compEnvC sc (cellsFrom (c.heap.objs.size + 1) sc.names (cloFrom X.env.cells sc.names [])) c.heap.objs.size X.env = ce at Ic G U V ⊢
  have loc : ce.locals = c.heap.objs.size := by subst hce; rfl
  generalize upd Ha D (O D) = Hb at Ib Ic G U V w0 nb fb
  generalize hd : ({ c with heap := pushCells (c.heap.push { cls := .type "dict", data := .dict #[] }) sc.names } : Shared) = d at Ic ⊢
  have std : tn 0 d.heap := T.keep _ _ _ stb fun b _ o e => by rw [← hd]; exact pushCells_keeps _ _ _ _ (Heap.get?_push_of_some _ e)
  have foot : ∀ {σ' : L2.St} {H' : Hp} {s' : Shared}, Inv (X.blk c Hb sc ce fp) [] σ' H' s' → (∀ b ∈ fp, H' b = none) → ∀ b ∈ fp, FpOk (X.blk c Hb sc ce fp) [] H' b := fun J' n b hb =>
    ⟨n b hb, (J'.ok.exf b hb).1, J'.ok.exfs b hb, .inl hb, fun x y e => (J'.ok.exf b hb).2 x y e, fun p hp => nomatch (show p ∈ ([] : List (Addr × Obj)) ++ [] from hp)⟩
  have loop : codeAny (model X.prog X.w) X.A (.compLoop (.SetComp elt [⟨tg, iter, ifs, 0⟩] sc p1) 0 (.ref it) (.ref D) ce) (compPost (model X.prog X.w) X.A X.xe use Qf (.ref D) c.heap.objs.size) d := by
    refine compLoopS_any (fun n s' => ∃ i H', Inv (X.blk c Hb sc ce fp) [] (wipe σ (own.map (·.2))) H' s' ∧ tn i s'.heap ∧ (∀ b ∈ fp, H' b = none) ∧ W i n H') ?_ m0 ⟨0, Hb, Ic, std, nb, w0⟩
    rintro n e ⟨i, He, Ie, ste, ne, we⟩
    rcases turn i n He we with ⟨stop, fin⟩ | ⟨go, N, less, step⟩
    · refine thnF (T.done (X.blk c Hb sc ce fp) rfl rfl rfl calm i [] e _ He (fun _ _ => False) Ie (foot Ie ne) ste stop) fun r f ⟨hr, If⟩ => ?_
      subst hr
      have back : Inv X pins σ He f := Ib.call' (ch := fp) If.os If.base If.hok If.bare fun b hb => let z := (fb b hb).1; ⟨z.2.2.2.1, z.2.1, z.2.2.2.2.1, z.2.2.2.2.2⟩
      have free : He c.heap.objs.size = none := by rw [← loc]; exact If.free
      obtain ⟨m, ns, _⟩ := If.loc
      have ns : f.heap.Ns ce.locals m := ns
      rw [loc] at ns
      exact out D c.heap.objs.size f m He back fin ns (Ib.fpOk (Nat.le_refl _) free)
    · refine thnF (T.item (X.blk c Hb sc ce fp) rfl rfl rfl calm i [] e _ He (fun _ _ => False) Ie (foot Ie ne) ste go) fun r f ⟨u, hr, z⟩ => ?_
      subst hr
      refine thnF z fun _ f ⟨x, Hf, If, rf, yf, stf, nf⟩ => ?_
      refine thnF (G.run _ f _ Hf x u _ (If.pinned (foot If nf) (T.obj _ _ stf)) rf (step x Hf yf)) fun _ k ⟨σk, Hk, Ik, wk, qk⟩ => ?_
      refine thnF (U.run _ k σk Hk _ Ik qk) fun b l ⟨Hl, Il, ql⟩ => ?_
      have close : ∀ {s' : Shared} {H' : Hp}, Inv (X.blk c Hb sc ce fp) ([] ++ pinsAt fp f.heap) σk H' s' → N H' → ∃ m, m < n ∧ ∃ i H', Inv (X.blk c Hb sc ce fp) [] (wipe σ (own.map (·.2))) H' s' ∧ tn i s'.heap ∧ (∀ b ∈ fp, H' b = none) ∧ W i m H' := fun {s' H'} J' nx => by
        obtain ⟨m', lt, w'⟩ := less H' nx
        have stays : ∀ b ∈ fp, ∀ o, f.heap.get? b = some o → s'.heap.get? b = some o ∧ H' b = none := fun b hb o e =>
          let y := J'.pin (b, o) (List.mem_append_right _ (List.mem_append_right _ (mem_pinsAt hb e)))
          ⟨y.1, y.2.1⟩
        refine ⟨m', lt, i + 1, H', (J'.unpinned (pins := [])).weak (by rw [← wk, wipe_length]) (fun j v e => ?_), T.keep _ _ _ stf fun b hb o e => (stays b hb o e).1, fun b hb => ?_, w'⟩
        · rw [← wk] at e
          exact (wipe_some e).1
        · obtain ⟨o, e, _⟩ := T.obj _ _ stf b hb
          exact (stays b hb o e).2
      cases b with
      | false =>
        simp only [Bool.false_eq_true, if_false] at ql ⊢
        exact close Il ql
      | true =>
        simp only [if_true] at ql ⊢
        refine thnF (V.run _ l σk Hl _ Il ql) fun u' s9 ⟨y, H9, I9, r9, ad⟩ => ?_
        exact SR.add c Hb sc ce fp I9 r9 ad fun s' H' I' nx => close I' nx
  exact codeAny_compStart_set loop (T.self X.A 0 _ _ _ std loop)
/-- {elt for tg in iter ..} as a value -/
theorem pe_sg (SR : SetRule X O Ad) {elt tg iter : Expr} {ifs : List Expr} {sc : Scope} {own : List (PySem.Str × Nat)} {p1 : Pos} {wi : TI} {g : TG} {tt : TT} {te : TE} (calm : X.calm = true) (nodup : X.N.Nodup) (hi : PI X tg iter wi) (bk : BlkOk X.N X.env.scope sc own)
    (hg : ∀ (s : Shared) (H : Hp) (C : Addr) (cl : List (PySem.Str × Addr)) (fp : List Addr), PG (X.blk s H sc (compEnvC sc cl C X.env) fp) tg g) (ht : ∀ (s : Shared) (H : Hp) (C : Addr) (cl : List (PySem.Str × Addr)) (fp : List Addr), PTs (X.blk s H sc (compEnvC sc cl C X.env) fp) ifs tt)
    (he : ∀ (s : Shared) (H : Hp) (C : Addr) (cl : List (PySem.Str × Addr)) (fp : List Addr), PE (X.blk s H sc (compEnvC sc cl C X.env) fp) elt te) (fold : ∀ x, foldedSetIterable iter X.env x = pure x := by intro _; rfl) :
    PE X (.SetComp elt [⟨tg, iter, ifs, 0⟩] sc p1) (tSg O Ad wi g tt te (own.map (·.2))) := by
  refine ⟨fun pins s σ H Q I h => ?_⟩
  rw [eval_SetComp]
  refine sg_core SR calm nodup I hi bk hg ht he fold h fun D C s' m H' I' q ns f => ⟨m, ns, fun h'' sb => ⟨.ref D, H', ?_, rfl, q⟩⟩
  exact I'.turned (t' := s'.toks) (fun b o hb e => (sb.2 b hb).trans e) f.1 f.2.1 f.2.2.2.1 f.2.2.2.2.1 f.2.2.2.2.2
end
end NS

namespace Db
open PySem L2 Evl StX NS PyProof.Rows
/-! ### sets of what came: three tuples of worths -/
abbrev T3 := List Nat × List Nat × List Nat
def kN (l : List Nat) : NestedKey := .tup (l.map fun (n : Nat) => NestedKey.num (n : Int))
def kOf (x : T3) : NestedKey := .tup [kN x.1, kN x.2.1, kN x.2.2]
def nums : List NestedKey → List Nat := List.map fun k => match k with | .num i => i.toNat | _ => 0
def unK : NestedKey → T3
  | .tup [.tup a, .tup b, .tup c] => (nums a, nums b, nums c)
  | _ => ([], [], [])
theorem nums_k (l : List Nat) : nums (l.map fun (n : Nat) => NestedKey.num (n : Int)) = l := by
  unfold nums
  rw [List.map_map]
  conv => rhs; rw [← List.map_id l]
  exact List.map_congr_left fun n _ => rfl
theorem unK_k (x : T3) : unK (kOf x) = x := by
  obtain ⟨a, b, c⟩ := x
  show (nums _, nums _, nums _) = _
  rw [nums_k, nums_k, nums_k]
theorem kOf_inj {x y : T3} (h : kOf x = kOf y) : x = y := by rw [← unK_k x, h, unK_k]
def enc3 (x : T3) : PyData := .tuple [.tuple (wD x.1), .tuple (wD x.2.1), .tuple (wD x.2.2)]
def NT (K : PySem.W.Frag) (H : Hp) (b : Addr) (x : T3) : Prop := ∃ s o m : Addr, SqT K H b [.ref s, .ref o, .ref m] ∧ SqT K H s (x.1.map wV) ∧ SqT K H o (x.2.1.map wV) ∧ SqT K H m (x.2.2.map wV)
theorem NT.mono {K : PySem.W.Frag} {H H' : Hp} {b : Addr} {x : T3} (e : Ex H H') (h : NT K H b x) : NT K H' b x := by
  obtain ⟨s, o, m, h1, h2, h3, h4⟩ := h
  exact ⟨s, o, m, ex_t e h1, ex_t e h2, ex_t e h3, ex_t e h4⟩
theorem NT.of {K : PySem.W.Frag} {H : Hp} {v : V} {S : Sts} (h : Told3 K H v S) : ∃ b, v = .ref b ∧ NT K H b (t3 S) := by
  obtain ⟨t, s, o, m, rfl, h1, h2, h3, h4⟩ := h
  exact ⟨t, rfl, s, o, m, h1, h2, h3, h4⟩
theorem NT.dp {K : PySem.W.Frag} {H : Hp} {b : Addr} {x : T3} (h : NT K H b x) : Dp K H (.ref b) (enc3 x) := by
  obtain ⟨s, o, m, h1, h2, h3, h4⟩ := h
  exact .tup h1 (.cons (.tup h2 (dpa_w _)) (.cons (.tup h3 (dpa_w _)) (.cons (.tup h4 (dpa_w _)) .nil)))
theorem ints_of {h : Heap} : ∀ {l : List Nat} {us : List Value}, Vals (l.map wV) us → NestedAll h (l.map fun (n : Nat) => NestedKey.num (n : Int)) us ∧ (∀ v ∈ us, ∃ (i : Int) (t : Tok), v = .int i t) ∧ ReadsAll h us (wD l) []
  | [], _, .nil => ⟨.nil, (fun _ z => nomatch z), .nil⟩
  | n :: r, _, .cons a t => by
    obtain ⟨tk, e⟩ := (show ∃ t, _ = Value.int (n : Int) t from a)
    subst e
    obtain ⟨h1, h2, h3⟩ := ints_of (h := h) t
    exact ⟨.cons (.int _ _) h1, (fun v hv => by
      rcases List.mem_cons.mp hv with rfl | hv
      · exact ⟨_, _, rfl⟩
      · exact h2 v hv), .cons (as := []) (bs := []) (.int _ _) h3⟩
section
variable {X : Cx} {pins : List (Addr × Obj)} {σ : L2.St} {H : Hp} {s : Shared}
/-- in the heap: the key, plain, read as data -/
theorem heap_l (I : Inv X pins σ H s) {b : Addr} {l : List Nat} (h : SqT X.K H b (l.map wV)) : NestedIs s.heap (kN l) (.ref b) ∧ (∀ n, Plain s.heap (n + 1) (.ref b)) ∧ Reads s.heap (.ref b) (.tuple (wD l)) [] := by
  obtain ⟨its, r, ⟨o, ho, hc, n, hd⟩, _⟩ := I.tuple h
  obtain ⟨h1, h2, h3⟩ := ints_of (h := s.heap) r
  refine ⟨.tup ho hc hd (by simpa using h1), fun m => .tup ho hc hd fun v hv => ?_, .tuple ho hc hd (by simpa using h3)⟩
  obtain ⟨i, t, rfl⟩ := h2 v (by simpa using hv)
  exact .int _ i t
theorem kN_depth (l : List Nat) : (kN l).depth ≤ 1 := by
  have z : NestedKey.depthAll (l.map fun (n : Nat) => NestedKey.num (n : Int)) = 0 := by
    induction l with
    | nil => rfl
    | cons n r ih => rw [List.map_cons, NestedKey.depthAll, ih]; rfl
  unfold kN
  rw [NestedKey.depth, z]
  exact Nat.le_refl _
theorem heap_3 (I : Inv X pins σ H s) {b : Addr} {x : T3} (h : NT X.K H b x) : IsN X.prog X.w s.heap (kOf x) b ∧ Reads s.heap (.ref b) (enc3 x) [] := by
  obtain ⟨s1, o1, m1, h1, h2, h3, h4⟩ := h
  obtain ⟨a1, a2, a3⟩ := heap_l I h2
  obtain ⟨b1, b2, b3⟩ := heap_l I h3
  obtain ⟨c1, c2, c3⟩ := heap_l I h4
  obtain ⟨its, r, ⟨o, ho, hc, n, hd⟩, _⟩ := I.tuple h1
  have ei : its = [.ref s1, .ref o1, .ref m1] := by
    cases r with
    | cons r1 r =>
      cases r with
      | cons r2 r =>
        cases r with
        | cons r3 r =>
          cases r
          cases (show _ = Value.ref s1 from r1)
          cases (show _ = Value.ref o1 from r2)
          cases (show _ = Value.ref m1 from r3)
          rfl
  subst ei
  refine ⟨⟨⟨.tup ho hc hd (.cons a1 (.cons b1 (.cons c1 .nil))), ?_⟩, .tup ho hc hd fun v hv => ?_⟩, .tuple ho hc hd (.cons (as := []) (bs := []) a3 (.cons (as := []) (bs := []) b3 (.cons (as := []) (bs := []) c3 .nil)))⟩
  · have d1 := kN_depth x.1
    have d2 := kN_depth x.2.1
    have d3 := kN_depth x.2.2
    unfold kOf
    simp only [NestedKey.depth, NestedKey.depthAll]
    omega
  · simp only [List.mem_cons, List.not_mem_nil, or_false] at hv
    rcases hv with rfl | rfl | rfl
    · exact a2 5
    · exact b2 5
    · exact c2 5
end
def rowK (L : List (Addr × T3)) : List (Addr × NestedKey) := L.map fun p => (p.1, kOf p.2)
theorem rowK_keys (L : List (Addr × T3)) : (rowK L).map (·.2) = (L.map (·.2)).map kOf := by
  unfold rowK
  rw [List.map_map, List.map_map]
  rfl
theorem mem_rowK {L : List (Addr × T3)} {x : T3} : kOf x ∈ (rowK L).map (·.2) ↔ x ∈ L.map (·.2) := by
  rw [rowK_keys]
  constructor
  · intro h
    obtain ⟨y, h1, h2⟩ := List.mem_map.mp h
    rwa [← kOf_inj h2]
  · exact fun h => List.mem_map.mpr ⟨x, h, rfl⟩
def unRow (M : List (Addr × NestedKey)) : List (Addr × T3) := M.map fun p => (p.1, unK p.2)
theorem unRow_k (L : List (Addr × T3)) : unRow (rowK L) = L := by
  unfold unRow rowK
  rw [List.map_map]
  conv => rhs; rw [← List.map_id L]
  exact List.map_congr_left fun p _ => by
    show (p.1, unK (kOf p.2)) = p
    rw [unK_k]
theorem row_perm {M : List (Addr × NestedKey)} {L : List (Addr × T3)} (h : M.Perm (rowK L)) : rowK (unRow M) = M ∧ (unRow M).Perm L := by
  refine ⟨?_, ?_⟩
  · unfold rowK unRow
    rw [List.map_map]
    conv => rhs; rw [← List.map_id M]
    refine List.map_congr_left fun p hp => ?_
    obtain ⟨q, _, rfl⟩ := List.mem_map.mp (h.mem_iff.mp hp)
    show (q.1, kOf (unK (kOf q.2))) = (q.1, kOf q.2)
    rw [unK_k]
  · have z := h.map fun p => ((p.1, unK p.2) : Addr × T3)
    have e : (rowK L).map (fun p => ((p.1, unK p.2) : Addr × T3)) = L := unRow_k L
    rw [e] at z
    exact z
/-- the set at a -/
def SetQ (P : Program) (w : World) (h : Heap) (a : Addr) (L : List (Addr × T3)) : Prop := ∃ es ep t, SetN P w h a (rowK L) es ep t ∧ Msk t.mask
def SetO (P : Program) (w : World) (a : Addr) (L : List (Addr × T3)) : HO := .ext fun h => SetQ P w h a L
theorem SetQ.at {P : Program} {w : World} {h h' : Heap} {a : Addr} {L : List (Addr × T3)} (R : SetQ P w h a L) (k : ∀ o, h.get? a = some o → h'.get? a = some o) : SetQ P w h' a L := by
  obtain ⟨es, ep, t, R, m⟩ := R
  obtain ⟨o, ho, h1, h2⟩ := R.obj
  exact ⟨es, ep, t, ⟨⟨o, k o ho, h1, h2⟩, R.rows, R.tb, R.nd, R.plain, R.led, R.room⟩, m⟩
theorem setO_ok {P : Program} {w : World} {H : Hp} {h : Heap} {a : Addr} {L : List (Addr × T3)} (R : SetQ P w h a L) : ObjOk P w H h a (SetO P w a L) := by
  have ⟨_, _, _, R1, _⟩ := R
  obtain ⟨o, ho, _⟩ := R1.obj
  exact ⟨R, ⟨o, ho⟩, fun h1 h2 p k => SetQ.at p k⟩
theorem setO_ne {P : Program} {w : World} {a : Addr} {L : List (Addr × T3)} {xs : List V} : SetO P w a L ≠ .lst xs := fun z => by
  unfold SetO at z
  cases z
theorem setO_net {P : Program} {w : World} {a : Addr} {L : List (Addr × T3)} {xs : List V} : SetO P w a L ≠ .tup xs := fun z => by
  unfold SetO at z
  cases z
/-- what is added -/
def AdN (P : Program) (w : World) (K : PySem.W.Frag) (y : V) (D : Addr) (H : Hp) (N : Hp → Prop) : Prop := ∃ (b : Addr) (x : T3) (L : List (Addr × T3)), y = .ref b ∧ NT K H b x ∧ H D = some (SetO P w D L) ∧ (∀ p ∈ L, NT K H p.1 p.2) ∧ L.length + 1 ≤ 1000 ∧
  ∀ M : List (Addr × T3), (x ∈ L.map (·.2) → M = L) → (x ∉ L.map (·.2) → M.Perm ((b, x) :: L)) → N (upd H D (SetO P w D M))
theorem rule_N {X : Cx} (hu : X.A.units + 64 < cLine) : SetRule X (fun a => SetO X.prog X.w a []) (AdN X.prog X.w X.K) := by
  refine ⟨fun H h => setO_ok ⟨#[], 0, _, setN_new (Heap.get?_push_size _ rfl), .inl rfl⟩, ?_⟩
  intro s0 H0 sc ce fp pins σ H s y u D N Q E I ry ad hQ
  obtain ⟨b, x, L, rfl, hb, hD, hL, few, hN⟩ := ad
  cases (show u = Value.ref b from ry)
  obtain ⟨es, ep, t, R, msk⟩ : SetQ X.prog X.w s.heap D L := (I.hok D _ hD).1
  obtain ⟨hx, _⟩ := heap_3 (X := X.blk s0 H0 sc ce fp) I hb
  have all : ∀ p ∈ rowK L, IsN X.prog X.w s.heap p.2 p.1 := fun p hp => by
    obtain ⟨q, hq, rfl⟩ := List.mem_map.mp hp
    exact (heap_3 (X := X.blk s0 H0 sc ce fp) I (hL q hq)).1
  obtain ⟨o, ho, hex, hd⟩ := R.obj
  refine wpAny_call_entry F.slot_set_add ⟨o, ho, hex.1⟩ F.entry_set_add ?_ (F.args_set_add_2 _ _)
  unfold Builtin.«set.add» Builtin.Frozenset.oneOther
  simp only [List.isEmpty_nil, bind_assoc]
  unfold Builtin.Frozenset.addrOf setAdd
  refine wpAny_bind (wpAny_pure ?_)
  try dsimp only
  refine wpAny_bind (wpAny_pure ?_)
  try dsimp only
  refine wpAny_bind (wpAny_holding (wpAny_bind ((nestedKind X.prog X.w).pyHash ?_ hx.is ?_)))
  · show _ + 8 < cLine
    first
      | (rw [Around.in1_units]; omega)
      | omega
  refine add (s := { s with toks := s.toks + (nestedKind X.prog X.w).draws (kOf x) }) R msk all hx ?_ (by unfold rowK; rw [List.length_map]; exact few) fun bb h' M es' ep' t' sb R' msk' there new => ?_
  · show _ + 8 < cLine
    first
      | (rw [Around.in1_units]; omega)
      | omega
  show wpAny _ _ (ret Value.none) _ _ _
  have eM : ∃ M3 : List (Addr × T3), rowK M3 = M ∧ (x ∈ L.map (·.2) → M3 = L) ∧ (x ∉ L.map (·.2) → M3.Perm ((b, x) :: L)) := by
    by_cases c : x ∈ L.map (·.2)
    · exact ⟨L, (there (mem_rowK.mpr c)).symm, fun _ => rfl, fun z => absurd c z⟩
    · have z := new (fun q => c (mem_rowK.mp q))
      obtain ⟨z1, z2⟩ := row_perm (L := (b, x) :: L) z
      exact ⟨_, z1, fun q => absurd q c, fun _ => z2⟩
  obtain ⟨M3, rfl, e2, e3⟩ := eM
  have new' : SetQ X.prog X.w h' D M3 := ⟨es', ep', t', R', msk'⟩
  obtain ⟨o', ho', _⟩ := R'.obj
  refine wpAny_pure ⟨_, rfl, hQ _ _ (I.write (e := D) (t' := s.toks + (nestedKind X.prog X.w).draws (kOf x)) (by rw [hD]; trivial) (.inl rfl) (fun b u hb hu => (sb.2 b hb).trans hu) ⟨o', ho'⟩ (setO_ok new')) (hN M3 e2 e3)⟩
end Db

namespace Db
open PySem L2 Evl StX NS PyProof.Rows PySem.W
theorem perm_map_ex {α β : Type} {f : α → β} : ∀ {l' : List β} {l : List α}, l'.Perm (l.map f) → ∃ m : List α, m.Perm l ∧ m.map f = l'
  | [], l, h => by
    have z := h.length_eq
    simp only [List.length_nil, List.length_map] at z
    exact ⟨[], by rw [List.length_eq_zero_iff.mp z.symm], rfl⟩
  | v :: r, l, h => by
    obtain ⟨x, hx, rfl⟩ := List.mem_map.mp (h.mem_iff.mp (by simp : v ∈ v :: r))
    obtain ⟨s, t, rfl⟩ := List.append_of_mem hx
    have h1 : (f x :: r).Perm (f x :: (s ++ t).map f) := h.trans (by rw [List.map_append, List.map_cons, List.map_append]; exact List.perm_middle)
    obtain ⟨m, m1, m2⟩ := perm_map_ex h1.cons_inv
    exact ⟨x :: m, (m1.cons x).trans List.perm_middle.symm, by rw [List.map_cons, m2]⟩
def le3 (x y : T3) : Bool := !PySem.W.dataLt (enc3 y) (enc3 x)
def Srt (L : List (Addr × T3)) : Prop := L.Pairwise fun p q => le3 p.2 q.2 = true
theorem alike_w : ∀ a b : List Nat, PySem.W.alikeAll (wD a) (wD b) = true
  | [], _ => by simp [wD, PySem.W.alikeAll]
  | _ :: _, [] => by simp [wD, PySem.W.alikeAll]
  | x :: a, y :: b => by
    show PySem.W.alikeAll (.int x :: wD a) (.int y :: wD b) = true
    rw [PySem.W.alikeAll, alike_w a b]
    simp [PySem.W.alike]
theorem alike_3 (x y : T3) : PySem.W.alike (enc3 x) (enc3 y) = true := by
  unfold enc3
  simp only [PySem.W.alike, PySem.W.alikeAll, alike_w]
  rfl
theorem depth_w (a : List Nat) : PyData.depthAll (wD a) = 0 := by
  induction a with
  | nil => simp [wD, PyData.depthAll]
  | cons n r ih =>
    show PyData.depthAll (.int n :: wD r) = 0
    rw [PyData.depthAll, ih]
    simp [PyData.depth]
theorem depth_3 (x : T3) : (enc3 x).depth = 2 := by
  unfold enc3
  simp only [PyData.depth, PyData.depthAll, depth_w]
  rfl
/-- sorted(set): a new list, rising -/
def rSortedN (P : Program) (w : World) (K : PySem.W.Frag) : List V → Hp → VK → Prop := fun vs H Q => ∃ (a : Addr) (L : List (Addr × T3)), vs = [V.ref a] ∧ H a = some (SetO P w a L) ∧ (∀ p ∈ L, NT K H p.1 p.2) ∧ L.length ≤ 1000 ∧
  ∀ (M : List (Addr × T3)) (p : Addr), M.Perm L → Srt M → (M.map (·.2)).Nodup → H p = none → Q (.ref p) (upd H p (.lst (M.map fun q => V.ref q.1)))
theorem refs_vals : ∀ M : List (Addr × T3), Vals (M.map fun q => V.ref q.1) (M.map fun q => Value.ref q.1)
  | [] => .nil
  | _ :: r => .cons rfl (refs_vals r)
theorem each_refs : ∀ M : List (Addr × T3), PySem.W.EachIs (fun v (p : Addr × T3) => v = Value.ref p.1) (M.map fun q => Value.ref q.1) M
  | [] => .nil
  | _ :: r => .cons rfl (each_refs r)
theorem each_out : ∀ {out : List Value} {M : List (Addr × T3)}, PySem.W.EachIs (fun v (p : Addr × T3) => v = Value.ref p.1) out M → out = M.map fun q => Value.ref q.1
  | _, _, .nil => rfl
  | _, _, .cons e h => by rw [e, each_out h]; rfl
theorem cr_sortedN {X : Cx} (calm : X.calm = true) (hu : X.A.units + 64 < cLine) : CallR X (.builtin "sorted") (rSortedN X.prog X.w X.K) := by
  intro pins s σ H vs us Q I r h
  obtain ⟨a, L, rfl, ha, hL, few, q⟩ := h
  rw [Vals.ref1 r]
  obtain ⟨es, ep, t, R, msk⟩ : SetQ X.prog X.w s.heap a L := (I.hok a _ ha).1
  obtain ⟨o, ho, hex, hd⟩ := R.obj
  have sz : es.size = L.length := by rw [R.size]; exact List.length_map ..
  refine Calls.call_function_entry kind_sorted plain_sorted entry_sorted (args_sorted1 _) ?_
  unfold Builtin.«sorted»
  refine wpAny_bind (m := checkCount "sorted" 1 1 _) (wpAny_pure ?_)
  refine wpAny_bind (collect_set (I.ok.hd calm) ⟨o, ho, hex.1, hd⟩ R.fits (by unfold scanBound; omega) R.tb.up R.led fun s1 vs k1 hz g1 o1 pm => ?_)
  have rows : es.toList.map (·.2) = L.map fun p => Value.ref p.1 := by
    rw [R.rows]
    unfold rowsN rowK
    rw [List.map_map, List.map_map]
    rfl
  rw [rows] at pm
  obtain ⟨L1, p1, e1⟩ := perm_map_ex (f := fun p : Addr × T3 => Value.ref p.1) pm
  subst e1
  have nL : (L.map (·.2)).Nodup := by
    have z := R.nd
    rw [rowK_keys] at z
    exact List.Pairwise.of_map kOf (fun x y ne e => ne (by rw [e])) z
  refine wpAny_bind (wpAny_newList ?_ (by rw [sizeLine_eq, List.length_map, p1.length_eq]; omega))
  have hp : (s1.heap.push (seqObj "list" (L1.map fun p => Value.ref p.1).toArray 0)).get? s1.heap.objs.size = some (seqObj "list" (L1.map fun p => Value.ref p.1).toArray 0) := Heap.get?_push_size _ rfl
  have rd : ∀ p ∈ L1, Reads (s1.heap.push (seqObj "list" (L1.map fun p => Value.ref p.1).toArray 0)) (.ref p.1) (enc3 p.2) [] := fun p hp =>
    PyProof.Rows.Reads.keeps (fun b o e => Heap.get?_push_of_some _ (k1 b o e)) (heap_3 I (hL p (p1.mem_iff.mp hp))).2
  have er : ∀ M : List (Addr × T3), (∀ p ∈ M, p ∈ L1) → PySem.W.EachIs (fun v p => ∃ as, Reads (s1.heap.push (seqObj "list" (L1.map fun p => Value.ref p.1).toArray 0)) v (enc3 p.2) as ∧ s1.heap.objs.size ∉ as) (M.map fun p => Value.ref p.1) M := fun M => by
    induction M with
    | nil => exact fun _ => .nil
    | cons p M ih => exact fun hM => .cons ⟨[], rd p (hM p (by simp)), by simp⟩ (ih fun p' hp' => hM p' (by simp [hp']))
  refine wpAny_bind (wpAny_holding (list_sort_data (s := { s1 with heap := s1.heap.push (seqObj "list" (L1.map fun p => Value.ref p.1).toArray 0) }) (enc := fun p : Addr × T3 => enc3 p.2) hp (each_refs L1) (er L1 fun _ h => h) (AllAlike.of fun p p' => alike_3 _ _) (Sortable.tuples fun p => ⟨_, _, rfl⟩) (by rw [sizeLine_eq, p1.length_eq]; omega) (fun p _ => ?_) fun out hout eo => ?_))
  · rw [depth_3]
    first
      | (simp only [Around.in1_units]; omega)
      | omega
  have eo' := each_out eo
  have pM : (L1.mergeSort (dataLe false fun p : Addr × T3 => enc3 p.2)).Perm L := (List.mergeSort_perm _ _).trans p1
  have srt0 : (L1.mergeSort (dataLe false fun p : Addr × T3 => enc3 p.2)).Pairwise (fun a b => dataLe false (fun p : Addr × T3 => enc3 p.2) a b = true) := sort_pairwise (sortLe_total _ _ _) L1
  have srt : Srt (L1.mergeSort (dataLe false fun p : Addr × T3 => enc3 p.2)) := srt0
  generalize L1.mergeSort (dataLe false fun p : Addr × T3 => enc3 p.2) = M at eo' pM srt
  subst eo'
  obtain ⟨c, hc⟩ := sortedHeap_at (out := (M.map fun p => Value.ref p.1).toArray) hp
  have kept : ∀ b o, s.heap.get? b = some o → (sortedHeap (s1.heap.push (seqObj "list" (L1.map fun p => Value.ref p.1).toArray 0)) s1.heap.objs.size (L1.map fun p => Value.ref p.1) (M.map fun p => Value.ref p.1).toArray).get? b = some o := fun b o e => by
    have e1 := k1 b o e
    have lt := Heap.lt_size e1
    rw [sortedHeap_old (Nat.ne_of_lt lt) (by rw [size_push']; exact Nat.lt_succ_of_lt lt)]
    exact Heap.get?_push_of_some _ e1
  have free : H s1.heap.objs.size = none := I.hok.fresh hz
  have len : (M.map fun p => V.ref p.1).length ≤ sizeLine := by rw [List.length_map, pM.length_eq, sizeLine_eq]; omega
  have J : Inv X pins σ (upd H s1.heap.objs.size (.lst (M.map fun p => V.ref p.1))) { s with heap := sortedHeap (s1.heap.push (seqObj "list" (L1.map fun p => Value.ref p.1).toArray 0)) s1.heap.objs.size (L1.map fun p => Value.ref p.1) (M.map fun p => Value.ref p.1).toArray, gens := s1.gens, drawn := s1.drawn, toks := s1.toks } :=
    I.call (ch := []) (Un.laid kept hz free) (I.hok.laid kept hz ⟨len, _, c, refs_vals M, hc⟩) (by rw [g1]; exact I.bare) (fun _ z => nomatch z)
  refine wpAny_pure ⟨_, rfl, .ref s1.heap.objs.size, _, ?_, rfl, q M _ pM srt ((pM.map (·.2)).nodup_iff.mpr nL) free⟩
  have e : ∀ hh, ({ s1 with heap := hh } : Shared) = { s with heap := hh, gens := s1.gens, drawn := s1.drawn, toks := s1.toks } := fun hh => by
    cases s1
    cases s
    cases o1
    rfl
  exact e _ ▸ J
end Db

namespace Db
open PySem L2 Evl StX NS PyProof.Rows
/-! ### all orders -/
def ordNext (a b : Nat) (o : List Bool) : List (List Bool) := ([false, true].filter fun d => decide (o.count d < if d then b else a)).map fun d => o ++ [d]
def ordersTo (a b : Nat) : Nat → List (List Bool)
  | 0 => [[]]
  | n + 1 => (ordersTo a b n).flatMap (ordNext a b)
def ordersD (a b : Nat) : List (List Bool) := ordersTo a b (a + b)
theorem ordNext_mem {a b : Nat} {o u : List Bool} : u ∈ ordNext a b o ↔ ∃ d : Bool, u = o ++ [d] ∧ o.count d < if d then b else a := by
  unfold ordNext
  constructor
  · intro h
    obtain ⟨d, h1, rfl⟩ := List.mem_map.mp h
    exact ⟨d, rfl, of_decide_eq_true (List.mem_filter.mp h1).2⟩
  · rintro ⟨d, rfl, h⟩
    exact List.mem_map.mpr ⟨d, List.mem_filter.mpr ⟨by cases d <;> simp, decide_eq_true h⟩, rfl⟩
theorem count_snoc (o : List Bool) (c d : Bool) : (o ++ [d]).count c = o.count c + if d = c then 1 else 0 := by
  rw [List.count_append, List.count_singleton]
  cases c <;> cases d <;> rfl
theorem ordersTo_mem {a b : Nat} : ∀ {n : Nat} {o : List Bool}, o ∈ ordersTo a b n ↔ o.length = n ∧ o.count false ≤ a ∧ o.count true ≤ b
  | 0, o => by
    show o ∈ [[]] ↔ _
    rw [List.mem_singleton]
    constructor
    · rintro rfl
      exact ⟨rfl, Nat.zero_le _, Nat.zero_le _⟩
    · exact fun h => List.length_eq_zero_iff.mp h.1
  | n + 1, o => by
    show o ∈ (ordersTo a b n).flatMap (ordNext a b) ↔ _
    rw [List.mem_flatMap]
    constructor
    · rintro ⟨u, h1, h2⟩
      obtain ⟨d, rfl, h3⟩ := ordNext_mem.mp h2
      obtain ⟨k1, k2, k3⟩ := ordersTo_mem.mp h1
      rw [count_snoc, count_snoc, List.length_append, k1]
      refine ⟨rfl, ?_, ?_⟩
      · cases d
        · have h3 : u.count false < a := h3; simp; omega
        · simpa using k2
      · cases d
        · simpa using k3
        · have h3 : u.count true < b := h3; simp; omega
    · rintro ⟨h1, h2, h3⟩
      have hne : o ≠ [] := by rintro rfl; cases h1
      obtain ⟨u, d, rfl⟩ : ∃ u d, o = u ++ [d] := ⟨_, _, (List.dropLast_concat_getLast hne).symm⟩
      rw [count_snoc] at h2 h3
      rw [List.length_append] at h1
      have h1 : u.length + 1 = n + 1 := h1
      refine ⟨u, ordersTo_mem.mpr ⟨by omega, by omega, by omega⟩, ordNext_mem.mpr ⟨d, rfl, ?_⟩⟩
      cases d
      · show u.count false < a
        simp at h2
        omega
      · show u.count true < b
        simp at h3
        omega
theorem ordersD_mem {a b : Nat} {o : List Bool} : o ∈ ordersD a b ↔ o.count false = a ∧ o.count true = b := by
  have z := cnt_both o
  unfold ordersD
  rw [ordersTo_mem]
  constructor
  · rintro ⟨h1, h2, h3⟩
    omega
  · rintro ⟨h1, h2⟩
    omega
theorem ordNext_len (a b : Nat) (o : List Bool) : (ordNext a b o).length ≤ 2 := by
  unfold ordNext
  rw [List.length_map]
  exact List.length_filter_le _ _
theorem flatMap_len {α β : Type} {f : α → List β} {m : Nat} : ∀ {l : List α}, (∀ x ∈ l, (f x).length ≤ m) → (l.flatMap f).length ≤ l.length * m
  | [], _ => Nat.zero_le _
  | x :: r, h => by
    have h1 := h x (by simp)
    have h2 := flatMap_len (l := r) fun y hy => h y (by simp [hy])
    rw [List.flatMap_cons, List.length_append, List.length_cons, Nat.succ_mul]
    omega
theorem ordersTo_len (a b : Nat) : ∀ n, (ordersTo a b n).length ≤ 2 ^ n
  | 0 => Nat.le_refl _
  | n + 1 => by
    have h1 := ordersTo_len a b n
    have h2 := flatMap_len (f := ordNext a b) (l := ordersTo a b n) (m := 2) fun o _ => ordNext_len a b o
    show ((ordersTo a b n).flatMap (ordNext a b)).length ≤ _
    rw [Nat.pow_succ]
    omega
theorem ordersD_few : ∀ a b : Nat, a ≤ 6 → b ≤ 6 → (ordersD a b).length ≤ 924 := by
  have h : ∀ a ∈ List.range 7, ∀ b ∈ List.range 7, (ordersD a b).length ≤ 924 := by decide +kernel
  exact fun a b ha hb => h a (List.mem_range.mpr (by omega)) b (List.mem_range.mpr (by omega))
theorem ord_at {a b : Nat} {l : List (List Bool)} {j : Nat} {o : List Bool} (h : l[j]? = some o) : (l.take (j + 1)).flatMap (ordNext a b) = (l.take j).flatMap (ordNext a b) ++ ordNext a b o := by
  rw [List.take_add_one, h, List.flatMap_append]
  simp
/-- what comes by an order -/
def res (ws : List Nat) (ds es : List Deed) (o : List Bool) : T3 := t3 (fol o (begin0 ws ds es))
def firstD (ws : List Nat) (ds es : List Deed) (x : T3) : Option (List Bool) := (ordersD ds.length es.length).find? fun o => decide (res ws ds es o = x)
theorem eqv_3 (x y : T3) : PyData.eqv (enc3 x) (enc3 y) = decide (x = y) := by
  obtain ⟨a, b, c⟩ := x
  obtain ⟨d, e, f⟩ := y
  unfold enc3
  simp only [PyData.eqv, PyData.eqvAll, eqvA_w, Bool.and_true]
  rw [← Bool.decide_and, ← Bool.decide_and]
  exact decide_eq_decide.mpr (by simp only [Prod.mk.injEq])
theorem sh_3 (x : T3) : Sh 2 (enc3 x) := sh_tup fun d hd => by
  simp only [List.mem_cons, List.not_mem_nil, or_false] at hd
  rcases hd with rfl | rfl | rfl <;> exact sh_wT _
theorem sqt_upd {K : PySem.W.Frag} {H : Hp} {D a : Addr} {o o' : HO} {xs : List V} (h : H D = some o) (n1 : ∀ ys, o ≠ .tup ys) (n2 : ∀ z u, o ≠ .frz z u) (q : SqT K H a xs) : SqT K (upd H D o') a xs := by
  have ne : ∀ o2, H a = some o2 → o2 ≠ o → a ≠ D := by
    rintro o2 e n rfl
    rw [h] at e
    exact n (Option.some.inj e).symm
  rcases q with (q | ⟨z, q⟩) | q
  · exact .inl (.inl (by rw [upd_ne (ne _ q (n1 _).symm)]; exact q))
  · exact .inl (.inr ⟨z, by rw [upd_ne (ne _ q (n2 _ _).symm)]; exact q⟩)
  · exact .inr q
theorem setO_nef {P : Program} {w : World} {a : Addr} {L : List (Addr × T3)} {z : Obj} {u : HO} : SetO P w a L ≠ .frz z u := fun e => by
  unfold SetO at e
  cases e
theorem NT.set {K : PySem.W.Frag} {H : Hp} {D b : Addr} {x : T3} {P : Program} {w : World} {L : List (Addr × T3)} {o' : HO} (h : H D = some (SetO P w D L)) (q : NT K H b x) : NT K (upd H D o') b x := by
  obtain ⟨s, o, m, h1, h2, h3, h4⟩ := q
  have n1 : ∀ ys, SetO P w D L ≠ .tup ys := fun _ => setO_net
  have n2 : ∀ z u, SetO P w D L ≠ .frz z u := fun _ _ => setO_nef
  exact ⟨s, o, m, sqt_upd h n1 n2 h1, sqt_upd h n1 n2 h2, sqt_upd h n1 n2 h3, sqt_upd h n1 n2 h4⟩
/-- x not in a list of such -/
def rNotInN (K : PySem.W.Frag) : R2 := fun x y H Q => ∃ (b : Addr) (k : T3) (l : Addr) (M : List (Addr × T3)), x = .ref b ∧ NT K H b k ∧ y = .ref l ∧ SqL K H l (M.map fun p => V.ref p.1) ∧ (∀ p ∈ M, NT K H p.1 p.2) ∧ Q (.bl (!decide (k ∈ M.map (·.2)))) H
theorem plain_w (a : List Nat) : PyData.plainAll (wD a) = true := by
  induction a with
  | nil => rfl
  | cons n r ih =>
    show PyData.plainAll (.int n :: wD r) = true
    rw [PyData.plainAll, ih]
    rfl
theorem plain_3 (x : T3) : (enc3 x).plain = true := by
  unfold enc3
  simp only [PyData.plain, PyData.plainAll, plain_w]
  rfl
theorem plain_3s : ∀ M : List (Addr × T3), PyData.plainAll (M.map fun p => enc3 p.2) = true
  | [] => rfl
  | p :: r => by
    rw [List.map_cons, PyData.plainAll, plain_3, plain_3s r]
    rfl
theorem depth_3s : ∀ M : List (Addr × T3), PyData.depthAll (M.map fun p => enc3 p.2) ≤ 2
  | [] => Nat.zero_le _
  | p :: r => by
    rw [List.map_cons, PyData.depthAll, depth_3]
    exact Nat.max_le.mpr ⟨Nat.le_refl _, depth_3s r⟩
theorem any_3 (k : T3) : ∀ M : List (Addr × T3), ((M.map fun p => enc3 p.2).any fun y => PyData.eqv y (enc3 k)) = decide (k ∈ M.map (·.2))
  | [] => rfl
  | p :: r => by
    rw [List.map_cons, List.any_cons, any_3 k r, eqv_3, List.map_cons, ← Bool.decide_or]
    exact decide_eq_decide.mpr (by rw [List.mem_cons]; exact or_congr_left eq_comm)
theorem op_notInN {X : Cx} (calm : X.calm = true) (hu : X.A.units + 64 < cLine) : OpR X (compareOp .NotIn) (rNotInN X.K) := by
  intro pins s σ H x y v u Q I rx ry h
  obtain ⟨b, k, l, M, rfl, hb, rfl, hl, hM, q⟩ := h
  cases (show v = Value.ref b from rx)
  cases (show u = Value.ref l from ry)
  obtain ⟨its, rv, pl, hz⟩ := I.list hl
  have ei : its = M.map fun p => Value.ref p.1 := by
    have key : ∀ (M : List (Addr × T3)) (its : List Value), Vals (M.map fun p => V.ref p.1) its → its = M.map fun p => Value.ref p.1 := fun M => by
      induction M with
      | nil => intro its r; cases r; rfl
      | cons p M ih =>
        intro its r
        cases r with
        | cons a t =>
          cases (show _ = Value.ref p.1 from a)
          rw [ih _ t]
          rfl
    exact key M its rv
  subst ei
  have all : ∀ M' : List (Addr × T3), (∀ p ∈ M', NT X.K H p.1 p.2) → ReadsAll s.heap (M'.map fun p => Value.ref p.1) (M'.map fun p => enc3 p.2) [] := fun M' => by
    induction M' with
    | nil => exact fun _ => .nil
    | cons p M' ih => exact fun hM' => .cons (as := []) (bs := []) (heap_3 I (hM' p (by simp))).2 (ih fun p' hp' => hM' p' (by simp [hp']))
  obtain ⟨o, ho, hc, n, hd⟩ := pl.isList
  have rl : Reads s.heap (.ref l) (.list (M.map fun p => enc3 p.2)) [l] := .list ho hc hd (by simpa using all M hM)
  refine PySem.SeqAt.notIn_list_data rl (heap_3 I hb).2 (plain_3s M) (plain_3 k) ?_ ⟨.bl _, H, I, rfl, ?_⟩
  · have z := depth_3s M
    have : min (PyData.depthAll (M.map fun p => enc3 p.2)) (enc3 k).depth ≤ 2 := Nat.le_trans (Nat.min_le_left _ _) z
    omega
  · rw [any_3]
    exact q
structure NbS (mg : Str → Option Value) : Prop where
  n_sorted : mg "sorted" = none
  n_all : mg "all" = none
theorem nbs_mk {K : PySem.W.Frag} {h : Heap} {mg : Str → Option Value} (X : K.In h) (G : h.Ns mainGlobals mg) (h1 : PySem.W.nsIn K mainGlobals "sorted" = some none) (h2 : PySem.W.nsIn K mainGlobals "all" = some none) : NbS mg := ⟨PySem.W.mg_none_of X G h1, PySem.W.mg_none_of X G h2⟩
structure TxO6 (mg : Str → Option Value) (t6 : Tok) : Prop where
  g_MOST_TO_ORDER : mg "MOST_TO_ORDER" = some (.int 6 t6)
theorem txo6_mk {K : PySem.W.Frag} {h : Heap} {mg : Str → Option Value} {t6 : Tok} (X : K.In h) (G : h.Ns mainGlobals mg) (a1 : PySem.W.nsIn K mainGlobals "MOST_TO_ORDER" = some (some (.int 6 t6))) : TxO6 mg t6 := ⟨PySem.W.mg_of X G a1⟩
def manyK (a b : Nat) : List (Key × V) := [(.inr "l", .int (a : Int)), (.inr "r", .int (b : Int))]
theorem many_at (a b : Nat) (d : Bool) : valV (mergeK [] (manyK a b)) (.inr (oS [d])) = some (.int ((if d then b else a : Nat) : Int)) := by
  cases d with
  | false => rw [← oS_l]; rfl
  | true => rw [← oS_r]; rfl
theorem ev_dget {σ : L2.St} {H : Hp} {td ty : TE} {D : Addr} {kvs : List (Key × V)} {k : Key} {v : V} (ho : Ev td σ H (.ref D)) (hi : Ev ty σ H (kV k)) (hD : H D = some (.dK kvs)) (hv : valV kvs k = some v) : Ev (tDGet td ty) σ H v := fun H1 e Q q =>
  ho H1 e _ fun H2 e2 => hi H2 (e.trans e2) _ fun H3 e3 => ⟨D, v, rfl, by rw [← hv]; exact DGet.k (k := k) (((e.trans e2).trans e3) _ _ hD), q H3 (e2.trans e3)⟩
theorem find_at {α : Type} {f : α → Bool} : ∀ {l : List α} {j : Nat} {o : α}, l[j]? = some o → f o = true → (∀ u ∈ l.take j, f u = false) → l.find? f = some o
  | x :: r, 0, o, h, hf, _ => by
    cases h
    rw [List.find?_cons, hf]
  | x :: r, j + 1, o, h, hf, hn => by
    rw [List.find?_cons, hn x (by simp)]
    exact find_at (l := r) (j := j) (by simpa using h) hf fun u hu => hn u (by simp [hu])
theorem all_reps (n : Nat) : (List.replicate n true).all id = true := List.all_eq_true.mpr fun y hy => by rw [(List.mem_replicate.mp hy).2]; rfl
theorem ev_all {K : PySem.W.Frag} {σ : L2.St} {H : Hp} {te : TE} {bs : List Bool} (h : EvL te σ H (bs.map V.bl)) : Ev (tCB (rAll K) (tCons te tNil)) σ H (.bl (bs.all id)) := fun H1 e Q q => h H1 e _ fun p H2 np e2 hp => ⟨p, bs, rfl, SqL.of hp, q H2 e2⟩
end Db

namespace Db
open PySem L2 Evl StX NS
/-! ### each rule is an order -/
def Deed.isR : Deed → Bool
  | .rd _ => true
  | _ => false
/-- whether the right one comes first in a beat -/
def late (r : Rule) (d e : Deed) : Bool := if r = .new then d.isR || (d.isW && e.isW) else d.isW
def turned (r : Rule) (d e : Deed) : Bool := decide (r = .right) || ((decide (r = .old) || decide (r = .new)) && late r d e)
def beatO (r : Rule) (S : Sts) : List Bool :=
  if turned r (S.l.headD .rs) (S.r.headD .rs) = true then (if S.r ≠ [] ∧ waits r S = false then [true] else []) ++ (if S.l ≠ [] then [false] else [])
  else (if S.l ≠ [] then [false] else []) ++ (if S.r ≠ [] ∧ waits r S = false then [true] else [])
def byF (r : Rule) : Nat → Sts → List Bool
  | 0, _ => []
  | n + 1, S => if S.done then [] else beatO r S ++ byF r n (one r S)
def byO (r : Rule) (S : Sts) : List Bool := byF r S.meas S
theorem byF_more {r : Rule} : ∀ (n : Nat) (S : Sts), S.meas ≤ n → byF r n S = byF r S.meas S
  | 0, S, h => by
    have z : S.meas = 0 := by omega
    rw [z]
  | n + 1, S, h => by
    by_cases d : S.done
    · have z : S.meas = 0 := by
        obtain ⟨h1, h2⟩ := d
        unfold Sts.meas
        rw [h1, h2]
        rfl
      rw [z]
      show byF r (n + 1) S = []
      simp only [byF, if_pos d]
    · have less := one_less (r := r) d
      obtain ⟨m, hm⟩ : ∃ m, S.meas = m + 1 := ⟨S.meas - 1, by omega⟩
      rw [hm, byF, byF, if_neg d, if_neg d, byF_more n (one r S) (by omega), byF_more m (one r S) (by omega)]
theorem byO_done {r : Rule} {S : Sts} (h : S.done) : byO r S = [] := by
  have z : S.meas = 0 := by
    obtain ⟨h1, h2⟩ := h
    unfold Sts.meas
    rw [h1, h2]
    rfl
  unfold byO
  rw [z]
  rfl
theorem byO_one {r : Rule} {S : Sts} (h : ¬ S.done) : byO r S = beatO r S ++ byO r (one r S) := by
  have less := one_less (r := r) h
  obtain ⟨m, hm⟩ : ∃ m, S.meas = m + 1 := ⟨S.meas - 1, by omega⟩
  unfold byO
  rw [hm, byF, if_neg h, byF_more m (one r S) (by omega)]
theorem wrl_rd (ws : List Nat) {d : Deed} (h : d.isW = false) : wrl ws d = ws := by
  cases d with
  | rd c => rfl
  | wr c x => cases h
  | rs => rfl
theorem rdl_no (ws : List Nat) {d : Deed} (h : d.isR = false) : rdl ws d = [] := by
  cases d with
  | rd c => cases h
  | wr c x => rfl
  | rs => rfl
def noN (S : Sts) : List Nat × List Deed × List Deed × List Nat × List Nat := (S.ws, S.l, S.r, S.ss, S.os)
theorem oneB_noN {S U : Sts} (h : noN S = noN U) (b : Bool) : noN (oneB S b) = noN (oneB U b) := by
  unfold noN at h
  simp only [Prod.mk.injEq] at h
  obtain ⟨h1, h2, h3, h4, h5⟩ := h
  unfold oneB noN
  cases b <;> simp [h1, h2, h3, h4, h5]
theorem fol_noN : ∀ (o : List Bool) {S U : Sts}, noN S = noN U → noN (fol o S) = noN (fol o U)
  | [], _, _, h => h
  | b :: o, _, _, h => fol_noN o (oneB_noN h b)
theorem noN_t3 {S U : Sts} (h : noN S = noN U) : t3 S = t3 U := by
  unfold noN at h
  simp only [Prod.mk.injEq] at h
  unfold t3
  rw [h.1, h.2.2.2.1, h.2.2.2.2]
/-- a beat is its deeds in this order -/
theorem beat_ord {r : Rule} {S : Sts} : noN (fol (beatO r S) S) = noN (one r S) := by
  obtain ⟨ws, l, rr, ss, os, n⟩ := S
  have hw : waits r ⟨ws, l, rr, ss, os, n⟩ = (decide (r = .wait) && clashD (l.headD .rs) (rr.headD .rs)) := rfl
  by_cases w : waits r ⟨ws, l, rr, ss, os, n⟩ = true
  · -- the right one waits
    have hl : l ≠ [] := waits_l w
    rw [hw, Bool.and_eq_true] at w
    obtain ⟨w1, w2⟩ := w
    have er := of_decide_eq_true w1
    subst er
    obtain ⟨d, ls, rfl⟩ : ∃ d ls, l = d :: ls := by
      cases l with
      | nil => exact absurd rfl hl
      | cons d ls => exact ⟨d, ls, rfl⟩
    have ww : waits .wait ⟨ws, d :: ls, rr, ss, os, n⟩ = true := by rw [hw, w1, w2]; rfl
    have eb : beatO .wait ⟨ws, d :: ls, rr, ss, os, n⟩ = [false] := by
      unfold beatO
      rw [ww]
      simp [turned]
    rw [eb]
    unfold one
    rw [if_pos ww]
    simp [fol, oneB, after, beat, noN, rdl_no _ (show Deed.rs.isR = false from rfl), wrl_rd _ (show Deed.rs.isW = false from rfl)]
  · have wf : waits r ⟨ws, l, rr, ss, os, n⟩ = false := by simpa using w
    unfold one
    rw [if_neg w]
    unfold beatO
    rw [wf]
    cases l with
    | nil =>
      cases rr with
      | nil =>
        cases r <;> simp [turned, late, fol, after, beat, noN, wrl, rdl, Deed.isW, Deed.isR]
      | cons e rs =>
        cases r <;> cases e <;> simp [turned, late, fol, oneB, after, beat, noN, wrl, rdl, Deed.isW, Deed.isR]
    | cons d ls =>
      cases rr with
      | nil =>
        cases r <;> cases d <;> simp [turned, late, fol, oneB, after, beat, noN, wrl, rdl, Deed.isW, Deed.isR]
      | cons e rs =>
        cases r <;> cases d <;> cases e <;> simp [turned, late, fol, oneB, after, beat, noN, wrl, rdl, Deed.isW, Deed.isR]
theorem one_noN {r : Rule} {S U : Sts} (h : noN S = noN U) : noN (one r S) = noN (one r U) := by
  rw [← beat_ord, ← beat_ord (S := U)]
  have e : beatO r S = beatO r U := by
    unfold noN at h
    simp only [Prod.mk.injEq] at h
    obtain ⟨h1, h2, h3, h4, h5⟩ := h
    unfold beatO waits
    rw [h2, h3]
  rw [e]
  exact fol_noN _ h
theorem by_ord {r : Rule} : ∀ (n : Nat) (S : Sts), noN (fol (byF r n S) S) = noN (runF r n S)
  | 0, S => rfl
  | n + 1, S => by
    by_cases d : S.done
    · rw [byF, if_pos d, runF_done d]
      rfl
    · rw [byF, if_neg d, fol_app, runF, stepS_of d, ← by_ord n (one r S)]
      exact fol_noN _ beat_ord
/-- what a rule tells comes by its order -/
theorem by_res (r : Rule) (ws : List Nat) (ds es : List Deed) : res ws ds es (byO r (begin0 ws ds es)) = t3 (out r (begin0 ws ds es)) := noN_t3 (by_ord _ _)
theorem beatO_count (r : Rule) (S : Sts) : (beatO r S).count false + (one r S).l.length = S.l.length ∧ (beatO r S).count true + (one r S).r.length = S.r.length := by
  obtain ⟨ws, l, rr, ss, os, n⟩ := S
  by_cases w : waits r ⟨ws, l, rr, ss, os, n⟩ = true
  · have hl : l ≠ [] := waits_l w
    unfold one beatO
    rw [if_pos w, w]
    have hl1 : 0 < l.length := List.length_pos_iff.mpr hl
    split <;> simp [after, hl] <;> omega
  · have wf : waits r ⟨ws, l, rr, ss, os, n⟩ = false := by simpa using w
    unfold one beatO
    rw [if_neg w, wf]
    cases l <;> cases rr <;> split <;> simp [after] <;> omega
theorem byF_count {r : Rule} : ∀ (n : Nat) (S : Sts), S.meas ≤ n → (byF r n S).count false = S.l.length ∧ (byF r n S).count true = S.r.length
  | 0, S, h => by
    have z : S.l.length + S.r.length ≤ 0 := h
    show 0 = _ ∧ 0 = _
    omega
  | n + 1, S, h => by
    by_cases d : S.done
    · rw [byF, if_pos d]
      obtain ⟨h1, h2⟩ := d
      rw [h1, h2]
      exact ⟨rfl, rfl⟩
    · have less := one_less (r := r) d
      obtain ⟨c1, c2⟩ := byF_count n (one r S) (by omega)
      obtain ⟨b1, b2⟩ := beatO_count r S
      rw [byF, if_neg d]
      refine ⟨List.count_append.trans ?_, List.count_append.trans ?_⟩
      · exact (congrArg _ c1).trans b1
      · exact (congrArg _ c2).trans b2
theorem byO_count (r : Rule) (ws : List Nat) (ds es : List Deed) : (byO r (begin0 ws ds es)).count false = ds.length ∧ (byO r (begin0 ws ds es)).count true = es.length := byF_count _ _ (Nat.le_refl _)
section
variable {K : PySem.W.Frag} {σ : L2.St} {H : Hp} {t : TT} {tu tz : TS} {D : Ends}
theorem q_ifJ {b : Bool} (M : L2.St → Hp → Prop) (ev : EvT t σ H b) (h1 : b = true → ∀ H1, Ex H H1 → ∀ N : L2.St → Hp → Prop, (∀ σ' H', M σ' H' → N σ' H') → tu { D with nx := N } σ H1) (h2 : b = false → ∀ H1, Ex H H1 → M σ H1) (k : ∀ σ' H', M σ' H' → tz D σ' H') : tSeq (tIfS t tu tNext) tz D σ H :=
  q_when ev (fun hb H1 e => h1 hb H1 e _ k) fun hb H1 e => k _ _ (h2 hb H1 e)
theorem q_parN {ta : TA} {i j : Nat} {x y : V} (h : EvA ta σ H [x, y]) (k : ∀ H1, Ex H H1 → tz D ((σ.set i (some x)).set j (some y)) H1) : tSeq (tPar i j ta) tz D σ H := h H (Ex.refl H) _ fun H1 e => ⟨x, y, rfl, k H1 e⟩
end
theorem tag_is_w (d : Deed) : decide (V.str d.tag = V.str "write") = d.isW := by
  cases d with
  | rd c => exact (by decide +kernel : decide (V.str "read" = V.str "write") = false)
  | wr c x => exact (by decide +kernel : decide (V.str "write" = V.str "write") = true)
  | rs => exact (by decide +kernel : decide (V.str "rest" = V.str "write") = false)
theorem tag_is_r (d : Deed) : decide (V.str d.tag = V.str "read") = d.isR := by
  cases d with
  | rd c => exact (by decide +kernel : decide (V.str "read" = V.str "read") = true)
  | wr c x => exact (by decide +kernel : decide (V.str "write" = V.str "read") = false)
  | rs => exact (by decide +kernel : decide (V.str "rest" = V.str "read") = false)
theorem tag_eq_w (d e : Deed) : (decide (V.str d.tag = V.str e.tag) && decide (V.str e.tag = V.str "write")) = (d.isW && e.isW) := by
  rw [tag_is_w]
  cases he : e.isW with
  | false => simp
  | true =>
    have e1 : V.str e.tag = V.str "write" := of_decide_eq_true (by rw [tag_is_w, he])
    rw [e1, tag_is_w]
theorem name_is (r q : Rule) : decide (V.str r.name = V.str q.name) = decide (r = q) := by
  cases r <;> cases q <;> decide +kernel
theorem in_on (r : Rule) : inV (.str r.name) [.str "old", .str "new"] = (decide (r = .old) || decide (r = .new)) := by
  cases r <;> decide +kernel
def optO (c : Prop) [Decidable c] (b : Bool) : List Bool := if c then [b] else []
theorem optO_rep (c : Prop) [Decidable c] (b : Bool) : List.replicate (if decide c = true then 1 else 0) b = optO c b := by
  unfold optO
  by_cases h : c
  · simp [h]
  · simp [h]
theorem beatO_opt (r : Rule) (S : Sts) : beatO r S = if turned r (S.l.headD .rs) (S.r.headD .rs) = true then optO (S.r ≠ [] ∧ waits r S = false) true ++ optO (S.l ≠ []) false else optO (S.l ≠ []) false ++ optO (S.r ≠ [] ∧ waits r S = false) true := rfl
theorem drop_ne {l : List Deed} {a : Nat} : l.drop a ≠ [] ↔ a < l.length := by
  rw [← List.length_pos_iff, List.length_drop]
  omega
theorem drop_tail {l : List Deed} {a : Nat} : (l.drop a).tail = l.drop (a + 1) := by
  rw [← List.drop_one, List.drop_drop]
theorem one_l (r : Rule) (S : Sts) : (one r S).l = S.l.tail := by
  unfold one
  split <;> rfl
theorem one_r (r : Rule) (S : Sts) : (one r S).r = if waits r S = true then S.r else S.r.tail := by
  unfold one
  split <;> rfl
theorem join_oS : ∀ l : List (List Bool), Txt.join "" (l.map oS) = oS l.flatten := fun l => by
  have e : ("" : Str) = ⟨#[]⟩ := by decide +kernel
  rw [e]
  refine (StrLaws.glued_eq_join _ _).trans ?_
  induction l with
  | nil => exact oS_nil.symm.trans e ▸ rfl
  | cons x r ih =>
    cases r with
    | nil => simp [Str.join]
    | cons y r =>
      show oS x ++ ⟨#[]⟩ ++ Str.join ⟨#[]⟩ ((y :: r).map oS) = _
      rw [ih, ← e, oS_nil, oS_app, oS_app]
      simp
theorem rdl_small {ws : List Nat} (h : ∀ x ∈ ws, x < 3) (d : Deed) : ∀ x ∈ rdl ws d, x < 3 := by
  cases d with
  | rd c =>
    intro x hx
    have e : x = ws.getD c 0 := by simpa [rdl] using hx
    rw [e, List.getD_eq_getElem?_getD]
    cases hc : ws[c]? with
    | none => decide
    | some y => exact h y (List.mem_of_getElem? hc)
  | wr c x => exact fun _ z => nomatch z
  | rs => exact fun _ z => nomatch z
theorem fol_small3' {c : Nat} : ∀ (o : List Bool) (S : Sts), S.ws.length = c → (∀ x ∈ S.ws, x < 3) → (∀ d ∈ S.l, d.ok c) → (∀ d ∈ S.r, d.ok c) → (∀ x ∈ S.ss, x < 3) → (∀ x ∈ S.os, x < 3) → (∀ x ∈ (fol o S).ss, x < 3) ∧ ∀ x ∈ (fol o S).os, x < 3
  | [], S, _, _, _, _, h1, h2 => ⟨h1, h2⟩
  | b :: o, S, hl, hw, hL, hR, h1, h2 => by
    cases b with
    | false =>
      refine fol_small3' o (oneB S false) ((wrl_length _ _).trans hl) (wrl_small hw (ok_headD hL)) (fun d hd => hL d (mem_tail hd)) hR (fun x hx => ?_) h2
      have hx : x ∈ S.ss ++ rdl S.ws (S.l.headD .rs) := hx
      exact (List.mem_append.mp hx).elim (h1 x) (rdl_small hw _ x)
    | true =>
      refine fol_small3' o (oneB S true) ((wrl_length _ _).trans hl) (wrl_small hw (ok_headD hR)) hL (fun d hd => hR d (mem_tail hd)) h1 (fun x hx => ?_)
      have hx : x ∈ S.os ++ rdl S.ws (S.r.headD .rs) := hx
      exact (List.mem_append.mp hx).elim (h2 x) (rdl_small hw _ x)
theorem first_some {ws : List Nat} {ds es : List Deed} {x : T3} {o : List Bool} (h : res ws ds es o = x) (h1 : o.count false = ds.length) (h2 : o.count true = es.length) : ∃ u, firstD ws ds es x = some u ∧ res ws ds es u = x ∧ u.count false = ds.length ∧ u.count true = es.length := by
  unfold firstD
  cases hf : (ordersD ds.length es.length).find? fun o => decide (res ws ds es o = x) with
  | none =>
    have z := List.find?_eq_none.mp hf o (ordersD_mem.mpr ⟨h1, h2⟩)
    simp [h] at z
  | some u =>
    have z := List.find?_some hf
    obtain ⟨c1, c2⟩ := ordersD_mem.mp (List.mem_of_find?_eq_some hf)
    exact ⟨u, rfl, of_decide_eq_true z, c1, c2⟩
end Db

namespace Db
open PySem L2 Evl StX
/-! ### the right program fitted -/
structure FitS where
  prog : List Deed
  why : List (Nat × Nat)
  num : Nat
def FitS.done (es : List Deed) (S : FitS) : Prop := es.length ≤ S.num
def FitS.cl (ds es : List Deed) (S : FitS) : Bool := clashD (ds.getD S.prog.length .rs) (es.getD S.num .rs)
def fitOne (ds es : List Deed) (S : FitS) : FitS :=
  if S.cl ds es then ⟨S.prog ++ [.rs], S.why ++ [(S.prog.length, S.num)], S.num⟩ else ⟨S.prog ++ [es.getD S.num .rs], S.why, S.num + 1⟩
instance (es : List Deed) (S : FitS) : Decidable (S.done es) := inferInstanceAs (Decidable (_ ≤ _))
def fitStep (ds es : List Deed) (S : FitS) : FitS := if S.done es then S else fitOne ds es S
def FitS.meas (ds es : List Deed) (S : FitS) : Nat := (es.length - S.num) + (ds.length - S.prog.length)
theorem clash_rs (d : Deed) : clashD .rs d = false := by cases d <;> rfl
theorem clash_rs' (d : Deed) : clashD d .rs = false := by cases d <;> rfl
theorem cl_lt {ds es : List Deed} {S : FitS} (h : S.cl ds es = true) : S.prog.length < ds.length := by
  by_cases z : S.prog.length < ds.length
  · exact z
  · unfold FitS.cl at h
    rw [List.getD_eq_getElem?_getD, List.getElem?_eq_none (by omega)] at h
    have e := clash_rs (es.getD S.num .rs)
    simp only [Option.getD_none] at h
    rw [e] at h
    cases h
theorem fitOne_less {ds es : List Deed} {S : FitS} (h : ¬ S.done es) : (fitOne ds es S).meas ds es < S.meas ds es := by
  unfold FitS.done at h
  unfold fitOne
  by_cases hc : S.cl ds es = true
  · have := cl_lt hc
    rw [if_pos hc]
    unfold FitS.meas
    simp only [List.length_append, List.length_cons, List.length_nil]
    omega
  · rw [if_neg hc]
    unfold FitS.meas
    simp only [List.length_append, List.length_cons, List.length_nil]
    omega
def fitF (ds es : List Deed) : Nat → FitS → FitS
  | 0, S => S
  | n + 1, S => fitF ds es n (fitStep ds es S)
theorem fitF_done {ds es : List Deed} {S : FitS} (h : S.done es) : ∀ n, fitF ds es n S = S
  | 0 => rfl
  | n + 1 => by
    have e : fitStep ds es S = S := if_pos h
    rw [fitF, e]
    exact fitF_done h n
theorem fitF_more {ds es : List Deed} : ∀ (n : Nat) (S : FitS), S.meas ds es ≤ n → fitF ds es n S = fitF ds es (S.meas ds es) S
  | 0, S, h => by rw [show S.meas ds es = 0 by omega]
  | n + 1, S, h => by
    by_cases hd : S.done es
    · rw [fitF_done hd, fitF_done hd]
    · have hl := fitOne_less (ds := ds) hd
      obtain ⟨m, hm⟩ : ∃ m, S.meas ds es = m + 1 := ⟨S.meas ds es - 1, by omega⟩
      have e : fitStep ds es S = fitOne ds es S := if_neg hd
      rw [hm, fitF, fitF, e, fitF_more n _ (by omega)]
      by_cases z : m = n
      · rw [z, fitF_more n _ (by omega)]
      · exact (fitF_more m _ (by omega)).symm
  termination_by n => n
def fitEnd (ds es : List Deed) (S : FitS) : FitS := fitF ds es (S.meas ds es) S
theorem fitEnd_done {ds es : List Deed} {S : FitS} (h : S.done es) : fitEnd ds es S = S := fitF_done h _
theorem fitEnd_one {ds es : List Deed} {S : FitS} (h : ¬ S.done es) : fitEnd ds es (fitOne ds es S) = fitEnd ds es S := by
  unfold fitEnd
  have hl := fitOne_less (ds := ds) h
  obtain ⟨m, hm⟩ : ∃ m, S.meas ds es = m + 1 := ⟨S.meas ds es - 1, by omega⟩
  have e : fitStep ds es S = fitOne ds es S := if_neg h
  rw [hm, fitF, e, fitF_more m _ (by omega)]
def fit0 : FitS := ⟨[], [], 0⟩
/-- each tuple of a reason holds -/
def whyOk (ds es : List Deed) (ahead : Nat) (least : Int) : List (Int × Int) → Bool
  | [] => true
  | (b, n) :: r => (decide (least ≤ n ∧ n < es.length) && decide (b = n + ahead)) && (clashD (ds.getD b.toNat .rs) (es.getD n.toNat .rs) && whyOk ds es (ahead + 1) n r)
theorem whyOk_app {ds es : List Deed} : ∀ (r : List (Int × Int)) (ahead : Nat) (least b n : Int), whyOk ds es ahead least (r ++ [(b, n)]) = (whyOk ds es ahead least r && (decide (((r.map (·.2)).getLastD least) ≤ n ∧ n < es.length) && decide (b = n + (ahead + r.length : Nat)) && clashD (ds.getD b.toNat .rs) (es.getD n.toNat .rs)))
  | [], ahead, least, b, n => by
    show (_ && (_ && true)) = (true && _)
    simp
  | (b', n') :: r, ahead, least, b, n => by
    have h := whyOk_app (ds := ds) (es := es) r (ahead + 1) n' b n
    show (_ && (_ && whyOk ds es (ahead + 1) n' (r ++ [(b, n)]))) = ((_ && (_ && whyOk ds es (ahead + 1) n' r)) && _)
    rw [h]
    have e : ahead + 1 + r.length = ahead + ((b', n') :: r).length := by rw [List.length_cons]; omega
    rw [e]
    have e2 : (((b', n') :: r).map (·.2)).getLastD least = (r.map (·.2)).getLastD n' := by
      cases r with
      | nil => rfl
      | cons x r => rfl
    rw [e2]
    simp only [Bool.and_assoc]
def whyI (l : List (Nat × Nat)) : List (Int × Int) := l.map fun p => ((p.1 : Int), (p.2 : Int))
/-- the fewest rests, by trying all -/
def leastD (ds : List Deed) : Nat → List Deed → Nat → Nat
  | 0, _, _ => 0
  | f + 1, [], b => 0
  | f + 1, e :: t, b => if ds.length ≤ b then 0 else if clashD (ds.getD b .rs) e = true then 1 + leastD ds f (e :: t) (b + 1) else min (1 + leastD ds f (e :: t) (b + 1)) (leastD ds f t (b + 1))
theorem leastD_end {ds : List Deed} {f : Nat} {r : List Deed} {b : Nat} (h : ds.length ≤ b) : leastD ds f r b = 0 := by
  cases f with
  | zero => rfl
  | succ f =>
    cases r with
    | nil => rfl
    | cons e t => rw [leastD, if_pos h]
theorem leastD_nil {ds : List Deed} {f : Nat} {b : Nat} : leastD ds f [] b = 0 := by cases f <;> rfl
theorem leastD_B {ds : List Deed} {f : Nat} {r : List Deed} {b : Nat} : leastD ds (f + 1) r b ≤ 1 + leastD ds f r (b + 1) := by
  cases r with
  | nil => rw [leastD_nil]; omega
  | cons e t =>
    rw [leastD]
    split
    · omega
    · split
      · omega
      · omega
theorem leastD_C {ds : List Deed} : ∀ (f : Nat) (e : Deed) (t : List Deed) (b : Nat), ds.length ≤ b + f → leastD ds f t b ≤ 1 + leastD ds f (e :: t) b
  | 0, _, _, _, _ => by show 0 ≤ _; omega
  | f + 1, e, t, b, h => by
    have ih := leastD_C (ds := ds) f e t (b + 1) (by omega)
    have hB := leastD_B (ds := ds) (f := f) (r := t) (b := b)
    by_cases hb : ds.length ≤ b
    · rw [leastD_end hb]; omega
    · rw [leastD.eq_3, if_neg hb]
      split
      · omega
      · omega
theorem leastD_no {ds : List Deed} {f : Nat} {e : Deed} {t : List Deed} {b : Nat} (h : ds.length ≤ b + (f + 1)) (hc : clashD (ds.getD b .rs) e = false) : leastD ds (f + 1) (e :: t) b = leastD ds f t (b + 1) := by
  by_cases hb : ds.length ≤ b
  · rw [leastD_end hb, leastD_end (by omega)]
  · have hC := leastD_C (ds := ds) f e t (b + 1) (by omega)
    rw [leastD, if_neg hb, hc, if_neg Bool.false_ne_true]
    omega
theorem leastD_yes {ds : List Deed} {f : Nat} {e : Deed} {t : List Deed} {b : Nat} (hc : clashD (ds.getD b .rs) e = true) (hb : b < ds.length) : leastD ds (f + 1) (e :: t) b = 1 + leastD ds f (e :: t) (b + 1) := by
  rw [leastD, if_neg (by omega), if_pos hc]
/-- what stays through all steps -/
structure FitOk (ds es : List Deed) (c : Nat) (S : FitS) : Prop where
  num : S.num ≤ es.length
  len : S.prog.length = S.num + S.why.length
  all : S.prog.length + S.meas ds es ≤ ds.length + es.length
  free : ∀ j, clashD (ds.getD j .rs) (S.prog.getD j .rs) = false
  ok : ∀ d ∈ S.prog, d.ok c
  why : whyOk ds es 0 0 (whyI S.why) = true
  last : ((whyI S.why).map (·.2)).getLastD 0 ≤ S.num
  least : S.why.length + leastD ds (ds.length - S.prog.length) (es.drop S.num) S.prog.length = leastD ds ds.length es 0
theorem getD_snoc {l : List Deed} {d : Deed} {j : Nat} : (l ++ [d]).getD j .rs = if j = l.length then d else l.getD j .rs := by
  rw [List.getD_eq_getElem?_getD, List.getD_eq_getElem?_getD]
  by_cases h : j < l.length
  · rw [List.getElem?_append_left h, if_neg (by omega)]
  · rw [List.getElem?_append_right (by omega)]
    by_cases z : j = l.length
    · rw [if_pos z, z]; simp
    · rw [if_neg z, List.getElem?_eq_none (l := [d]) (by simp; omega), List.getElem?_eq_none (l := l) (by omega)]
theorem FitOk.one {ds es : List Deed} {c : Nat} {S : FitS} (F : FitOk ds es c S) (h : ¬ S.done es) (he : ∀ d ∈ es, d.ok c) : FitOk ds es c (fitOne ds es S) := by
  have hl := fitOne_less (ds := ds) h
  have hn : S.num < es.length := by unfold FitS.done at h; omega
  have h1 := F.len
  have h2 := F.all
  have hd : es.drop S.num = es.getD S.num .rs :: es.drop (S.num + 1) := by
    rw [List.drop_eq_getElem_cons hn, List.getD_eq_getElem?_getD, List.getElem?_eq_getElem hn]
    rfl
  by_cases hc : S.cl ds es = true
  · have e : fitOne ds es S = ⟨S.prog ++ [.rs], S.why ++ [(S.prog.length, S.num)], S.num⟩ := if_pos hc
    have hlt := cl_lt hc
    rw [e] at hl ⊢
    refine ⟨F.num, by simp only [List.length_append, List.length_singleton]; omega, by simp only [List.length_append, List.length_singleton]; omega, fun j => ?_, fun d hd => ?_, ?_, ?_, ?_⟩
    · show clashD _ ((S.prog ++ [Deed.rs]).getD j .rs) = false
      rw [getD_snoc]
      split
      · exact clash_rs' _
      · exact F.free j
    · rcases List.mem_append.mp hd with z | z
      · exact F.ok d z
      · rw [List.mem_singleton.mp z]; exact True.intro
    · show whyOk ds es 0 0 (whyI (S.why ++ [(S.prog.length, S.num)])) = true
      unfold whyI
      rw [List.map_append]
      show whyOk ds es 0 0 (whyI S.why ++ [((S.prog.length : Int), (S.num : Int))]) = true
      rw [whyOk_app, F.why, Bool.true_and]
      have l2 : (whyI S.why).length = S.why.length := by unfold whyI; rw [List.length_map]
      have la := F.last
      have c2 : clashD (ds.getD ((S.prog.length : Nat) : Int).toNat .rs) (es.getD ((S.num : Nat) : Int).toNat .rs) = true := by
        rw [Int.toNat_natCast, Int.toNat_natCast]; exact hc
      rw [c2, decide_eq_true (by refine ⟨la, ?_⟩; omega), decide_eq_true (by rw [l2]; omega)]
      rfl
    · show ((whyI (S.why ++ [(S.prog.length, S.num)])).map (·.2)).getLastD 0 ≤ (S.num : Int)
      unfold whyI
      rw [List.map_append, List.map_append]
      simp [List.getLastD_eq_getLast?]
    · have hL := F.least
      show (S.why ++ [(S.prog.length, S.num)]).length + leastD ds (ds.length - (S.prog ++ [Deed.rs]).length) (es.drop S.num) (S.prog ++ [Deed.rs]).length = _
      rw [hd] at hL ⊢
      obtain ⟨f, hf⟩ : ∃ f, ds.length - S.prog.length = f + 1 := ⟨ds.length - S.prog.length - 1, by omega⟩
      rw [hf, leastD_yes hc hlt] at hL
      rw [List.length_append, List.length_append, List.length_singleton, List.length_singleton, show ds.length - (S.prog.length + 1) = f by omega]
      omega
  · have hc' : S.cl ds es = false := by simpa using hc
    have e : fitOne ds es S = ⟨S.prog ++ [es.getD S.num .rs], S.why, S.num + 1⟩ := if_neg hc
    rw [e] at hl ⊢
    refine ⟨hn, by simp only [List.length_append, List.length_singleton]; omega, by simp only [List.length_append, List.length_singleton]; omega, fun j => ?_, fun d hd => ?_, F.why, ?_, ?_⟩
    · show clashD _ ((S.prog ++ [es.getD S.num .rs]).getD j .rs) = false
      rw [getD_snoc]
      split
      · rename_i z
        rw [z]
        exact hc'
      · exact F.free j
    · rcases List.mem_append.mp hd with z | z
      · exact F.ok d z
      · rw [List.mem_singleton.mp z, List.getD_eq_getElem?_getD, List.getElem?_eq_getElem hn]
        exact he _ (List.getElem_mem hn)
    · have la := F.last
      show ((whyI S.why).map (·.2)).getLastD 0 ≤ ((S.num + 1 : Nat) : Int)
      omega
    · have hL := F.least
      show S.why.length + leastD ds (ds.length - (S.prog ++ [es.getD S.num .rs]).length) (es.drop (S.num + 1)) (S.prog ++ [es.getD S.num .rs]).length = _
      rw [hd] at hL
      rw [List.length_append, List.length_singleton]
      by_cases hb : ds.length ≤ S.prog.length
      · rw [leastD_end hb] at hL
        rw [leastD_end (by omega)]
        exact hL
      · obtain ⟨f, hf⟩ : ∃ f, ds.length - S.prog.length = f + 1 := ⟨ds.length - S.prog.length - 1, by omega⟩
        rw [hf, leastD_no (by omega) hc'] at hL
        rw [show ds.length - (S.prog.length + 1) = f by omega]
        exact hL
theorem FitOk.begin (ds es : List Deed) (c : Nat) : FitOk ds es c fit0 := ⟨Nat.zero_le _, rfl, by show 0 + (_ - 0 + (_ - 0)) ≤ _; omega, fun j => by show clashD _ (([] : List Deed).getD j .rs) = false; simp [clash_rs'], (fun _ z => nomatch z), rfl, by show (0 : Int) ≤ 0; omega, by show 0 + leastD ds (ds.length - 0) (es.drop 0) 0 = _; simp⟩
theorem fitF_ok {ds es : List Deed} {c : Nat} (he : ∀ d ∈ es, d.ok c) : ∀ (n : Nat) (S : FitS), FitOk ds es c S → FitOk ds es c (fitF ds es n S)
  | 0, _, F => F
  | n + 1, S, F => by
    rw [fitF]
    refine fitF_ok he n _ ?_
    unfold fitStep
    split
    · exact F
    · rename_i h
      exact F.one h he
theorem fitEnd_isDone {ds es : List Deed} : ∀ (n : Nat) (S : FitS), S.meas ds es ≤ n → (fitF ds es n S).done es
  | 0, S, h => by
    unfold FitS.meas at h
    show es.length ≤ S.num
    omega
  | n + 1, S, h => by
    rw [fitF]
    by_cases hd : S.done es
    · have e : fitStep ds es S = S := if_pos hd
      rw [e, fitF_done hd]
      exact hd
    · have e : fitStep ds es S = fitOne ds es S := if_neg hd
      have hl := fitOne_less (ds := ds) hd
      rw [e]
      exact fitEnd_isDone n _ (by omega)
/-- the right program fitted, and why -/
def fitD (ds es : List Deed) : FitS := fitEnd ds es fit0
theorem fitD_ok {ds es : List Deed} {c : Nat} (he : ∀ d ∈ es, d.ok c) : FitOk ds es c (fitD ds es) := fitF_ok he _ _ (FitOk.begin ds es c)
theorem fitD_num {ds es : List Deed} {c : Nat} (he : ∀ d ∈ es, d.ok c) : (fitD ds es).num = es.length := by
  have h1 := (fitD_ok (ds := ds) he).num
  have h2 : (fitD ds es).done es := fitEnd_isDone _ _ (Nat.le_refl _)
  unfold FitS.done at h2
  omega
theorem fitD_len {ds es : List Deed} {c : Nat} (he : ∀ d ∈ es, d.ok c) : (fitD ds es).prog.length ≤ ds.length + es.length := by
  have h := (fitD_ok (ds := ds) he).all
  omega
theorem fitD_least {ds es : List Deed} {c : Nat} (he : ∀ d ∈ es, d.ok c) : leastD ds ds.length es 0 = (fitD ds es).why.length := by
  have h := (fitD_ok (ds := ds) he).least
  rw [fitD_num he, List.drop_of_length_le (Nat.le_refl _), leastD_nil] at h
  omega
theorem fitD_free {ds es : List Deed} {c : Nat} (he : ∀ d ∈ es, d.ok c) : clashesD ds (fitD ds es).prog = [] := by
  unfold clashesD
  refine List.filter_eq_nil_iff.mpr fun j _ => ?_
  rw [(fitD_ok (ds := ds) he).free j]
  exact Bool.false_ne_true
/-- pairs of two numbers -/
def IV (K : PySem.W.Frag) (H : Hp) (v : V) (p : Int × Int) : Prop := ∃ a, v = .ref a ∧ SqT K H a [.int p.1, .int p.2]
def IVs (K : PySem.W.Frag) (H : Hp) (vs : List V) (ps : List (Int × Int)) : Prop := Paired (IV K H) vs ps
theorem IV.mono {K : PySem.W.Frag} {H H' : Hp} {v : V} {p : Int × Int} (e : Ex H H') (q : IV K H v p) : IV K H' v p := by
  obtain ⟨a, h, s⟩ := q
  exact ⟨a, h, ex_t e s⟩
theorem IVs.mono {K : PySem.W.Frag} {H H' : Hp} {vs : List V} {ps : List (Int × Int)} (e : Ex H H') (q : IVs K H vs ps) : IVs K H' vs ps := Paired.mapP q fun _ _ => IV.mono e
theorem IVs.buts {K : PySem.W.Frag} {H H' : Hp} {S : List Addr} {vs : List V} {ps : List (Int × Int)} (b : Bt S H H') (hp : ∀ p ∈ S, ∃ us, H p = some (.lst us)) (q : IVs K H vs ps) : IVs K H' vs ps := Paired.mapP q fun _ _ ⟨a, h, s⟩ => ⟨a, h, t_but b hp s⟩
theorem IVs.length {K : PySem.W.Frag} {H : Hp} {vs : List V} {ps : List (Int × Int)} (q : IVs K H vs ps) : vs.length = ps.length := Paired.length q
theorem IVs.get {K : PySem.W.Frag} {H : Hp} : ∀ {vs : List V} {ps : List (Int × Int)} {i : Nat} {v : V}, IVs K H vs ps → vs[i]? = some v → ∃ m, ps[i]? = some m ∧ IV K H v m
  | _, _, _, _, .nil, e => by simp at e
  | _, _, 0, _, .cons r _, e => by simp at e; subst e; exact ⟨_, rfl, r⟩
  | _, _, i + 1, x, .cons _ t, e => by
    obtain ⟨u, h1, h2⟩ := IVs.get (i := i) (v := x) t (by simpa using e)
    exact ⟨u, by simpa using h1, h2⟩
theorem IVs.append {K : PySem.W.Frag} {H : Hp} : ∀ {us vs : List V} {ds es : List (Int × Int)}, IVs K H us ds → IVs K H vs es → IVs K H (us ++ vs) (ds ++ es)
  | _, _, _, _, .nil, h => h
  | _, _, _, _, .cons r t, h => .cons r (IVs.append t h)
theorem IVs.drop {K : PySem.W.Frag} {H : Hp} : ∀ {vs : List V} {ds : List (Int × Int)} (n : Nat), IVs K H vs ds → IVs K H (vs.drop n) (ds.drop n)
  | _, _, 0, h => h
  | _, _, n + 1, .nil => .nil
  | _, _, n + 1, .cons _ t => IVs.drop n t
theorem IVs.take {K : PySem.W.Frag} {H : Hp} : ∀ {vs : List V} {ds : List (Int × Int)} (n : Nat), IVs K H vs ds → IVs K H (vs.take n) (ds.take n)
  | _, _, 0, h => .nil
  | _, _, n + 1, .nil => .nil
  | _, _, n + 1, .cons r t => .cons r (IVs.take n t)
def iD (p : Int × Int) : PyData := .tuple [.int p.1, .int p.2]
theorem IVs.dpa {K : PySem.W.Frag} {H : Hp} {vs : List V} {ps : List (Int × Int)} (h : IVs K H vs ps) : DpAll K H vs (ps.map iD) := by
  induction h with
  | nil => exact .nil
  | cons a _ ih =>
    obtain ⟨a', rfl, h2⟩ := a
    exact .cons (.tup h2 (.cons (.int _) (.cons (.int _) .nil))) ih
theorem nice_i {n : Nat} (p : Int × Int) : Nice (n + 1) (iD p) := .tup (by simp) fun d hd => by
  simp only [List.mem_cons, List.not_mem_nil, or_false] at hd
  rcases hd with rfl | rfl <;> exact .int _
theorem nice_is {n : Nat} {ps : List (Int × Int)} (h : ps.length ≤ 1000) : Nice (n + 2) (.list (ps.map iD)) := .lst (by rw [List.length_map]; exact h) fun d hd => by
  obtain ⟨p, _, rfl⟩ := List.mem_map.mp hd
  exact nice_i p
theorem nice_d {n : Nat} (d : Deed) : Nice (n + 1) (.tuple d.dat) := .tup (by cases d <;> simp [Deed.dat]) fun x hx => by
  cases d <;> simp only [Deed.dat, List.mem_cons, List.not_mem_nil, or_false] at hx
  · rcases hx with rfl | rfl
    · exact .str sk_read
    · exact .int _
  · rcases hx with rfl | rfl | rfl
    · exact .str sk_write
    · exact .int _
    · exact .int _
  · subst hx
    exact .str sk_rest
theorem nice_ds {n : Nat} {ds : List Deed} (h : ds.length ≤ 1000) : Nice (n + 2) (.list (ds.map fun d => .tuple d.dat)) := .lst (by rw [List.length_map]; exact h) fun x hx => by
  obtain ⟨d, _, rfl⟩ := List.mem_map.mp hx
  exact nice_d d
/-- what fitted tells: two new lists -/
def ToldF (K : PySem.W.Frag) (H H' : Hp) (v : V) (S : FitS) : Prop := ∃ (t pl rl : Addr) (us rs : List V), v = .ref t ∧ H' t = some (.tup [.ref pl, .ref rl]) ∧ H' pl = some (.lst us) ∧ PV K H' us S.prog ∧ H' rl = some (.lst rs) ∧ IVs K H' rs (whyI S.why) ∧ H pl = none ∧ H rl = none ∧ pl ≠ rl ∧ Ex H H'
def datF (S : FitS) : PyData := .tuple [.list (S.prog.map fun d => .tuple d.dat), .list ((whyI S.why).map iD)]
theorem ToldF.dp {K : PySem.W.Frag} {H H' : Hp} {v : V} {S : FitS} (h : ToldF K H H' v S) : Dp K H' v (datF S) := by
  obtain ⟨t, pl, rl, us, rs, rfl, h1, h2, h3, h4, h5, _⟩ := h
  exact .tup (SqT.of h1) (.cons (PV.dp (SqL.of h2) h3) (.cons (.lst (SqL.of h4) h5.dpa) .nil))
theorem nice_f {S : FitS} (h1 : S.prog.length ≤ 1000) (h2 : S.why.length ≤ 1000) : Nice 3 (datF S) := .tup (by simp) fun d hd => by
  simp only [List.mem_cons, List.not_mem_nil, or_false] at hd
  rcases hd with rfl | rfl
  · exact nice_ds h1
  · exact nice_is (by unfold whyI; rw [List.length_map]; exact h2)
/-- the written bound of the fitting's file -/
structure TxF (mg : Str → Option Value) (t20 : Tok) : Prop where
  g_MOST_TO_FIT : mg "MOST_TO_FIT" = some (.int 20 t20)
theorem txf_mk {K : PySem.W.Frag} {h : Heap} {mg : Str → Option Value} {t20 : Tok} (X : K.In h) (G : h.Ns mainGlobals mg) (a1 : PySem.W.nsIn K mainGlobals "MOST_TO_FIT" = some (some (.int 20 t20))) : TxF mg t20 :=
  ⟨PySem.W.mg_of X G a1⟩
theorem getD_at {l : List Deed} {i : Nat} {d : Deed} (h : l[i]? = some d) : l.getD i .rs = d := by rw [List.getD_eq_getElem?_getD, h]; rfl
/-- what shows so many tuples is no longer than the fewest rests -/
theorem why_bound {ds es : List Deed} : ∀ (f j a : Nat) (least : Int) (r : List (Int × Int)), ds.length ≤ a + j + f → (j : Int) ≤ least → whyOk ds es a least r = true → r.length ≤ leastD ds f (es.drop j) (a + j)
  | _, _, _, _, [], _, _, _ => Nat.zero_le _
  | 0, j, a, least, (b, n) :: r, hf, hj, h => by
    exfalso
    have h' : ((decide (least ≤ n ∧ n < es.length) && decide (b = n + a)) && (clashD (ds.getD b.toNat .rs) (es.getD n.toNat .rs) && whyOk ds es (a + 1) n r)) = true := h
    simp only [Bool.and_eq_true, decide_eq_true_eq] at h'
    obtain ⟨⟨⟨h1, h2⟩, h3⟩, h4, h5⟩ := h'
    have hb : ds.length ≤ b.toNat := by omega
    rw [List.getD_eq_getElem?_getD, List.getElem?_eq_none hb] at h4
    have e := clash_rs (es.getD n.toNat .rs)
    simp only [Option.getD_none] at h4
    rw [e] at h4
    cases h4
  | f + 1, j, a, least, (b, n) :: r, hf, hj, h => by
    have h' : ((decide (least ≤ n ∧ n < es.length) && decide (b = n + a)) && (clashD (ds.getD b.toNat .rs) (es.getD n.toNat .rs) && whyOk ds es (a + 1) n r)) = true := h
    simp only [Bool.and_eq_true, decide_eq_true_eq] at h'
    obtain ⟨⟨⟨h1, h2⟩, h3⟩, h4, h5⟩ := h'
    have hje : j < es.length := by omega
    have hd : es.drop j = es.getD j .rs :: es.drop (j + 1) := by
      rw [List.drop_eq_getElem_cons hje, List.getD_eq_getElem?_getD, List.getElem?_eq_getElem hje]
      rfl
    have hbl : b.toNat < ds.length := by
      by_cases z : b.toNat < ds.length
      · exact z
      · rw [List.getD_eq_getElem?_getD, List.getElem?_eq_none (by omega)] at h4
        have e := clash_rs (es.getD n.toNat .rs)
        simp only [Option.getD_none] at h4
        rw [e] at h4
        cases h4
    have r1 := why_bound f j (a + 1) n r (by omega) (by omega) h5
    rw [show a + 1 + j = a + j + 1 by omega] at r1
    have hlt : a + j < ds.length := by omega
    rw [hd] at r1 ⊢
    rw [leastD, if_neg (by omega)]
    rw [List.length_cons]
    by_cases hc : clashD (ds.getD (a + j) .rs) (es.getD j .rs) = true
    · rw [if_pos hc]
      omega
    · rw [if_neg hc]
      have hjn : (j : Int) < n := by
        by_cases z : (j : Int) = n
        · exfalso
          apply hc
          have e1 : a + j = b.toNat := by omega
          have e2 : j = n.toNat := by omega
          rw [e1, ← e1, e1, e2]
          exact h4
        · omega
      have hk : whyOk ds es a n ((b, n) :: r) = true := by
        show ((decide (n ≤ n ∧ n < es.length) && decide (b = n + a)) && (clashD (ds.getD b.toNat .rs) (es.getD n.toNat .rs) && whyOk ds es (a + 1) n r)) = true
        rw [decide_eq_true (⟨Int.le_refl _, h2⟩ : n ≤ n ∧ n < (es.length : Int)), decide_eq_true h3, h4, h5]
        rfl
      have r2 := why_bound f (j + 1) a n ((b, n) :: r) (by omega) (by omega) hk
      rw [List.length_cons, show a + (j + 1) = a + j + 1 by omega] at r2
      omega
theorem why_most {ds es : List Deed} {c : Nat} (he : ∀ d ∈ es, d.ok c) {r : List (Int × Int)} (h : whyOk ds es 0 0 r = true) : r.length ≤ (fitD ds es).why.length := by
  have z := why_bound ds.length 0 0 0 r (by omega) (Int.le_refl _) h
  rw [List.drop_zero] at z
  have e := fitD_least (ds := ds) he
  rw [← e]
  exact z
theorem IVs.draw {K : PySem.W.Frag} {H H' : Hp} {h l : Addr} {vs : List V} {ps : List (Int × Int)} (D : Draw H h l) (e : Bt [h, l] H H') (q : IVs K H vs ps) : IVs K H' vs ps := Paired.mapP q fun _ _ ⟨a, h1, s⟩ => ⟨a, h1, D.t e s⟩
/-- a range whose end is drawn -/
theorem q_forRX {σ : L2.St} {H : Hp} {tu tz : TS} {D : Ends} {ta : TA} {j : Nat} {R : Int → Hp → Prop} (h : ∀ Q : List V → Hp → Prop, (∀ n H1, R n H1 → Q [.int n] H1) → ta σ H Q) (k : ∀ n H1, R n H1 → tSeq (tFor (iRng1 (tCons (tC (.int n)) tNil)) (gName j) tu) tz D σ H1) : tSeq (tFor (iRng1 ta) (gName j) tu) tz D σ H := h _ fun n H1 r => k n H1 r
end Db

namespace Db
open PySem L2 Evl StX
/-! ### cells and worths by other numbers -/
structure Ren (n : Nat) (f g f' g' : Nat → Nat) : Prop where
  f1 : ∀ c, c < n → f c < n
  f2 : ∀ c, c < n → f' c < n
  f3 : ∀ c, c < n → f' (f c) = c
  f4 : ∀ c, c < n → f (f' c) = c
  g1 : ∀ c, c < 3 → g c < 3
  g2 : ∀ c, c < 3 → g' c < 3
  g3 : ∀ c, c < 3 → g' (g c) = c
  g4 : ∀ c, c < 3 → g (g' c) = c
theorem Ren.symm {n : Nat} {f g f' g' : Nat → Nat} (h : Ren n f g f' g') : Ren n f' g' f g := ⟨h.f2, h.f1, h.f4, h.f3, h.g2, h.g1, h.g4, h.g3⟩
theorem Ren.finj {n : Nat} {f g f' g' : Nat → Nat} (h : Ren n f g f' g') {a b : Nat} (ha : a < n) (hb : b < n) : f a = f b ↔ a = b :=
  ⟨fun e => by rw [← h.f3 a ha, e, h.f3 b hb], fun e => by rw [e]⟩
/-- a list of numbers as a map -/
def atN (l : List Nat) (c : Nat) : Nat := l.getD c 0
theorem perm_ren {cs ws : List Nat} {n : Nat} (h : cs.Perm (List.range n)) (k : ws.Perm (List.range 3)) : Ren n (atN cs) (atN ws) cs.idxOf ws.idxOf := by
  have go : ∀ {l : List Nat} {m : Nat}, l.Perm (List.range m) → (∀ c, c < m → atN l c < m) ∧ (∀ c, c < m → l.idxOf c < m) ∧ (∀ c, c < m → l.idxOf (atN l c) = c) ∧ (∀ c, c < m → atN l (l.idxOf c) = c) := by
    intro l m h
    have hl : l.length = m := by rw [h.length_eq, List.length_range]
    have hm : ∀ x, x ∈ l ↔ x < m := fun x => by rw [h.mem_iff, List.mem_range]
    have nd : l.Nodup := h.nodup_iff.mpr List.nodup_range
    refine ⟨fun c hc => ?_, fun c hc => ?_, fun c hc => ?_, fun c hc => ?_⟩
    · unfold atN
      rw [List.getD_eq_getElem?_getD, List.getElem?_eq_getElem (by omega)]
      exact (hm _).mp (List.getElem_mem _)
    · rw [← hl]
      exact List.idxOf_lt_length_iff.mpr ((hm c).mpr hc)
    · unfold atN
      rw [List.getD_eq_getElem?_getD, List.getElem?_eq_getElem (by omega)]
      show List.idxOf l[c] l = c
      exact nd.idxOf_getElem c (by omega)
    · have hi : l.idxOf c < l.length := List.idxOf_lt_length_iff.mpr ((hm c).mpr hc)
      unfold atN
      rw [List.getD_eq_getElem?_getD, List.getElem?_eq_getElem hi]
      exact List.getElem_idxOf hi
  obtain ⟨a1, a2, a3, a4⟩ := go h
  obtain ⟨b1, b2, b3, b4⟩ := go k
  exact ⟨a1, a2, a3, a4, b1, b2, b3, b4⟩
def Deed.ren (f g : Nat → Nat) : Deed → Deed
  | .rd c => .rd (f c)
  | .wr c w => .wr (f c) (g w)
  | .rs => .rs
section
variable {n : Nat} {f g f' g' : Nat → Nat}
theorem Deed.ren_ok (R : Ren n f g f' g') : ∀ {d : Deed}, d.ok n → (d.ren f g).ok n
  | .rd c, h => R.f1 c h
  | .wr c w, h => ⟨R.f1 c h.1, R.g1 w h.2⟩
  | .rs, _ => True.intro
theorem Deed.ren_ren (R : Ren n f g f' g') : ∀ {d : Deed}, d.ok n → (d.ren f g).ren f' g' = d
  | .rd c, h => by show Deed.rd (f' (f c)) = _; rw [R.f3 c h]
  | .wr c w, h => by show Deed.wr (f' (f c)) (g' (g w)) = _; rw [R.f3 c h.1, R.g3 w h.2]
  | .rs, _ => rfl
theorem ren_all (R : Ren n f g f' g') {ds : List Deed} (h : ∀ d ∈ ds, d.ok n) : ∀ d ∈ ds.map (Deed.ren f g), d.ok n := fun d hd => by
  obtain ⟨e, he, rfl⟩ := List.mem_map.mp hd
  exact Deed.ren_ok R (h e he)
theorem ren_back (R : Ren n f g f' g') {ds : List Deed} (h : ∀ d ∈ ds, d.ok n) : (ds.map (Deed.ren f g)).map (Deed.ren f' g') = ds := by
  rw [List.map_map]
  conv => rhs; rw [← List.map_id ds]
  exact List.map_congr_left fun d hd => Deed.ren_ren R (h d hd)
/-- a memory by other numbers -/
structure Mr (n : Nat) (f g : Nat → Nat) (u v : List Nat) : Prop where
  lu : u.length = n
  lv : v.length = n
  su : ∀ x ∈ u, x < 3
  sv : ∀ x ∈ v, x < 3
  at_ : ∀ c, c < n → v.getD (f c) 0 = g (u.getD c 0)
theorem getD_lt {u : List Nat} {c n : Nat} (l : u.length = n) (h : ∀ x ∈ u, x < 3) (hc : c < n) : u.getD c 0 < 3 := by
  rw [List.getD_eq_getElem?_getD, List.getElem?_eq_getElem (by omega)]
  exact h _ (List.getElem_mem _)
theorem Mr.symm (R : Ren n f g f' g') {u v : List Nat} (h : Mr n f g u v) : Mr n f' g' v u := by
  refine ⟨h.lv, h.lu, h.sv, h.su, fun c hc => ?_⟩
  have e := h.at_ (f' c) (R.f2 c hc)
  rw [R.f4 c hc] at e
  rw [e, R.g3 _ (getD_lt h.lu h.su (R.f2 c hc))]
theorem Mr.det (R : Ren n f g f' g') {u v w : List Nat} (h : Mr n f g u v) (k : Mr n f g u w) : v = w := by
  apply List.ext_getElem
  · rw [h.lv, k.lv]
  · intro i h1 h2
    have hi : i < n := by rw [← h.lv]; exact h1
    have e1 := h.at_ (f' i) (R.f2 i hi)
    have e2 := k.at_ (f' i) (R.f2 i hi)
    rw [R.f4 i hi, List.getD_eq_getElem?_getD, List.getElem?_eq_getElem h1] at e1
    rw [R.f4 i hi, List.getD_eq_getElem?_getD, List.getElem?_eq_getElem h2] at e2
    exact (show v[i] = _ from e1).trans (show w[i] = _ from e2).symm
theorem getD_set {u : List Nat} {c d w : Nat} (hd : d < u.length) : (u.set c w).getD d 0 = if c = d then w else u.getD d 0 := by
  rw [List.getD_eq_getElem?_getD, List.getElem?_set, List.getD_eq_getElem?_getD]
  by_cases e : c = d
  · subst e
    rw [if_pos rfl, if_pos hd, if_pos rfl]
    rfl
  · rw [if_neg e, if_neg e]
theorem Mr.wrl (R : Ren n f g f' g') {u v : List Nat} (h : Mr n f g u v) {d : Deed} (ok : d.ok n) : Mr n f g (wrl u d) (wrl v (d.ren f g)) := by
  refine ⟨(wrl_length _ _).trans h.lu, (wrl_length _ _).trans h.lv, wrl_small h.su ok, wrl_small h.sv (Deed.ren_ok R ok), ?_⟩
  cases d with
  | rd c => exact h.at_
  | rs => exact h.at_
  | wr c w =>
    intro i hi
    show (v.set (f c) (g w)).getD (f i) 0 = g ((u.set c w).getD i 0)
    rw [getD_set (by rw [h.lv]; exact R.f1 i hi), getD_set (by rw [h.lu]; exact hi)]
    by_cases e : c = i
    · rw [if_pos e, if_pos (by rw [e])]
    · rw [if_neg e, if_neg (fun z => e ((R.finj ok.1 hi).mp z)), h.at_ i hi]
theorem Mr.rdl {u v : List Nat} (h : Mr n f g u v) {d : Deed} (ok : d.ok n) : rdl v (d.ren f g) = (rdl u d).map g := by
  cases d with
  | rd c =>
    show [v.getD (f c) 0] = [g (u.getD c 0)]
    rw [h.at_ c ok]
  | rs => rfl
  | wr c w => rfl
theorem clash_ren (R : Ren n f g f' g') {d e : Deed} (hd : d.ok n) (he : e.ok n) : clashD (d.ren f g) (e.ren f g) = clashD d e := by
  have k : ∀ {a b : Nat}, a < n → b < n → decide (f a = f b) = decide (a = b) := fun ha hb => decide_eq_decide.mpr (R.finj ha hb)
  cases d <;> cases e <;> first
    | rfl
    | (show (decide (f _ = f _) && _) = (decide (_ = _) && _)
       rw [k]
       · rfl
       · first | exact hd | exact hd.1
       · first | exact he | exact he.1)
theorem rdl_sm3 {n : Nat} {u : List Nat} {d : Deed} (l : u.length = n) (h : ∀ x ∈ u, x < 3) (ok : d.ok n) : ∀ x ∈ Db.rdl u d, x < 3 := by
  intro x hx
  cases d with
  | rd c =>
    rw [List.mem_singleton.mp hx]
    exact getD_lt l h ok
  | rs => cases hx
  | wr c w => cases hx
theorem beat_seen3 {r : Rule} {u : List Nat} {d e : Deed} (l : u.length = n) (h : ∀ x ∈ u, x < 3) (hd : d.ok n) (he : e.ok n) : (∀ x ∈ (beat r u d e).2.1, x < 3) ∧ (∀ x ∈ (beat r u d e).2.2, x < 3) := by
  have w1 : ∀ x ∈ Db.wrl u d, x < 3 := wrl_small h hd
  have w2 : ∀ x ∈ Db.wrl u e, x < 3 := wrl_small h he
  have w3 : ∀ x ∈ Db.wrl (Db.wrl u e) d, x < 3 := wrl_small w2 hd
  have l1 : (Db.wrl u d).length = n := (wrl_length _ _).trans l
  have l2 : (Db.wrl u e).length = n := (wrl_length _ _).trans l
  have l3 : (Db.wrl (Db.wrl u e) d).length = n := (wrl_length _ _).trans l2
  cases r
  · exact ⟨rdl_sm3 l h hd, rdl_sm3 l h he⟩
  · exact ⟨rdl_sm3 l3 w3 hd, rdl_sm3 l3 w3 he⟩
  · exact ⟨rdl_sm3 l h hd, rdl_sm3 l1 w1 he⟩
  · exact ⟨rdl_sm3 l2 w2 hd, rdl_sm3 l h he⟩
  · exact ⟨rdl_sm3 l h hd, rdl_sm3 l1 w1 he⟩
theorem beat_ren (R : Ren n f g f' g') (r : Rule) {u v : List Nat} (h : Mr n f g u v) {d e : Deed} (hd : d.ok n) (he : e.ok n) :
    Mr n f g (beat r u d e).1 (beat r v (d.ren f g) (e.ren f g)).1 ∧ (beat r v (d.ren f g) (e.ren f g)).2.1 = (beat r u d e).2.1.map g ∧ (beat r v (d.ren f g) (e.ren f g)).2.2 = (beat r u d e).2.2.map g := by
  cases r
  · exact ⟨(h.wrl R he).wrl R hd, h.rdl hd, h.rdl he⟩
  · exact ⟨(h.wrl R he).wrl R hd, ((h.wrl R he).wrl R hd).rdl hd, ((h.wrl R he).wrl R hd).rdl he⟩
  · exact ⟨(h.wrl R hd).wrl R he, h.rdl hd, (h.wrl R hd).rdl he⟩
  · exact ⟨(h.wrl R he).wrl R hd, (h.wrl R he).rdl hd, h.rdl he⟩
  · exact ⟨(h.wrl R hd).wrl R he, h.rdl hd, (h.wrl R hd).rdl he⟩
/-- two states of which one is the other by other numbers -/
structure Sr (n : Nat) (f g : Nat → Nat) (S T : Sts) : Prop where
  ws : Mr n f g S.ws T.ws
  l : T.l = S.l.map (Deed.ren f g)
  r : T.r = S.r.map (Deed.ren f g)
  okl : ∀ d ∈ S.l, d.ok n
  okr : ∀ d ∈ S.r, d.ok n
  ss : T.ss = S.ss.map g
  os : T.os = S.os.map g
  n : T.n = S.n
  s3 : ∀ x ∈ S.ss, x < 3
  o3 : ∀ x ∈ S.os, x < 3
theorem headD_ren (l : List Deed) : (l.map (Deed.ren f g)).headD .rs = (l.headD .rs).ren f g := by cases l <;> rfl
theorem Sr.begin0 {u v : List Nat} {ds es : List Deed} (h : Mr n f g u v) (h1 : ∀ d ∈ ds, d.ok n) (h2 : ∀ d ∈ es, d.ok n) : Sr n f g (begin0 u ds es) (begin0 v (ds.map (Deed.ren f g)) (es.map (Deed.ren f g))) :=
  ⟨h, rfl, rfl, h1, h2, rfl, rfl, rfl, (fun _ z => nomatch z), (fun _ z => nomatch z)⟩
theorem Sr.after (R : Ren n f g f' g') {S T : Sts} (h : Sr n f g S T) {b b' : List Nat × List Nat × List Nat} (k : Mr n f g b.1 b'.1 ∧ b'.2.1 = b.2.1.map g ∧ b'.2.2 = b.2.2.map g) (k3 : (∀ x ∈ b.2.1, x < 3) ∧ (∀ x ∈ b.2.2, x < 3)) (w : Bool) : Sr n f g (after S b w) (after T b' w) := by
  refine ⟨k.1, ?_, ?_, fun d hd => h.okl d (mem_tail hd), ?_, ?_, ?_, ?_, fun x hx => (List.mem_append.mp hx).elim (h.s3 x) (k3.1 x), fun x hx => (List.mem_append.mp hx).elim (h.o3 x) (k3.2 x)⟩
  · show T.l.tail = _
    rw [h.l, ← List.map_tail]
    rfl
  · show (if w then T.r else T.r.tail) = List.map _ (if w then S.r else S.r.tail)
    cases w
    · show T.r.tail = S.r.tail.map _
      rw [h.r, List.map_tail]
    · exact h.r
  · show ∀ d ∈ (if w then S.r else S.r.tail), _
    cases w
    · exact fun d hd => h.okr d (mem_tail hd)
    · exact h.okr
  · show T.ss ++ b'.2.1 = List.map g (S.ss ++ b.2.1)
    rw [h.ss, k.2.1, List.map_append]
  · show T.os ++ b'.2.2 = List.map g (S.os ++ b.2.2)
    rw [h.os, k.2.2, List.map_append]
  · show T.n + 1 = S.n + 1
    rw [h.n]
theorem Sr.waits (R : Ren n f g f' g') {S T : Sts} (h : Sr n f g S T) (r : Rule) : waits r T = waits r S := by
  unfold Db.waits
  rw [h.l, h.r, headD_ren, headD_ren, clash_ren R (ok_headD h.okl) (ok_headD h.okr)]
theorem Sr.one (R : Ren n f g f' g') {S T : Sts} (h : Sr n f g S T) (r : Rule) : Sr n f g (one r S) (one r T) := by
  have w := h.waits R r
  have e1 : T.l.headD .rs = (S.l.headD .rs).ren f g := by rw [h.l, headD_ren]
  have e2 : T.r.headD .rs = (S.r.headD .rs).ren f g := by rw [h.r, headD_ren]
  unfold Db.one
  rw [w, e1, e2]
  by_cases z : Db.waits r S = true
  · rw [if_pos z, if_pos z]
    exact h.after R (beat_ren R .left h.ws (e := .rs) (ok_headD h.okl) True.intro) (beat_seen3 h.ws.lu h.ws.su (ok_headD h.okl) True.intro) true
  · rw [if_neg z, if_neg z]
    exact h.after R (beat_ren R r h.ws (ok_headD h.okl) (ok_headD h.okr)) (beat_seen3 h.ws.lu h.ws.su (ok_headD h.okl) (ok_headD h.okr)) false
theorem Sr.done {S T : Sts} (h : Sr n f g S T) : T.done ↔ S.done := by
  unfold Sts.done
  rw [h.l, h.r, List.map_eq_nil_iff, List.map_eq_nil_iff]
theorem Sr.runF (R : Ren n f g f' g') (r : Rule) : ∀ (m : Nat) {S T : Sts}, Sr n f g S T → Sr n f g (runF r m S) (runF r m T)
  | 0, _, _, h => h
  | m + 1, S, T, h => by
    refine Sr.runF R r m ?_
    by_cases z : S.done
    · rw [stepS_done z, stepS_done (h.done.mpr z)]
      exact h
    · rw [stepS_of z, stepS_of fun y => z (h.done.mp y)]
      exact h.one R r
theorem Sr.out (R : Ren n f g f' g') (r : Rule) {S T : Sts} (h : Sr n f g S T) : Sr n f g (out r S) (out r T) := by
  unfold Db.out
  have e : T.meas = S.meas := by unfold Sts.meas; rw [h.l, h.r, List.length_map, List.length_map]
  rw [e]
  exact Sr.runF R r _ h
theorem Sr.oneB (R : Ren n f g f' g') {S T : Sts} (h : Sr n f g S T) (b : Bool) : Sr n f g (oneB S b) (oneB T b) := by
  have e1 : T.l.headD .rs = (S.l.headD .rs).ren f g := by rw [h.l, headD_ren]
  have e2 : T.r.headD .rs = (S.r.headD .rs).ren f g := by rw [h.r, headD_ren]
  cases b
  · refine ⟨?_, ?_, h.r, fun d hd => h.okl d (mem_tail hd), h.okr, ?_, h.os, h.n, fun x hx => (List.mem_append.mp hx).elim (h.s3 x) (rdl_sm3 h.ws.lu h.ws.su (ok_headD h.okl) x), h.o3⟩
    · show Mr n f g (Db.wrl S.ws (S.l.headD .rs)) (Db.wrl T.ws (T.l.headD .rs))
      rw [e1]
      exact h.ws.wrl R (ok_headD h.okl)
    · show T.l.tail = S.l.tail.map _
      rw [h.l, List.map_tail]
    · show T.ss ++ Db.rdl T.ws (T.l.headD .rs) = List.map g (S.ss ++ Db.rdl S.ws (S.l.headD .rs))
      rw [e1, h.ws.rdl (ok_headD h.okl), h.ss, List.map_append]
  · refine ⟨?_, h.l, ?_, h.okl, fun d hd => h.okr d (mem_tail hd), h.ss, ?_, h.n, h.s3, fun x hx => (List.mem_append.mp hx).elim (h.o3 x) (rdl_sm3 h.ws.lu h.ws.su (ok_headD h.okr) x)⟩
    · show Mr n f g (Db.wrl S.ws (S.r.headD .rs)) (Db.wrl T.ws (T.r.headD .rs))
      rw [e2]
      exact h.ws.wrl R (ok_headD h.okr)
    · show T.r.tail = S.r.tail.map _
      rw [h.r, List.map_tail]
    · show T.os ++ Db.rdl T.ws (T.r.headD .rs) = List.map g (S.os ++ Db.rdl S.ws (S.r.headD .rs))
      rw [e2, h.ws.rdl (ok_headD h.okr), h.os, List.map_append]
theorem Sr.fol (R : Ren n f g f' g') : ∀ (o : List Bool) {S T : Sts}, Sr n f g S T → Sr n f g (fol o S) (fol o T)
  | [], _, _, h => h
  | b :: o, _, _, h => Sr.fol R o (h.oneB R b)
/-! what is told -/
structure Tr (n : Nat) (f g : Nat → Nat) (x y : T3) : Prop where
  a : y.1 = x.1.map g
  b : y.2.1 = x.2.1.map g
  c : Mr n f g x.2.2 y.2.2
  a3 : ∀ z ∈ x.1, z < 3
  b3 : ∀ z ∈ x.2.1, z < 3
theorem Sr.tr {S T : Sts} (h : Sr n f g S T) : Tr n f g (t3 S) (t3 T) := ⟨h.ss, h.os, h.ws, h.s3, h.o3⟩
theorem map_back {g g' : Nat → Nat} (R : ∀ c, c < 3 → g' (g c) = c) {l : List Nat} (h : ∀ z ∈ l, z < 3) : (l.map g).map g' = l := by
  rw [List.map_map]
  conv => rhs; rw [← List.map_id l]
  exact List.map_congr_left fun d hd => R d (h d hd)
theorem map_lt3 {g : Nat → Nat} (R : ∀ c, c < 3 → g c < 3) {l : List Nat} (h : ∀ z ∈ l, z < 3) : ∀ z ∈ l.map g, z < 3 := fun z hz => by
  obtain ⟨e, he, rfl⟩ := List.mem_map.mp hz
  exact R e (h e he)
theorem Tr.symm (R : Ren n f g f' g') {x y : T3} (h : Tr n f g x y) : Tr n f' g' y x :=
  ⟨by rw [h.a, map_back R.g3 h.a3], by rw [h.b, map_back R.g3 h.b3], h.c.symm R, by rw [h.a]; exact map_lt3 R.g1 h.a3, by rw [h.b]; exact map_lt3 R.g1 h.b3⟩
theorem Tr.det (R : Ren n f g f' g') {x y z : T3} (h : Tr n f g x y) (k : Tr n f g x z) : y = z := by
  obtain ⟨y1, y2, y3⟩ := y
  obtain ⟨z1, z2, z3⟩ := z
  have a := h.a.trans k.a.symm
  have b := h.b.trans k.b.symm
  have c := h.c.det R k.c
  dsimp only at a b c
  rw [a, b, c]
theorem Tr.eq_iff (R : Ren n f g f' g') {x y x' y' : T3} (h : Tr n f g x y) (k : Tr n f g x' y') : x = x' ↔ y = y' :=
  ⟨fun e => by subst e; exact h.det R k, fun e => by subst e; exact (h.symm R).det R.symm (k.symm R)⟩
theorem same_ren (R : Ren n f g f' g') {u v : List Nat} {ds es : List Deed} (h : Mr n f g u v) (h1 : ∀ d ∈ ds, d.ok n) (h2 : ∀ d ∈ es, d.ok n) (r q : Rule) :
    same3 (out r (begin0 v (ds.map (Deed.ren f g)) (es.map (Deed.ren f g)))) (out q (begin0 v (ds.map (Deed.ren f g)) (es.map (Deed.ren f g)))) = same3 (out r (begin0 u ds es)) (out q (begin0 u ds es)) := by
  have b := Sr.begin0 h h1 h2
  rw [Bool.eq_iff_iff, same3_iff, same3_iff]
  exact ((b.out R r).tr.eq_iff R (b.out R q).tr).symm
/-- a memory by other numbers, made -/
def renM (n : Nat) (f' g : Nat → Nat) (u : List Nat) : List Nat := (List.range n).map fun i => g (u.getD (f' i) 0)
theorem renM_mr (R : Ren n f g f' g') {u : List Nat} (l : u.length = n) (h : ∀ x ∈ u, x < 3) : Mr n f g u (renM n f' g u) := by
  refine ⟨l, by unfold renM; simp, h, fun x hx => ?_, fun c hc => ?_⟩
  · obtain ⟨i, hi, rfl⟩ := List.mem_map.mp hx
    exact R.g1 _ (getD_lt l h (R.f2 i (List.mem_range.mp hi)))
  · unfold renM
    rw [List.getD_eq_getElem?_getD, List.getElem?_map, List.getElem?_range (R.f1 c hc)]
    show g (u.getD (f' (f c)) 0) = _
    rw [R.f3 c hc]
theorem mems_in : ∀ {n : Nat} {m : List Nat}, m.length = n → (∀ x ∈ m, x < 3) → m ∈ mems n
  | 0, m, h, _ => by rw [List.length_eq_zero_iff.mp h]; exact List.mem_singleton.mpr rfl
  | n + 1, m, h, k => by
    have hne : m ≠ [] := by rintro rfl; cases h
    obtain ⟨u, x, rfl⟩ : ∃ u x, m = u ++ [x] := ⟨_, _, (List.dropLast_concat_getLast hne).symm⟩
    rw [List.length_append] at h
    have hu := mems_in (n := n) (m := u) (by simpa using h) fun y hy => k y (List.mem_append_left _ hy)
    have hx := k x (by simp)
    show u ++ [x] ∈ (mems n).flatMap grow
    refine List.mem_flatMap.mpr ⟨u, hu, ?_⟩
    unfold grow
    have : x = 0 ∨ x = 1 ∨ x = 2 := by omega
    rcases this with rfl | rfl | rfl <;> simp
theorem partRow_ren (R : Ren n f g f' g') {u v : List Nat} {ds es : List Deed} (h : Mr n f g u v) (h1 : ∀ d ∈ ds, d.ok n) (h2 : ∀ d ∈ es, d.ok n) (e : partRow u ds es = none) : partRow v (ds.map (Deed.ren f g)) (es.map (Deed.ren f g)) = none := by
  unfold partRow at e ⊢
  rw [Option.map_eq_none_iff, List.find?_eq_none] at e ⊢
  intro r hr
  rw [same_ren R h h1 h2]
  exact e r hr
theorem partD_ren1 (R : Ren n f g f' g') {ds es : List Deed} (h1 : ∀ d ∈ ds, d.ok n) (h2 : ∀ d ∈ es, d.ok n) (e : partD n ds es = none) : partD n (ds.map (Deed.ren f g)) (es.map (Deed.ren f g)) = none := by
  unfold partD at e ⊢
  rw [List.findSome?_eq_none_iff] at e ⊢
  intro m hm
  obtain ⟨ml, m3⟩ := mems_mem hm
  have k := renM_mr R.symm ml m3
  exact partRow_ren R (k.symm R.symm) h1 h2 (e _ (mems_in k.lv k.sv))
theorem partD_ren (R : Ren n f g f' g') {ds es : List Deed} (h1 : ∀ d ∈ ds, d.ok n) (h2 : ∀ d ∈ es, d.ok n) : partD n (ds.map (Deed.ren f g)) (es.map (Deed.ren f g)) = none ↔ partD n ds es = none := by
  refine ⟨fun e => ?_, partD_ren1 R h1 h2⟩
  have z := partD_ren1 R.symm (ren_all R h1) (ren_all R h2) e
  rwa [ren_back R h1, ren_back R h2] at z
theorem getD_ren (l : List Deed) (i : Nat) : (l.map (Deed.ren f g)).getD i .rs = (l.getD i .rs).ren f g := by
  rw [List.getD_eq_getElem?_getD, List.getD_eq_getElem?_getD, List.getElem?_map]
  cases l[i]? <;> rfl
theorem ok_getD {l : List Deed} (h : ∀ d ∈ l, d.ok n) (i : Nat) : (l.getD i .rs).ok n := by
  rw [List.getD_eq_getElem?_getD]
  cases e : l[i]? with
  | none => exact True.intro
  | some d => exact h d (List.mem_of_getElem? e)
theorem clashes_ren (R : Ren n f g f' g') {ds es : List Deed} (h1 : ∀ d ∈ ds, d.ok n) (h2 : ∀ d ∈ es, d.ok n) : clashesD (ds.map (Deed.ren f g)) (es.map (Deed.ren f g)) = clashesD ds es := by
  unfold clashesD
  rw [List.length_map, List.length_map]
  refine List.filter_congr fun i _ => ?_
  rw [getD_ren, getD_ren, clash_ren R (ok_getD h1 i) (ok_getD h2 i)]
/-! the right program fitted -/
structure Fr (f g : Nat → Nat) (S T : FitS) : Prop where
  p : T.prog.length = S.prog.length
  w : T.why = S.why
  n : T.num = S.num
theorem fitOne_ren (R : Ren n f g f' g') {ds es : List Deed} (h1 : ∀ d ∈ ds, d.ok n) (h2 : ∀ d ∈ es, d.ok n) {S T : FitS} (h : Fr f g S T) : Fr f g (fitOne ds es S) (fitOne (ds.map (Deed.ren f g)) (es.map (Deed.ren f g)) T) := by
  have c : T.cl (ds.map (Deed.ren f g)) (es.map (Deed.ren f g)) = S.cl ds es := by
    unfold FitS.cl
    rw [h.p, h.n, getD_ren, getD_ren, clash_ren R (ok_getD h1 _) (ok_getD h2 _)]
  unfold fitOne
  rw [c]
  cases S.cl ds es
  · exact ⟨by show (T.prog ++ [_]).length = (S.prog ++ [_]).length; rw [List.length_append, List.length_append, h.p]; rfl, h.w, by show T.num + 1 = S.num + 1; rw [h.n]⟩
  · exact ⟨by show (T.prog ++ [_]).length = (S.prog ++ [_]).length; rw [List.length_append, List.length_append, h.p], by show T.why ++ [_] = S.why ++ [_]; rw [h.w, h.p, h.n], h.n⟩
theorem fitF_ren (R : Ren n f g f' g') {ds es : List Deed} (h1 : ∀ d ∈ ds, d.ok n) (h2 : ∀ d ∈ es, d.ok n) : ∀ (m : Nat) {S T : FitS}, Fr f g S T → Fr f g (fitF ds es m S) (fitF (ds.map (Deed.ren f g)) (es.map (Deed.ren f g)) m T)
  | 0, _, _, h => h
  | m + 1, S, T, h => by
    refine fitF_ren R h1 h2 m ?_
    unfold fitStep
    have e : T.done (es.map (Deed.ren f g)) ↔ S.done es := by unfold FitS.done; rw [List.length_map, h.n]
    by_cases z : S.done es
    · rw [if_pos z, if_pos (e.mpr z)]
      exact h
    · rw [if_neg z, if_neg fun y => z (e.mp y)]
      exact fitOne_ren R h1 h2 h
theorem fitD_ren (R : Ren n f g f' g') {ds es : List Deed} (h1 : ∀ d ∈ ds, d.ok n) (h2 : ∀ d ∈ es, d.ok n) : (fitD (ds.map (Deed.ren f g)) (es.map (Deed.ren f g))).why = (fitD ds es).why := by
  unfold fitD fitEnd
  have e : fit0.meas (ds.map (Deed.ren f g)) (es.map (Deed.ren f g)) = fit0.meas ds es := by unfold FitS.meas; rw [List.length_map, List.length_map]
  rw [e]
  exact (fitF_ren R h1 h2 _ ⟨rfl, rfl, rfl⟩).w
end
/-! ### doors exchanged -/
structure Ex2 (S T : Sts) : Prop where
  ws : T.ws = S.ws
  l : T.l = S.r
  r : T.r = S.l
  ss : T.ss = S.os
  os : T.os = S.ss
  n : T.n = S.n
theorem Ex2.runF : ∀ (m : Nat) {S T : Sts}, Ex2 S T → Ex2 (runF .left m S) (runF .right m T)
  | 0, _, _, h => h
  | m + 1, S, T, h => by
    refine Ex2.runF m ?_
    have e : T.done ↔ S.done := by unfold Sts.done; rw [h.l, h.r]; exact And.comm
    by_cases z : S.done
    · rw [stepS_done z, stepS_done (e.mpr z)]
      exact h
    · rw [stepS_of z, stepS_of fun y => z (e.mp y)]
      have e1 : one .left S = after S (beat .left S.ws (S.l.headD .rs) (S.r.headD .rs)) false := rfl
      have e2 : one .right T = after T (beat .right T.ws (T.l.headD .rs) (T.r.headD .rs)) false := rfl
      rw [e1, e2, h.ws, h.l, h.r]
      refine ⟨rfl, ?_, ?_, ?_, ?_, ?_⟩
      · show T.l.tail = S.r.tail; rw [h.l]
      · show T.r.tail = S.l.tail; rw [h.r]
      · show T.ss ++ _ = S.os ++ _; rw [h.ss]; rfl
      · show T.os ++ _ = S.ss ++ _; rw [h.os]; rfl
      · show T.n + 1 = S.n + 1; rw [h.n]
theorem out_ex (ws : List Nat) (ds es : List Deed) : Ex2 (out .left (begin0 ws ds es)) (out .right (begin0 ws es ds)) := by
  unfold Db.out
  have e : (begin0 ws es ds).meas = (begin0 ws ds es).meas := Nat.add_comm _ _
  rw [e]
  exact Ex2.runF _ ⟨rfl, rfl, rfl, rfl, rfl, rfl⟩
/-! ### as many that come -/
theorem images_len {α β γ : Type} [DecidableEq β] [DecidableEq γ] {L : List α} {k : α → β} {k' : α → γ} (h : ∀ a ∈ L, ∀ b ∈ L, k a = k b ↔ k' a = k' b) {A : List β} {A' : List γ} (nA : A.Nodup) (nA' : A'.Nodup)
    (hA : ∀ x, x ∈ A ↔ ∃ o ∈ L, k o = x) (hA' : ∀ x, x ∈ A' ↔ ∃ o ∈ L, k' o = x) : A.length = A'.length := by
  have ch : ∀ x : { x // x ∈ A }, ∃ o, o ∈ L ∧ k o = x.1 := fun x => (hA x.1).mp x.2
  let φ : { x // x ∈ A } → γ := fun x => k' (Classical.choose (ch x))
  have hφ : ∀ x, ∃ o, o ∈ L ∧ k o = x.1 ∧ φ x = k' o := fun x => ⟨_, (Classical.choose_spec (ch x)).1, (Classical.choose_spec (ch x)).2, rfl⟩
  have inj : ∀ x y, φ x = φ y → x = y := fun x y e => by
    obtain ⟨o, h1, h2, h3⟩ := hφ x
    obtain ⟨u, k1, k2, k3⟩ := hφ y
    apply Subtype.ext
    rw [← h2, ← k2]
    exact (h o h1 u k1).mpr (by rw [← h3, ← k3, e])
  have nd : (A.attach.map φ).Nodup := by
    rw [List.nodup_iff_pairwise_ne, List.pairwise_map]
    have q : (A.attach.map Subtype.val).Nodup := by rw [List.attach_map_subtype_val]; exact nA
    rw [List.nodup_iff_pairwise_ne, List.pairwise_map] at q
    exact q.imp fun n e => n (congrArg Subtype.val (inj _ _ e))
  have pm : (A.attach.map φ).Perm A' := by
    refine (List.perm_ext_iff_of_nodup nd nA').mpr fun x => ?_
    rw [hA' x, List.mem_map]
    constructor
    · rintro ⟨a, _, rfl⟩
      obtain ⟨o, h1, _, h3⟩ := hφ a
      exact ⟨o, h1, h3.symm⟩
    · rintro ⟨o, ho, rfl⟩
      refine ⟨⟨k o, (hA _).mpr ⟨o, ho, rfl⟩⟩, List.mem_attach _ _, ?_⟩
      obtain ⟨u, k1, k2, k3⟩ := hφ ⟨k o, (hA _).mpr ⟨o, ho, rfl⟩⟩
      rw [k3]
      exact (h u k1 o ho).mp k2
  have e := pm.length_eq
  rwa [List.length_map, List.length_attach] at e
theorem res_ren {n : Nat} {f g f' g' : Nat → Nat} (R : Ren n f g f' g') {u v : List Nat} {ds es : List Deed} (h : Mr n f g u v) (h1 : ∀ d ∈ ds, d.ok n) (h2 : ∀ d ∈ es, d.ok n) (o p : List Bool) :
    res u ds es o = res u ds es p ↔ res v (ds.map (Deed.ren f g)) (es.map (Deed.ren f g)) o = res v (ds.map (Deed.ren f g)) (es.map (Deed.ren f g)) p := by
  have b := Sr.begin0 h h1 h2
  exact (b.fol R o).tr.eq_iff R (b.fol R p).tr
/-- a method of a list within a comprehension's block -/
theorem pe_bmK {X : Cx} {o e : Expr} {es : List Expr} {to : TE} {t : TA} {name : Str} {apos cpos : Pos} {T id : String} {r : V → List V → Hp → VK → Prop} (K : PySem.W.Frag) (pa : PlainAttrs T) (slot : Slot T name id) (hty : typeOf (.builtin id) = pure (.type "method_descriptor")) (hm : MtR X id r) (ho : PE X o to) (ha : PA X (e :: es) t) (eK : X.K = K := by rfl)
    (hbase : attributeBase o name X.env (eval o X.env) = eval o X.env := by rfl)
    (hfew : ((backTo cpos (starEach (e :: es) X.env)).all (fun x => !x.1) && (backToKw cpos (keywordEach [] X.env)).all (fun x => x.1.isSome)
      && decide ((e :: es).length + ([] : List Keyword).length + (if ([] : List Keyword).isEmpty then 0 else 1) < 30)) = true := by rfl)
    (hline : (apos.endLine == cpos.line) = true := by rfl) (hs : starEach (e :: es) X.env = (false, eval e X.env) :: starEach es X.env := by rfl) (hplain : (backTo cpos (starEach es X.env)).any (·.1) = false := by rfl) :
    PE X (.Call (.Attribute o name apos) (e :: es) [] cpos) (tBM K T r to t) := by
  subst eK
  exact pe_bm pa slot hty hm ho ha hbase hfew hline hs hplain
theorem erase_perm {α : Type} : ∀ (l : List α) (i : Nat) (h : i < l.length), ([l[i]] ++ l.eraseIdx i).Perm l
  | a :: r, 0, _ => List.Perm.refl _
  | a :: r, i + 1, h => (List.Perm.swap a (r[i]'(Nat.lt_of_succ_lt_succ h)) (r.eraseIdx i)).trans ((erase_perm r i (Nat.lt_of_succ_lt_succ h)).cons a)
theorem sl_tupAK {X : Cx} (K : PySem.W.Frag) (e : X.K = K := by rfl) : SlR X (rSlA K) := by subst e; exact sl_tupA
/-! ### an expression whose value is a tuple of these, new or not -/
def EvQ (K : PySem.W.Frag) (te : TE) (σ : L2.St) (H : Hp) (xs : List V) : Prop := ∀ H1, Ex H H1 → ∀ Q : VK, (∀ p H2, Ex H1 H2 → SqT K H2 p xs → Q (.ref p) H2) → te σ H1 Q
section
variable {K : PySem.W.Frag} {σ : L2.St} {H : Hp} {te ta tb : TE} {t : TT} {tu tz : TS} {D : Ends} {xs ys : List V} {a : Addr}
theorem eu_slN {lo hi : Option Int} {tl th : TO} {a : Addr} {xs : List V} (h : Ev te σ H (.ref a)) (h1 : EvO tl σ H lo) (h2 : EvO th σ H hi) (hs : SqT K H a xs) (hw : ¬ (HT.sIx xs.length 0 lo = 0 ∧ HT.sIx xs.length xs.length hi = xs.length)) : EvU (tSl (rSlT K) te tl th) σ H (cutV xs lo hi) := fun H1 e _ q =>
  h H1 e _ fun H2 e2 => h1 H2 (e.trans e2) _ fun H3 e3 => h2 H3 ((e.trans e2).trans e3) _ fun H4 e4 =>
    ⟨a, xs, rfl, ex_t (((e.trans e2).trans e3).trans e4) hs, hw, fun p hp => q p _ (fresh_back ((e2.trans e3).trans e4) hp) (((e2.trans e3).trans e4).trans (Ex.new hp)) upd_same⟩
theorem eq_is (h : EvQ K te σ H xs) (e : xs = ys) : EvQ K te σ H ys := by
  rw [← e]
  exact h
theorem eq_U (h : EvU te σ H xs) : EvQ K te σ H xs := fun H1 e Q q => h H1 e _ fun p H2 _ f hp => q p H2 f (SqT.of hp)
theorem eq_ev (h : Ev te σ H (.ref a)) (hx : SqT K H a xs) : EvQ K te σ H xs := fun H1 e Q q => h H1 e _ fun H2 f => q a H2 f (ex_t (e.trans f) hx)
theorem eq_slA {lo hi : Option Int} {tl th : TO} (h : Ev te σ H (.ref a)) (h1 : EvO tl σ H lo) (h2 : EvO th σ H hi) (hs : SqT K H a xs) : EvQ K (tSl (rSlA K) te tl th) σ H (cutV xs lo hi) := fun H1 e Q q =>
  h H1 e _ fun H2 e2 => h1 H2 (e.trans e2) _ fun H3 e3 => h2 H3 ((e.trans e2).trans e3) _ fun H4 e4 => by
    have f := (e2.trans e3).trans e4
    refine ⟨a, xs, rfl, ex_t (e.trans f) hs, fun hw => ?_, fun hw p hp => q p _ (f.trans (Ex.new hp)) (SqT.of upd_same)⟩
    have ec : cutV xs lo hi = xs := by
      unfold cutV
      rw [hw.1, hw.2]
      simp
    rw [ec] at q
    exact q a H4 f (ex_t (e.trans f) hs)
theorem eq_catT (ha : EvQ K ta σ H xs) (hb : EvQ K tb σ H ys) (hx : xs ≠ []) (hz : xs.length + ys.length ≤ 100000) : EvQ K (tOp (rCatT K) ta tb) σ H (xs ++ ys) := fun H1 e Q q =>
  ha H1 e _ fun p H2 f hp => hb H2 (e.trans f) _ fun r H3 g hr => ⟨p, r, xs, ys, rfl, rfl, ex_t g hp, hr, hx, Nat.le_trans hz (by decide), fun z => by
    subst z
    rw [List.append_nil] at q
    exact q p H3 (f.trans g) (ex_t g hp), fun _ l hl => q l _ ((f.trans g).trans (Ex.new hl)) (SqT.of upd_same)⟩
theorem s_asgQ {i : Nat} (h : EvQ K te σ H xs) (k : ∀ p H1, Ex H H1 → SqT K H1 p xs → D.nx (σ.set i (some (.ref p))) H1) : tAsg te (gName i) D σ H := h H (Ex.refl H) _ fun p H1 f hp => k p H1 f hp
theorem q_asgQ {i : Nat} (h : EvQ K te σ H xs) (k : ∀ p H1, Ex H H1 → SqT K H1 p xs → tz D (σ.set i (some (.ref p))) H1) : tSeq (tAsg te (gName i)) tz D σ H := h H (Ex.refl H) _ fun p H1 f hp => k p H1 f hp
theorem s_appQ {l : Addr} {zs : List V} (hl : H l = some (.lst zs)) (ha : Ev ta σ H (.ref l)) (h : EvQ K te σ H xs) (hz : zs.length < 100000) (k : ∀ p H1, Ex H H1 → SqT K H1 p xs → D.nx σ (upd H1 l (.lst (zs ++ [.ref p])))) :
    tDrop (tBM K "list" rAppend ta (tCons te tNil)) D σ H := ha H (Ex.refl H) _ fun H1 e => ⟨Or.inl ⟨rfl, _, SqL.of (e _ _ hl)⟩, h H1 e _ fun p H2 f hp => ⟨l, zs, _, rfl, rfl, (e.trans f) _ _ hl, Nat.lt_of_lt_of_le hz (by decide), k p H2 (e.trans f) hp⟩⟩
end
/-! ### an expression whose value is such data -/
def EvD (K : PySem.W.Frag) (te : TE) (σ : L2.St) (H : Hp) (d : PyData) : Prop := ∀ H1, Ex H H1 → ∀ Q : VK, (∀ v H2, Ex H1 H2 → Dp K H2 v d → Q v H2) → te σ H1 Q
section
variable {K : PySem.W.Frag} {σ : L2.St} {H : Hp} {te ta tb : TE} {d : PyData} {v : V} {n : Nat}
theorem ed_ev (h : Ev te σ H v) (hd : Dp K H v d) : EvD K te σ H d := fun H1 e Q q => h H1 e _ fun H2 f => q v H2 f (dp_mono (e.trans f) _ _ hd)
theorem ed_L {ns : List Nat} (h : EvL te σ H (ns.map wV)) : EvD K te σ H (.list (wD ns)) := fun H1 e Q q => h H1 e _ fun p H2 _ f hp => q _ H2 f (.lst (SqL.of hp) (dpa_w _))
theorem et_neD (ha : EvD K ta σ H d) (hb : EvD K tb σ H d) (s : Sh n d) (hn : n ≤ 64) : EvT (tTest (tOp (rNeD K) ta tb)) σ H false := fun H1 e Q q =>
  ha H1 e _ fun u H2 f hu => hb H2 (e.trans f) _ fun w H3 g hw => ⟨d, d, dp_mono g _ _ hu, hw, s.shaped hn, s.shaped hn, ⟨false, by rw [s.eqv]; rfl, q H3 (f.trans g)⟩⟩
end
/-! ### a memory by other numbers, laid out step by step -/
def lastTo (n : Nat) (f g : Nat → Nat) (u : List Nat) : Nat → List Nat
  | 0 => List.replicate n 0
  | i + 1 => (lastTo n f g u i).set (f i) (g (u.getD i 0))
theorem lastTo_length (n : Nat) (f g : Nat → Nat) (u : List Nat) : ∀ i, (lastTo n f g u i).length = n
  | 0 => List.length_replicate
  | i + 1 => by rw [lastTo, List.length_set, lastTo_length]
theorem lastTo_at {n : Nat} {f g f' g' : Nat → Nat} (R : Ren n f g f' g') {u : List Nat} (l : u.length = n) (h : ∀ x ∈ u, x < 3) : ∀ i, i ≤ n → (∀ x ∈ lastTo n f g u i, x < 3) ∧ ∀ c, c < i → (lastTo n f g u i).getD (f c) 0 = g (u.getD c 0)
  | 0, _ => ⟨fun x hx => by rw [List.eq_of_mem_replicate hx]; decide, fun _ z => absurd z (Nat.not_lt_zero _)⟩
  | i + 1, hi => by
    obtain ⟨h1, h2⟩ := lastTo_at R l h i (by omega)
    refine ⟨fun x hx => ?_, fun c hc => ?_⟩
    · rcases List.mem_or_eq_of_mem_set hx with hx | rfl
      · exact h1 x hx
      · exact R.g1 _ (getD_lt l h (by omega))
    · rw [lastTo, getD_set (by rw [lastTo_length]; exact R.f1 c (by omega))]
      by_cases e : f i = f c
      · rw [if_pos e, (R.finj (by omega) (by omega)).mp e]
      · rw [if_neg e]
        refine h2 c ?_
        by_cases z : c = i
        · exact absurd (by rw [z]) e
        · omega
theorem lastTo_mr {n : Nat} {f g f' g' : Nat → Nat} (R : Ren n f g f' g') {u : List Nat} (l : u.length = n) (h : ∀ x ∈ u, x < 3) : Mr n f g u (lastTo n f g u n) :=
  ⟨l, lastTo_length _ _ _ _ _, h, (lastTo_at R l h n (Nat.le_refl _)).1, (lastTo_at R l h n (Nat.le_refl _)).2⟩
section
variable {K : PySem.W.Frag} {σ : L2.St} {H : Hp} {te ta tb tl : TE} {tu tz : TS} {D : Ends} {d : PyData} {v : V} {n : Nat}
theorem q_asgD {i : Nat} (h : EvD K te σ H d) (k : ∀ v H1, Ex H H1 → Dp K H1 v d → tz D (σ.set i (some v)) H1) : tSeq (tAsg te (gName i)) tz D σ H := h H (Ex.refl H) _ fun v H1 f hd => k v H1 f hd
theorem el_listU {xs : List V} (h : EvU ta σ H xs) : EvL (tCB (rListS K) (tCons ta tNil)) σ H xs := fun H1 e Q q =>
  h H1 e _ fun p H2 _ f hp => ⟨p, xs, rfl, .inr (SqT.of hp), fun l hl => q l _ (fresh_back f hl) (f.trans (Ex.new hl)) upd_same⟩
theorem ed_L2 {s o : Addr} {A B : List Nat} (h : EvL te σ H [.ref s, .ref o]) (hs : H s = some (.lst (A.map wV))) (ho : H o = some (.lst (B.map wV))) : EvD K te σ H (.list [.list (wD A), .list (wD B)]) := fun H1 e Q q =>
  h H1 e _ fun p H2 _ f hp => q _ H2 f (.lst (SqL.of hp) (.cons (.lst (SqL.of (f _ _ (e _ _ hs))) (dpa_w _)) (.cons (.lst (SqL.of (f _ _ (e _ _ ho))) (dpa_w _)) .nil)))
/-- [[.. for y in x] for x in (x0, x1)] -/
theorem ed_two {x y : V} {j : Nat} {vs : List Nat} {A B : List Nat} (h : EvU tl σ H [x, y]) (hw : ∀ x, wipe ((wipe σ vs).set j (some x)) vs = wipe σ vs) (h0 : ∀ H1, Ex H H1 → EvL te ((wipe σ vs).set j (some x)) H1 (A.map wV)) (h1 : ∀ H1, Ex H H1 → EvL te ((wipe σ vs).set j (some y)) H1 (B.map wV)) :
    EvD K (tLc (iTup K tl) (gName j) tYes te vs) σ H (.list [.list (wD A), .list (wD B)]) := fun H0 e Q q => h H0 e _ fun a Ha na e1 ha => ⟨a, rfl, ⟨_, st_of ha⟩, fun Dl hD => by
  refine lc_tup (xs := [x, y]) (fun i X => Ex Ha X ∧ match i with
    | 0 => X Dl = some (.lst [])
    | 1 => ∃ t1, X Dl = some (.lst [.ref t1]) ∧ t1 ≠ Dl ∧ X t1 = some (.lst (A.map wV))
    | _ => ∃ t1 t2, X Dl = some (.lst [.ref t1, .ref t2]) ∧ X t1 = some (.lst (A.map wV)) ∧ X t2 = some (.lst (B.map wV))) ⟨Ex.new hD, upd_same⟩ (fun i X _ p => st_of (p.1 _ _ ha)) ?_ ?_
  · intro i z X hz p
    refine ⟨hw z, ?_⟩
    match i, p with
    | 0, ⟨p1, p2⟩ =>
      have p2 : X Dl = some (.lst []) := p2
      have ez : z = x := (Option.some.inj hz).symm
      subst ez
      refine (h0 X (e.trans (e1.trans p1))) X (Ex.refl X) _ fun l Y nl f hl => ⟨[], f _ _ p2, by decide, (p1.trans f).mut hD, l, upd_same, ?_, ?_⟩
      · exact (ne_of_none p2 nl).symm
      · rw [upd_ne (ne_of_none p2 nl).symm]
        exact hl
    | 1, ⟨p1, t1, p2, p3, p4⟩ =>
      have ez : z = y := (Option.some.inj hz).symm
      subst ez
      refine (h1 X (e.trans (e1.trans p1))) X (Ex.refl X) _ fun l Y nl f hl => ⟨[.ref t1], f _ _ p2, by show 1 < sizeLine; decide, (p1.trans f).mut hD, t1, l, upd_same, ?_, ?_⟩
      · rw [upd_ne p3]
        exact f _ _ p4
      · rw [upd_ne (ne_of_none p2 nl).symm]
        exact hl
    | i + 2, _ => cases hz
  · rintro X ⟨p1, t1, t2, p2, p3, p4⟩
    exact q _ X (e1.trans p1) (.lst (SqL.of p2) (.cons (.lst (SqL.of p3) (dpa_w _)) (.cons (.lst (SqL.of p4) (dpa_w _)) .nil)))⟩
theorem ed_is {e : PyData} (h : EvD K te σ H d) (q : d = e) : EvD K te σ H e := by
  rw [← q]
  exact h
theorem sh_LL (A B : List Nat) : Sh 2 (.list [.list (wD A), .list (wD B)]) := sh_lst fun d hd => by
  simp only [List.mem_cons, List.not_mem_nil, or_false] at hd
  rcases hd with rfl | rfl <;> exact sh_w _
end
theorem PV.takeR {K : PySem.W.Frag} {H : Hp} : ∀ {vs : List V} {ds : List Deed} (n : Nat), PV K H vs ds → PV K H (vs.take n) (ds.take n)
  | _, _, 0, _ => .nil
  | _, _, n + 1, .nil => .nil
  | _, _, n + 1, .cons r t => .cons r (PV.takeR n t)
theorem non_of {K : PySem.W.Frag} {H : Hp} {v : V} {o : Option (List Nat × Rule)} (h : Dp K H v (datP o)) : decide (v = .non) = decide (o = none) := by
  cases o with
  | none =>
    have h : Dp K H v .none := h
    cases h
    rfl
  | some p =>
    obtain ⟨a, r⟩ := p
    have h : Dp K H v (.tuple [.tuple (wD a), .str "old", .str r.name]) := h
    cases h
    rfl
/-- as many come by other numbers -/
theorem came_len {n : Nat} {f g f' g' : Nat → Nat} (R : Ren n f g f' g') {u v : List Nat} {ds es : List Deed} (h : Mr n f g u v) (h1 : ∀ d ∈ ds, d.ok n) (h2 : ∀ d ∈ es, d.ok n) {A B : List T3} (nA : A.Nodup) (nB : B.Nodup)
    (hA : ∀ x, x ∈ A ↔ ∃ o ∈ ordersD ds.length es.length, res u ds es o = x) (hB : ∀ x, x ∈ B ↔ ∃ o ∈ ordersD (ds.map (Deed.ren f g)).length (es.map (Deed.ren f g)).length, res v (ds.map (Deed.ren f g)) (es.map (Deed.ren f g)) o = x) : A.length = B.length := by
  rw [List.length_map, List.length_map] at hB
  exact images_len (fun o _ p _ => res_ren R h h1 h2 o p) nA nB hA hB
end Db

namespace Db
open PySem L2 Evl StX NS PyProof.Rows PySem.W
/-! ### dicts of what came: the key a tuple of three tuples, the value a text -/
abbrev DicL := List ((Addr × T3) × Str)
def RelD (x : NestedKey × Addr × Value) (l : (Addr × T3) × Str) : Prop := x.1 = kOf l.1.2 ∧ x.2.1 = l.1.1 ∧ ∃ t, x.2.2 = Value.str l.2 t
def DicQ (P : Program) (w : World) (h : Heap) (a : Addr) (L : DicL) : Prop := (a == sysModules) = false ∧ ∃ (o : Obj) (es : Array DictEntry) (ep : Nat) (xs : List (NestedKey × Addr × Value)),
  h.get? a = some o ∧ o.ExactDict ∧ o.data = .dict es ep ∧ es.toList = xs.map (entryOfKey (nestedKind P w)) ∧ (xs.map (·.1)).Nodup ∧ Paired RelD xs L
def DicO (P : Program) (w : World) (a : Addr) (L : DicL) : HO := .ext fun h => DicQ P w h a L
theorem DicQ.at {P : Program} {w : World} {h h' : Heap} {a : Addr} {L : DicL} (R : DicQ P w h a L) (k : ∀ o, h.get? a = some o → h'.get? a = some o) : DicQ P w h' a L := by
  obtain ⟨z, o, es, ep, xs, h1, h2⟩ := R
  exact ⟨z, o, es, ep, xs, k o h1, h2⟩
theorem dicO_ok {P : Program} {w : World} {H : Hp} {h : Heap} {a : Addr} {L : DicL} (R : DicQ P w h a L) : ObjOk P w H h a (DicO P w a L) := by
  have ⟨_, o, _, _, _, ho, _⟩ := R
  exact ⟨R, ⟨o, ho⟩, fun h1 h2 p k => DicQ.at p k⟩
theorem dicO_ne {P : Program} {w : World} {a : Addr} {L : DicL} {xs : List V} : DicO P w a L ≠ .lst xs := fun z => by
  unfold DicO at z
  cases z
theorem dicO_net {P : Program} {w : World} {a : Addr} {L : DicL} {xs : List V} : DicO P w a L ≠ .tup xs := fun z => by
  unfold DicO at z
  cases z
theorem dicO_nef {P : Program} {w : World} {a : Addr} {L : DicL} {z : Obj} {u : HO} : DicO P w a L ≠ .frz z u := fun e => by
  unfold DicO at e
  cases e
def valD (L : DicL) (x : T3) : Option Str := (L.find? fun p => decide (p.1.2 = x)).map (·.2)
theorem atD {x : T3} : ∀ {xs : List (NestedKey × Addr × Value)} {L : DicL}, Paired RelD xs L → (∀ v, valD L x = some v → ∃ b t, atKey xs (kOf x) = some (b, Value.str v t)) ∧ (valD L x = none → atKey xs (kOf x) = none)
  | _, _, .nil => ⟨(fun v h => by cases h), fun _ => rfl⟩
  | y :: xs, l :: L, .cons r t => by
    obtain ⟨h1, h2⟩ := atD (x := x) t
    obtain ⟨r1, r2, tk, r3⟩ := r
    unfold valD atKey at *
    by_cases e : l.1.2 = x
    · have e' : y.1 = kOf x := by rw [r1, e]
      rw [List.find?_cons_of_pos (by simpa using e), List.find?_cons_of_pos (by simpa using e')]
      refine ⟨fun v hv => ⟨y.2.1, tk, ?_⟩, fun z => by cases z⟩
      cases hv
      show some y.2 = _
      rw [← r3]
    · have e' : ¬ y.1 = kOf x := by rw [r1]; exact fun z => e (kOf_inj z)
      rw [List.find?_cons_of_neg (by simpa using e), List.find?_cons_of_neg (by simpa using e')]
      exact ⟨h1, h2⟩
section
variable {X : Cx} {pins : List (Addr × Obj)} {σ : L2.St} {H : Hp} {s : Shared}
theorem dic_at (I : Inv X pins σ H s) {a : Addr} {L : DicL} (ha : H a = some (DicO X.prog X.w a L)) (hL : ∀ p ∈ L, NT X.K H p.1.1 p.1.2) : (a == sysModules) = false ∧ ∃ xs, s.heap.DictOfH (nestedKind X.prog X.w) a xs ∧ Paired RelD xs L := by
  obtain ⟨z, o, es, ep, xs, h1, h2, h3, h4, h5, h6⟩ : DicQ X.prog X.w s.heap a L := (I.hok a _ ha).1
  refine ⟨z, xs, ⟨o, es, ep, h1, h2, h3, h4, fun x hx => ?_, h5⟩, h6⟩
  have go : ∀ {xs : List (NestedKey × Addr × Value)} {L : DicL}, Paired RelD xs L → (∀ p ∈ L, NT X.K H p.1.1 p.1.2) → ∀ x ∈ xs, (nestedKind X.prog X.w).is s.heap x.1 x.2.1 := by
    intro xs L h
    induction h with
    | nil => exact fun _ _ z => nomatch z
    | cons r t ih =>
      rintro hL x hx
      rcases List.mem_cons.mp hx with rfl | hx
      · obtain ⟨r1, r2, _⟩ := r
        rw [r1, r2]
        exact (heap_3 I (hL _ (by simp))).1.is
      · exact ih (fun p hp => hL p (by simp [hp])) x hx
  exact go h6 hL x hx
theorem dic_type (I : Inv X pins σ H s) {a : Addr} {L : DicL} (ha : H a = some (DicO X.prog X.w a L)) : s.TypeIs (.ref a) "dict" ∧ ∀ b, Value.ref a = .ref b → ∃ ob, s.heap.get? b = some ob ∧ ob.dict = none := by
  obtain ⟨z, o, es, ep, xs, h1, h2, _⟩ : DicQ X.prog X.w s.heap a L := (I.hok a _ ha).1
  refine ⟨⟨o, h1, h2.1⟩, fun b e => ?_⟩
  cases e
  exact ⟨o, h1, h2.2.1⟩
end
/-- {} -/
def tDNewN (P : Program) (w : World) : TE := fun _ H Q => ∀ p, H p = none → Q (.ref p) (upd H p (DicO P w p []))
theorem pe_dnewN {X : Cx} {pos : Pos} : PE X (.Dict [] [] pos) (tDNewN X.prog X.w) := ⟨fun pins s σ H Q I h =>
  wpAny_Dict_empty ⟨.ref s.heap.objs.size, _, I.laid (a := s.heap.objs.size) (o := DicO X.prog X.w s.heap.objs.size []) (t' := s.toks) (fun _ _ q => Heap.get?_push_of_some _ q) (Nat.le_refl _) (dicO_ok ⟨beq_eq_false_iff_ne.mpr (Ne.symm (Nat.ne_of_lt I.big)), _, #[], 0, [], Heap.get?_push_size _ rfl, ⟨rfl, rfl, rfl⟩, rfl, rfl, List.nodup_nil, .nil⟩), rfl, h _ (I.hok.fresh (Nat.le_refl _))⟩⟩
section
variable {X : Cx} {o i e f : Expr} {td ty tx : TE} {pos apos cpos : Pos}
/-- d[k] -/
def tDGetN (P : Program) (w : World) (K : PySem.W.Frag) (td ty : TE) : TE := fun σ H Q => td σ H fun u H1 => ty σ H1 fun y H2 => ∃ (a b : Addr) (x : T3) (L : DicL) (v : Str), u = .ref a ∧ y = .ref b ∧ H2 a = some (DicO P w a L) ∧ (∀ p ∈ L, NT K H2 p.1.1 p.1.2) ∧ NT K H2 b x ∧ valD L x = some v ∧ Q (.str v) H2
theorem pe_dgetN (hu : X.A.units + 64 < cLine) (ho : PE X o td) (hi : PE X i ty) (hs : NoSl i) : PE X (.Subscript o i pos) (tDGetN X.prog X.w X.K td ty) := by
  refine ⟨fun pins s σ H Q I h => ?_⟩
  refine subD_of PySem.F.slot_dict_getitem.lookup hs (thn (ho.run pins s σ H _ I h) fun u s1 ⟨x, H1, I1, rx, q1⟩ => thn (hi.run pins s1 σ H1 _ I1 q1) fun iv s2 ⟨y, H2, I2, ry, a, b, x3, L, v, ex, ey, ha, hL, hb, hv, q2⟩ => ?_)
  subst ex ey
  obtain rfl : u = Value.ref a := rx
  obtain rfl : iv = Value.ref b := ry
  obtain ⟨z, xs, dd, pr⟩ := dic_at I2 ha hL
  obtain ⟨b', t, hat⟩ := (atD (x := x3) pr).1 v hv
  refine ⟨(dic_type I2 ha).1, wpAny_getItem_heap ?_ (heap_3 I2 hb).1.is dd hat ⟨.str v, H2, I2.tok _, ⟨t, rfl⟩, q2⟩⟩
  show _ + 8 < cLine
  first
    | (rw [Around.in1_units]; omega)
    | omega
/-- d.get(k) -/
def tDGet1N (P : Program) (w : World) (K : PySem.W.Frag) (td ty : TE) : TE := fun σ H Q => td σ H fun u H1 => ∃ (a : Addr) (L0 : DicL), u = .ref a ∧ H1 a = some (DicO P w a L0) ∧ ty σ H1 fun y H2 => ∃ (b : Addr) (x : T3) (L : DicL), y = .ref b ∧ H2 a = some (DicO P w a L) ∧ (∀ p ∈ L, NT K H2 p.1.1 p.1.2) ∧ NT K H2 b x ∧
  Q (match valD L x with | some v => .str v | none => .non) H2
theorem pe_dget1N (hu : X.A.units + 64 < cLine) (ho : PE X o td) (he : PE X e ty) (m : M1 X o "get" apos e cpos) : PE X (.Call (.Attribute o "get" apos) [e] [] cpos) (tDGet1N X.prog X.w X.K td ty) := by
  refine ⟨fun pins s σ H Q I h => ?_⟩
  refine wpAny_Call_method m.base m.few m.line PySem.F.plainAttrs_dict PySem.F.slot_dict_get PySem.F.type_dict_get (thn (ho.run pins s σ H _ I h) fun u s1 ⟨x, H1, I1, rx, a, L0, ex, d, q1⟩ => ?_)
  subst ex
  obtain rfl : u = Value.ref a := rx
  obtain ⟨t1, t2⟩ := dic_type I1 d
  refine ⟨t1, t2, ?_⟩
  rw [m.trees]
  refine Calls.callWith_builtin rfl (Calls.evalArgs_plain (Calls.spliced_cons (thn (he.run pins s1 σ H1 _ I1 q1) fun iv s2 ⟨y, H2, I2, ry, b, x3, L, ey, ha, hL, hb, q2⟩ => Calls.spliced_nil ?_)))
  subst ey
  obtain rfl : iv = Value.ref b := ry
  obtain ⟨z, xs, dd, pr⟩ := dic_at I2 ha hL
  refine call_meetsIn PySem.F.slot_dict_get dd.typeIs PySem.F.entry_dict_get (PySem.F.args_dict_get_2 _ _) (meetsH_dict_get (nestedKind X.prog X.w) a b z) ⟨?_, kOf x3, xs, (heap_3 I2 hb).1.is, dd, ⟨_, H2, I2.tok _, ?_, q2⟩⟩
  · show _ + 8 < cLine
    first
      | (rw [Around.in1_units]; omega)
      | omega
  · cases hv : valD L x3 with
    | none =>
      rw [(atD pr).2 hv]
      rfl
    | some v =>
      obtain ⟨b', t, hat⟩ := (atD (x := x3) pr).1 v hv
      rw [hat]
      exact ⟨t, rfl⟩
/-- d.setdefault(k, text) -/
def tDSetN (P : Program) (w : World) (K : PySem.W.Frag) (td ty tx : TE) : TE := fun σ H Q => td σ H fun u H1 => ∃ (a : Addr) (L0 : DicL), u = .ref a ∧ H1 a = some (DicO P w a L0) ∧ ty σ H1 fun y H2 => tx σ H2 fun z H3 => ∃ (b : Addr) (x : T3) (L : DicL) (v : Str), y = .ref b ∧ z = .str v ∧ H3 a = some (DicO P w a L) ∧ (∀ p ∈ L, NT K H3 p.1.1 p.1.2) ∧ NT K H3 b x ∧ L.length ≤ 1000 ∧
  (∀ v', valD L x = some v' → Q (.str v') H3) ∧ (valD L x = none → Q (.str v) (upd H3 a (DicO P w a (L ++ [((b, x), v)]))))
theorem pe_dsetN (hu : X.A.units + 64 < cLine) (ho : PE X o td) (he : PE X e ty) (hf : PE X f tx) (m : M2 X o "setdefault" apos e f cpos) : PE X (.Call (.Attribute o "setdefault" apos) [e, f] [] cpos) (tDSetN X.prog X.w X.K td ty tx) := by
  refine ⟨fun pins s σ H Q I h => ?_⟩
  refine wpAny_Call_method m.base m.few m.line PySem.F.plainAttrs_dict PySem.F.slot_dict_setdefault PySem.F.type_dict_setdefault (thn (ho.run pins s σ H _ I h) fun u s1 ⟨x, H1, I1, rx, a, L0, ex, d, q1⟩ => ?_)
  subst ex
  obtain rfl : u = Value.ref a := rx
  obtain ⟨t1, t2⟩ := dic_type I1 d
  refine ⟨t1, t2, ?_⟩
  rw [m.trees]
  refine Calls.callWith_builtin rfl (Calls.evalArgs_plain (Calls.spliced_cons (thn (he.run pins s1 σ H1 _ I1 q1) fun iv s2 ⟨y, H2, I2, ry, q2⟩ =>
    Calls.spliced_cons (thn (hf.run pins s2 σ H2 _ I2 q2) fun fv s3 ⟨z, H3, I3, rz, b, x3, L, v, ey, ez, ha, hL, hb, few, y1, y2⟩ => Calls.spliced_nil ?_))))
  subst ey ez
  obtain rfl : iv = Value.ref b := ry
  obtain ⟨tk, rfl⟩ : ∃ t, fv = Value.str v t := rz
  obtain ⟨z, xs, dd, pr⟩ := dic_at I3 ha hL
  have len := Paired.length pr
  refine call_setdefault_heap (hsz := by rw [len, sizeLine_eq]; omega) ?_ (heap_3 I3 hb).1.is z dd (fun p hp => ?_) (fun hn h' hm' hs => ?_)
  · show _ + 8 < cLine
    first
      | (rw [Around.in1_units]; omega)
      | omega
  · cases hv : valD L x3 with
    | none =>
      rw [(atD pr).2 hv] at hp
      cases hp
    | some v' =>
      obtain ⟨b', t, hat⟩ := (atD (x := x3) pr).1 v' hv
      rw [hat] at hp
      cases hp
      exact ⟨.str v', H3, I3.tok _, ⟨t, rfl⟩, y1 v' hv⟩
  · have hv : valD L x3 = none := by
      cases hv : valD L x3 with
      | none => rfl
      | some v' =>
        obtain ⟨b', t, hat⟩ := (atD (x := x3) pr).1 v' hv
        rw [hat] at hn
        cases hn
    rw [storedH_new hn] at hm'
    obtain ⟨o', es', ep', h1, h2, h3, h4, h5, h6⟩ := hm'
    have pr' : Paired RelD (xs ++ [(kOf x3, b, Value.str v tk)]) (L ++ [((b, x3), v)]) := by
      have go : ∀ {xs : List (NestedKey × Addr × Value)} {L : DicL}, Paired RelD xs L → Paired RelD (xs ++ [(kOf x3, b, Value.str v tk)]) (L ++ [((b, x3), v)]) := by
        intro xs L h
        induction h with
        | nil => exact .cons ⟨rfl, rfl, tk, rfl⟩ .nil
        | cons r t ih => exact .cons r ih
      exact go pr
    have new : DicQ X.prog X.w h' a (L ++ [((b, x3), v)]) := ⟨z, o', es', ep', _, h1, h2, h3, h4, h6, pr'⟩
    exact ⟨.str v, _, I3.write (e := a) (t' := s3.toks + (nestedKind X.prog X.w).draws (kOf x3)) (by rw [ha]; trivial) (.inl rfl) (fun b u hb hu => (hs.2 b hb).trans hu) ⟨o', h1⟩ (dicO_ok new), ⟨tk, rfl⟩, y2 hv⟩
end
/-- sorted(d): a new list of the keys, rising -/
def rSortedD (P : Program) (w : World) (K : PySem.W.Frag) : List V → Hp → VK → Prop := fun vs H Q => ∃ (a : Addr) (L : DicL), vs = [V.ref a] ∧ H a = some (DicO P w a L) ∧ (∀ p ∈ L, NT K H p.1.1 p.1.2) ∧ L.length ≤ 1000 ∧
  ∀ (M : List (Addr × T3)) (p : Addr), M.Perm (L.map (·.1)) → Srt M → (M.map (·.2)).Nodup → H p = none → Q (.ref p) (upd H p (.lst (M.map fun q => V.ref q.1)))
theorem paired_keys {P : Program} {w : World} : ∀ {xs : List (NestedKey × Addr × Value)} {L : DicL}, Paired RelD xs L → xs.map (fun x => (entryOfKey (nestedKind P w) x).key) = (L.map (·.1)).map (fun p => Value.ref p.1) ∧ xs.map (·.1) = (L.map (·.1)).map (fun p => kOf p.2)
  | _, _, .nil => ⟨rfl, rfl⟩
  | x :: _, l :: _, .cons r t => by
    obtain ⟨h1, h2⟩ := paired_keys (P := P) (w := w) t
    obtain ⟨r1, r2, _⟩ := r
    rw [List.map_cons, List.map_cons, List.map_cons, List.map_cons, List.map_cons, h1, h2, r1]
    refine ⟨?_, rfl⟩
    show Value.ref x.2.1 :: _ = _
    rw [r2]
theorem stands {P : Program} {w : World} {H : Hp} {h : Heap} {a : Addr} : ∀ {o : HO}, ObjOk P w H h a o → ∃ ob, h.get? a = some ob
  | .lst _, ⟨_, _, _, _, e⟩ => ⟨_, e⟩
  | .tup _, ⟨_, _, _, ob, e, _⟩ => ⟨ob, e⟩
  | .dK _, ⟨_, _, _, _, ob, _, _, e, _⟩ => ⟨ob, e⟩
  | .dT _, ⟨_, _, _, _, ob, _, _, e, _⟩ => ⟨ob, e⟩
  | .set _ _, ⟨ob, _, _, _, e, _⟩ => ⟨ob, e⟩
  | .ins _ _ _, ⟨_, _, _, e, _⟩ => ⟨_, e⟩
  | .own _, e => e
  | .xd _, ⟨_, ⟨ob, _, _, e, _⟩, _⟩ => ⟨ob, e⟩
  | .rng _ _, ⟨_, _, _, e⟩ => ⟨_, e⟩
  | .frz _ _, ⟨e, _⟩ => ⟨_, e⟩
  | .tbl _, e => ⟨_, e⟩
  | .met _ _, e => ⟨_, e⟩
  | .ext _, ⟨_, e, _⟩ => e
/-- a new object at a place where none stood -/
theorem un_new {fs ex : List Addr} {H : Hp} {h h' : Heap} {a : Addr} {o : HO} (k : ∀ b u, h.get? b = some u → h'.get? b = some u) (hg : h.get? a = none) (hn : H a = none) : Un fs ex H (upd H a o) h h' where
  keep := fun b u q _ _ _ => k b u q
  slot := fun b u q _ _ _ => ⟨u.slots, k b u q⟩
  free := fun b u q n _ => by
    rw [upd_ne (fun z => by subst z; rw [hg] at q; cases q)]
    exact n
  there := fun b u q _ => ⟨u, k b u q⟩
  tups := fun b xs q => by rw [upd_ne (ne_of_none q hn)]; exact q
  frzs := fun b u xs q => by rw [upd_ne (ne_of_none q hn)]; exact q
  tbls := fun b ps q => ⟨#[], by rw [upd_ne (ne_of_none q hn), q]; simp⟩
theorem hok_new {P : Program} {w : World} {H : Hp} {h h' : Heap} {a : Addr} {o : HO} (x : HOk P w H h) (k : ∀ b u, h.get? b = some u → h'.get? b = some u) (hn : H a = none) (new : ObjOk P w (upd H a o) h' a o) : HOk P w (upd H a o) h' := fun b u e => by
  by_cases hb : b = a
  · subst hb
    rw [upd_same] at e
    cases e
    exact new
  · rw [upd_ne hb] at e
    exact (x b u e).stay (fun c v _ q => k c v q) (fun c q => by rw [upd_ne (ne_of_none q hn)]; exact q) fun c xs q => by rw [upd_ne (ne_of_none q hn)]; exact q
theorem cr_sortedD {X : Cx} (calm : X.calm = true) (hu : X.A.units + 64 < cLine) : CallR X (.builtin "sorted") (rSortedD X.prog X.w X.K) := by
  intro pins s σ H vs us Q I r h
  obtain ⟨a, L, rfl, ha, hL, few, q⟩ := h
  rw [Vals.ref1 r]
  obtain ⟨lo, o, es, ep, xs, ho, hex, hd, he, hnd, pr⟩ : DicQ X.prog X.w s.heap a L := (I.hok a _ ha).1
  obtain ⟨keys, knd⟩ := paired_keys (P := X.prog) (w := X.w) pr
  have len := Paired.length pr
  have sz : es.size = L.length := by
    have z := congrArg List.length he
    simpa [len] using z
  have lm : (L.map (·.1)).length = L.length := List.length_map _
  refine Calls.call_function_entry kind_sorted plain_sorted entry_sorted (args_sorted1 _) ?_
  unfold Builtin.«sorted»
  refine wpAny_bind (m := checkCount "sorted" 1 1 _) (wpAny_pure ?_)
  refine wpAny_bind (kdu_collect (kdl_raw lo hex hd) (I.ok.hd calm) ho (by rw [sizeLine_eq, sz]; omega) fun h' tk acc k1 items => ?_)
  have hg : s.heap.get? h'.objs.size = none := by
    cases e : s.heap.get? h'.objs.size with
    | none => rfl
    | some o => exact absurd (Heap.lt_size (k1 _ _ e)) (Nat.lt_irrefl _)
  have rows : acc.toList = (L.map (·.1)).map fun p => Value.ref p.1 := by
    rw [← keys]
    apply List.ext_getElem?
    intro i
    have e1 : es.toList[i]? = (xs[i]?).map (entryOfKey (nestedKind X.prog X.w)) := by rw [he, List.getElem?_map]
    rw [List.getElem?_map]
    by_cases hi : i < acc.size
    · have e2 : acc[i]? = some acc[i] := Array.getElem?_eq_getElem hi
      obtain ⟨en, e3, e4⟩ := items.2 i _ e2
      rw [Array.getElem?_toList, e2, e4]
      rw [Array.getElem?_toList, e3] at e1
      cases hx : xs[i]? with
      | none => rw [hx] at e1; cases e1
      | some x =>
        rw [hx] at e1
        have e5 := Option.some.inj e1
        rw [e5]
        rfl
    · have e2 : acc.toList[i]? = none := by rw [Array.getElem?_toList]; exact Array.getElem?_eq_none (by omega)
      have e3 : xs[i]? = none := List.getElem?_eq_none (by rw [len]; have := items.1; omega)
      rw [e2, e3]
      rfl
  rw [rows]
  have nL : ((L.map (·.1)).map (·.2)).Nodup := by
    have z := hnd
    rw [knd] at z
    have e : (L.map (·.1)).map (fun p => kOf p.2) = ((L.map (·.1)).map (·.2)).map kOf := by simp only [List.map_map]; rfl
    rw [e] at z
    exact List.Pairwise.of_map kOf (fun x y ne e => ne (by rw [e])) z
  have hL1 : ∀ p ∈ L.map (·.1), NT X.K H p.1 p.2 := fun p hp => by
    obtain ⟨l, hl, rfl⟩ := List.mem_map.mp hp
    exact hL l hl
  clear rows keys knd items acc
  generalize L.map (·.1) = L1 at nL hL1 lm q
  refine wpAny_bind (wpAny_newList ?_ (by rw [sizeLine_eq, List.length_map]; omega))
  have hp : (h'.push (seqObj "list" (L1.map fun p => Value.ref p.1).toArray 0)).get? h'.objs.size = some (seqObj "list" (L1.map fun p => Value.ref p.1).toArray 0) := Heap.get?_push_size _ rfl
  have rd : ∀ p ∈ L1, Reads (h'.push (seqObj "list" (L1.map fun p => Value.ref p.1).toArray 0)) (.ref p.1) (enc3 p.2) [] := fun p hp =>
    PyProof.Rows.Reads.keeps (fun b o e => Heap.get?_push_of_some _ (k1 b o e)) (heap_3 I (hL1 p hp)).2
  have er : ∀ M : List (Addr × T3), (∀ p ∈ M, p ∈ L1) → PySem.W.EachIs (fun v p => ∃ as, Reads (h'.push (seqObj "list" (L1.map fun p => Value.ref p.1).toArray 0)) v (enc3 p.2) as ∧ h'.objs.size ∉ as) (M.map fun p => Value.ref p.1) M := fun M => by
    induction M with
    | nil => exact fun _ => .nil
    | cons p M ih => exact fun hM => .cons ⟨[], rd p (hM p (by simp)), by simp⟩ (ih fun p' hp' => hM p' (by simp [hp']))
  refine wpAny_bind (wpAny_holding (list_sort_data (s := { s with heap := h'.push (seqObj "list" (L1.map fun p => Value.ref p.1).toArray 0), toks := tk }) (enc := fun p : Addr × T3 => enc3 p.2) hp (each_refs L1) (er L1 fun _ h => h) (AllAlike.of fun p p' => alike_3 _ _) (Sortable.tuples fun p => ⟨_, _, rfl⟩) (by rw [sizeLine_eq]; omega) (fun p _ => ?_) fun out hout eo => ?_))
  · rw [depth_3]
    first
      | (simp only [Around.in1_units]; omega)
      | omega
  have eo' := each_out eo
  have pM : (L1.mergeSort (dataLe false fun p : Addr × T3 => enc3 p.2)).Perm L1 := List.mergeSort_perm _ _
  have srt0 : (L1.mergeSort (dataLe false fun p : Addr × T3 => enc3 p.2)).Pairwise (fun a b => dataLe false (fun p : Addr × T3 => enc3 p.2) a b = true) := sort_pairwise (sortLe_total _ _ _) L1
  have srt : Srt (L1.mergeSort (dataLe false fun p : Addr × T3 => enc3 p.2)) := srt0
  generalize L1.mergeSort (dataLe false fun p : Addr × T3 => enc3 p.2) = M at eo' pM srt
  subst eo'
  obtain ⟨c, hc⟩ := sortedHeap_at (out := (M.map fun p => Value.ref p.1).toArray) hp
  have kept : ∀ b o, s.heap.get? b = some o → (sortedHeap (h'.push (seqObj "list" (L1.map fun p => Value.ref p.1).toArray 0)) h'.objs.size (L1.map fun p => Value.ref p.1) (M.map fun p => Value.ref p.1).toArray).get? b = some o := fun b o e => by
    have e1 := k1 b o e
    have lt := Heap.lt_size e1
    rw [sortedHeap_old (Nat.ne_of_lt lt) (by rw [size_push']; exact Nat.lt_succ_of_lt lt)]
    exact Heap.get?_push_of_some _ e1
  have free : H h'.objs.size = none := by
    cases e : H h'.objs.size with
    | none => rfl
    | some u =>
      obtain ⟨o', ho'⟩ := stands (I.hok _ _ e)
      rw [hg] at ho'
      cases ho'
  have len2 : (M.map fun p => V.ref p.1).length ≤ sizeLine := by rw [List.length_map, pM.length_eq, sizeLine_eq]; omega
  have J : Inv X pins σ (upd H h'.objs.size (.lst (M.map fun p => V.ref p.1))) { s with heap := sortedHeap (h'.push (seqObj "list" (L1.map fun p => Value.ref p.1).toArray 0)) h'.objs.size (L1.map fun p => Value.ref p.1) (M.map fun p => Value.ref p.1).toArray, gens := s.gens, drawn := s.drawn, toks := tk } :=
    I.call (ch := []) (un_new kept hg free) (hok_new I.hok kept free ⟨len2, _, c, refs_vals M, hc⟩) I.bare (fun _ z => nomatch z)
  exact wpAny_pure ⟨_, rfl, .ref h'.objs.size, _, J, rfl, q M _ pM srt ((pM.map (·.2)).nodup_iff.mpr nL) free⟩
end Db

namespace Db
open PySem L2 Evl StX NS PyProof.Rows PySem.W
/-! ### all orders, as the law lays them out -/
def ordersF : Nat → Nat → Nat → List (List Bool)
  | 0, a, b => [List.replicate a false ++ List.replicate b true]
  | f + 1, a, b => if a = 0 ∨ b = 0 then [List.replicate a false ++ List.replicate b true] else (ordersF f (a - 1) b).map (false :: ·) ++ (ordersF f a (b - 1)).map (true :: ·)
theorem ordersF_eq : ∀ a b : Nat, a ≤ 6 → b ≤ 6 → ordersF 12 a b = ordersD a b := by
  have h : ∀ a ∈ List.range 7, ∀ b ∈ List.range 7, ordersF 12 a b = ordersD a b := by decide +kernel
  exact fun a b ha hb => h a (List.mem_range.mpr (by omega)) b (List.mem_range.mpr (by omega))
theorem ordersF_size : ∀ (f a b : Nat), (ordersF f a b).length ≤ 2 ^ (a + b) ∧ ∀ o ∈ ordersF f a b, o.length ≤ a + b
  | 0, a, b => ⟨Nat.one_le_two_pow, fun o ho => by
    rw [List.mem_singleton.mp ho, List.length_append, List.length_replicate, List.length_replicate]
    exact Nat.le_refl _⟩
  | f + 1, a, b => by
    rw [ordersF]
    by_cases z : a = 0 ∨ b = 0
    · rw [if_pos z]
      refine ⟨Nat.one_le_two_pow, fun o ho => ?_⟩
      rw [List.mem_singleton.mp ho, List.length_append, List.length_replicate, List.length_replicate]
      exact Nat.le_refl _
    · rw [if_neg z]
      obtain ⟨h1, h2⟩ := ordersF_size f (a - 1) b
      obtain ⟨h3, h4⟩ := ordersF_size f a (b - 1)
      obtain ⟨c, hc⟩ : ∃ c, a + b = c + 1 := ⟨a + b - 1, by omega⟩
      rw [show a - 1 + b = c by omega] at h1 h2
      rw [show a + (b - 1) = c by omega] at h3 h4
      rw [hc]
      refine ⟨?_, fun o ho => ?_⟩
      · rw [List.length_append, List.length_map, List.length_map, Nat.pow_succ]
        omega
      · rcases List.mem_append.mp ho with ho | ho
        · obtain ⟨u, hu, rfl⟩ := List.mem_map.mp ho
          have := h2 u hu
          show u.length + 1 ≤ _
          omega
        · obtain ⟨u, hu, rfl⟩ := List.mem_map.mp ho
          have := h4 u hu
          show u.length + 1 ≤ _
          omega
/-- [door + rest for rest in ..] -/
theorem el_doors {K : PySem.W.Frag} {σ : L2.St} {H : Hp} {tl te : TE} {j : Nat} {vs : List Nat} {L : List (List Bool)} (b : Bool) (h : EvL tl σ H (L.map fun o => V.str (oS o))) (hz : L.length ≤ 5000) (hw : ∀ x, wipe ((wipe σ vs).set j (some x)) vs = wipe σ vs)
    (he : ∀ (o : List Bool) H1, o ∈ L → Ex H H1 → Ev te ((wipe σ vs).set j (some (.str (oS o)))) H1 (.str (oS (b :: o)))) : EvL (tLc (iList K tl) (gName j) tYes te vs) σ H ((L.map (b :: ·)).map fun o => V.str (oS o)) := by
  have q := el_lcNL (K := K) (j := j) (vs := vs) (t := tYes) (te := te) (fun _ => true) (fun i => V.str (oS (b :: L.getD i []))) h (by rw [List.length_map]; omega) hw (fun i y H1 e hx => fun H2 e2 Q q => q H2 (Ex.refl _)) (fun i y H1 e hx _ => by
    rw [List.getElem?_map] at hx
    cases hn : L[i]? with
    | none => rw [hn] at hx; cases hx
    | some o =>
      rw [hn] at hx
      cases hx
      rw [List.getD_eq_getElem?_getD, hn]
      exact he o H1 (List.mem_of_getElem? hn) e)
  rw [given_all, List.length_map] at q
  have e2 : (List.range L.length).map (fun i => V.str (oS (b :: L.getD i []))) = (L.map (b :: ·)).map fun o => V.str (oS o) := by
    apply List.ext_getElem
    · simp
    · intro k h1 h2
      have hk : k < L.length := by simpa using h1
      simp [List.getD_eq_getElem?_getD, List.getElem?_eq_getElem hk]
  rw [e2] at q
  exact q
theorem el_catTwo {K : PySem.W.Frag} {σ : L2.St} {H : Hp} {ta tb : TE} {xs ys : List V} (ha : EvL ta σ H xs) (hb : EvL tb σ H ys) (hz : xs.length + ys.length ≤ 100000) : EvL (tOp rCat ta tb) σ H (xs ++ ys) := el_catN ha hb hz
/-! ### what stays through draws, and while the dict is written -/
theorem NT.bt {K : PySem.W.Frag} {H H' : Hp} {h l b : Addr} {x : T3} (D : Draw H h l) (e : Bt [h, l] H H') (q : NT K H b x) : NT K H' b x := by
  obtain ⟨s, o, m, h1, h2, h3, h4⟩ := q
  exact ⟨s, o, m, D.t e h1, D.t e h2, D.t e h3, D.t e h4⟩
theorem NT.setD {K : PySem.W.Frag} {H : Hp} {D b : Addr} {x : T3} {P : Program} {w : World} {L : DicL} {o' : HO} (h : H D = some (DicO P w D L)) (q : NT K H b x) : NT K (upd H D o') b x := by
  obtain ⟨s, o, m, h1, h2, h3, h4⟩ := q
  have n1 : ∀ ys, DicO P w D L ≠ .tup ys := fun _ => dicO_net
  have n2 : ∀ z u, DicO P w D L ≠ .frz z u := fun _ _ => dicO_nef
  exact ⟨s, o, m, sqt_upd h n1 n2 h1, sqt_upd h n1 n2 h2, sqt_upd h n1 n2 h3, sqt_upd h n1 n2 h4⟩
theorem Drew.put {H H1 : Hp} {h l p : Addr} {o : HO} (a : Drew H H1 h l) (D : Draw H h l) (hp : H p = none) : Drew H (upd H1 p o) h l := by
  have n := D.out hp
  obtain ⟨x, y, ns, q1, q2, q3⟩ := a.dr.st
  have n1 : h ≠ p := fun z => n (by rw [← z]; simp)
  have n2 : l ≠ p := fun z => n (by rw [← z]; simp)
  exact ⟨⟨x, y, ns, by rw [upd_ne n1]; exact q1, by rw [upd_ne n2]; exact q2, q3⟩, a.bt.upd (.inr hp)⟩
theorem upd_self {H : Hp} {a : Addr} {o : HO} (h : H a = some o) : upd H a o = H := by
  funext b
  unfold upd
  split
  · rename_i e
    rw [e, h]
  · rfl
theorem q_dset {P : Program} {w : World} {K : PySem.W.Frag} {σ : L2.St} {H : Hp} {tz : TS} {D : Ends} {i j k : Nat} {a b : Addr} {x : T3} {L : DicL} {v : Str} (hi : σ[i]? = some (some (.ref a))) (hj : σ[j]? = some (some (.ref b))) (hk : σ[k]? = some (some (.str v))) (ha : H a = some (DicO P w a L)) (hL : ∀ p ∈ L, NT K H p.1.1 p.1.2) (hb : NT K H b x) (few : L.length ≤ 1000)
    (go : ∀ L' : DicL, (∀ y, valD L' y = if valD L y = none ∧ y = x then some v else valD L y) → (∀ p ∈ L', p ∈ L ∨ p.1 = (b, x)) → L'.length ≤ L.length + 1 → tz D σ (upd H a (DicO P w a L'))) : tSeq (tDrop (tDSetN P w K (tVar i) (tVar j) (tVar k))) tz D σ H := by
  refine ⟨_, hi, a, L, rfl, ha, _, hj, _, hk, b, x, L, v, rfl, rfl, ha, hL, hb, few, fun v' hv => ?_, fun hv => ?_⟩
  · have z := go L (fun y => ?_) (fun p hp => .inl hp) (by omega)
    · rwa [upd_self ha] at z
    · by_cases c : valD L y = none ∧ y = x
      · rw [c.2, hv] at c
        cases c.1
      · rw [if_neg c]
  · refine go _ (fun y => ?_) (fun p hp => ?_) (by rw [List.length_append]; exact Nat.le_refl _)
    · unfold valD
      rw [List.find?_append]
      cases hf : L.find? (fun p => decide (p.1.2 = y)) with
      | some p => simp
      | none =>
        by_cases c : y = x
        · subst c
          simp
        · have c' : ¬ x = y := fun z => c z.symm
          simp [c, c']
    · rcases List.mem_append.mp hp with hp | hp
      · exact .inl hp
      · exact .inr (by rw [List.mem_singleton.mp hp])
theorem first_step {f : List Bool → T3} {os : List (List Bool)} {i : Nat} {o : List Bool} (ho : os[i]? = some o) {L L' : DicL} (h : ∀ y, valD L y = ((os.take i).find? fun o => decide (f o = y)).map oS) (h' : ∀ y, valD L' y = if valD L y = none ∧ y = f o then some (oS o) else valD L y) :
    ∀ y, valD L' y = ((os.take (i + 1)).find? fun o => decide (f o = y)).map oS := fun y => by
  rw [h' y, List.take_add_one, ho, List.find?_append, h y]
  show _ = (((os.take i).find? fun o => decide (f o = y)).or ([o].find? fun o => decide (f o = y))).map oS
  cases hf : (os.take i).find? fun o => decide (f o = y) with
  | some u => simp
  | none =>
    by_cases c : y = f o
    · subst c
      simp
    · have c' : ¬ f o = y := fun z => c z.symm
      simp [c, c']
theorem strOk_oS (o : List Bool) : PyData.strOk (oS o) = true := by
  unfold PyData.strOk oS
  simp only [List.all_toArray, List.all_map, List.all_eq_true]
  intro b _
  cases b <;> decide +kernel
theorem nice_3 {x : T3} (h1 : x.1.length ≤ 1000) (h2 : x.2.1.length ≤ 1000) (h3 : x.2.2.length ≤ 1000) : Nice 2 (enc3 x) := .tup (by simp) fun d hd => by
  simp only [List.mem_cons, List.not_mem_nil, or_false] at hd
  rcases hd with rfl | rfl | rfl
  · exact nice_wT h1
  · exact nice_wT h2
  · exact nice_wT h3
section
variable {X : Cx} {o i e f : Expr} {td ty tx : TE} {pos apos cpos : Pos} (P : Program) (w : World) (K : PySem.W.Frag)
theorem pe_dnewNK (e1 : X.prog = P := by rfl) (e2 : X.w = w := by rfl) : PE X (.Dict [] [] pos) (tDNewN P w) := by
  subst e1 e2
  exact pe_dnewN
theorem pe_dgetNK (hu : X.A.units + 64 < cLine) (ho : PE X o td) (hi : PE X i ty) (hs : NoSl i) (e1 : X.prog = P := by rfl) (e2 : X.w = w := by rfl) (e3 : X.K = K := by rfl) : PE X (.Subscript o i pos) (tDGetN P w K td ty) := by
  subst e1 e2 e3
  exact pe_dgetN hu ho hi hs
theorem pe_dget1NK (hu : X.A.units + 64 < cLine) (ho : PE X o td) (he : PE X e ty) (m : M1 X o "get" apos e cpos) (e1 : X.prog = P := by rfl) (e2 : X.w = w := by rfl) (e3 : X.K = K := by rfl) : PE X (.Call (.Attribute o "get" apos) [e] [] cpos) (tDGet1N P w K td ty) := by
  subst e1 e2 e3
  exact pe_dget1N hu ho he m
theorem pe_dsetNK (hu : X.A.units + 64 < cLine) (ho : PE X o td) (he : PE X e ty) (hf : PE X f tx) (m : M2 X o "setdefault" apos e f cpos) (e1 : X.prog = P := by rfl) (e2 : X.w = w := by rfl) (e3 : X.K = K := by rfl) : PE X (.Call (.Attribute o "setdefault" apos) [e, f] [] cpos) (tDSetN P w K td ty tx) := by
  subst e1 e2 e3
  exact pe_dsetN hu ho he hf m
theorem cr_sortedDK (calm : X.calm = true) (hu : X.A.units + 64 < cLine) (e1 : X.prog = P := by rfl) (e2 : X.w = w := by rfl) (e3 : X.K = K := by rfl) : CallR X (.builtin "sorted") (rSortedD P w K) := by
  subst e1 e2 e3
  exact cr_sortedD calm hu
end
/-- what comes: sizes, worths -/
structure ResOk (n : Nat) (x : T3) : Prop where
  a : x.1.length ≤ 12
  b : x.2.1.length ≤ 12
  c : x.2.2.length = n
  a3 : ∀ y ∈ x.1, y < 3
  b3 : ∀ y ∈ x.2.1, y < 3
  c3 : ∀ y ∈ x.2.2, y < 3
theorem res_ok {ws : List Nat} {ds es : List Deed} {o : List Bool} (h3 : ∀ x ∈ ws, x < 3) (okd : ∀ d ∈ ds, d.ok ws.length) (oke : ∀ d ∈ es, d.ok ws.length) (hl : o.length ≤ 12) : ResOk ws.length (res ws ds es o) := by
  have sm := fol_small3' (c := ws.length) o (begin0 ws ds es) rfl h3 okd oke (fun _ z => nomatch z) (fun _ z => nomatch z)
  have f1 := (Fit1.begin0 (l := ds) (r := es) rfl h3 okd oke).fol o 0 _
  have ls := f1.ss
  have lo := f1.os
  exact ⟨by show (fol o (begin0 ws ds es)).ss.length ≤ 12; omega, by show (fol o (begin0 ws ds es)).os.length ≤ 12; omega, f1.len, sm.1, sm.2, f1.small⟩
theorem ResOk.nice {n : Nat} {x : T3} (h : ResOk n x) (hn : n ≤ 4) : Nice 2 (enc3 x) := nice_3 (by have := h.a; omega) (by have := h.b; omega) (by have := h.c; omega)
theorem wD_ints (a : List Nat) : wD a = (a.map fun (n : Nat) => (n : Int)).map PyData.int := by
  unfold wD
  rw [List.map_map]
  rfl
theorem lt_w (a b : List Nat) : dataLt (.tuple (wD a)) (.tuple (wD b)) = decide ((a.map fun (n : Nat) => (n : Int)) < b.map fun (n : Nat) => (n : Int)) := by
  rw [dataLt_tuple, wD_ints, wD_ints]
  exact dataLt_ints _ _
theorem lt_w_anti {a b : List Nat} (h1 : dataLt (.tuple (wD a)) (.tuple (wD b)) = false) (h2 : dataLt (.tuple (wD b)) (.tuple (wD a)) = false) : a = b := by
  rw [lt_w] at h1 h2
  have e := List.le_antisymm (List.not_lt.mp (of_decide_eq_false h2)) (List.not_lt.mp (of_decide_eq_false h1))
  have inj : ∀ {a b : List Nat}, a.map (fun (n : Nat) => (n : Int)) = b.map (fun (n : Nat) => (n : Int)) → a = b := by
    intro a
    induction a with
    | nil => intro b h; cases b with | nil => rfl | cons _ _ => cases h
    | cons x a ih =>
      intro b h
      cases b with
      | nil => cases h
      | cons y b =>
        rw [List.map_cons, List.map_cons] at h
        injection h with h1 h2
        rw [ih h2, Int.ofNat.inj h1]
  exact inj e
theorem eqv_wT (a b : List Nat) : PyData.eqv (.tuple (wD a)) (.tuple (wD b)) = decide (a = b) := by simp only [PyData.eqv, eqvA_w]
theorem alike_wT (a b : List Nat) : alike (.tuple (wD a)) (.tuple (wD b)) = true := by
  simp only [PySem.W.alike, alike_w]
theorem lt_3 (x y : T3) : dataLt (enc3 x) (enc3 y) = if x.1 = y.1 then (if x.2.1 = y.2.1 then (if x.2.2 = y.2.2 then false else dataLt (.tuple (wD x.2.2)) (.tuple (wD y.2.2))) else dataLt (.tuple (wD x.2.1)) (.tuple (wD y.2.1))) else dataLt (.tuple (wD x.1)) (.tuple (wD y.1)) := by
  unfold enc3
  rw [dataLt_tuple, dataLt_cons (alike_wT _ _), dataLt_cons (alike_wT _ _), dataLt_cons (alike_wT _ _), eqv_wT, eqv_wT, eqv_wT]
  simp only [decide_eq_true_eq]
  rfl
theorem lt3_anti {x y : T3} (h1 : dataLt (enc3 x) (enc3 y) = false) (h2 : dataLt (enc3 y) (enc3 x) = false) : x = y := by
  obtain ⟨a, b, c⟩ := x
  obtain ⟨d, e, f⟩ := y
  rw [lt_3] at h1 h2
  dsimp only at h1 h2
  by_cases z : a = d
  · subst z
    rw [if_pos rfl] at h1 h2
    by_cases z : b = e
    · subst z
      rw [if_pos rfl] at h1 h2
      by_cases z : c = f
      · rw [z]
      · rw [if_neg z] at h1
        rw [if_neg (fun y => z y.symm)] at h2
        exact absurd (lt_w_anti h1 h2) z
    · rw [if_neg z] at h1
      rw [if_neg (fun y => z y.symm)] at h2
      exact absurd (lt_w_anti h1 h2) z
  · rw [if_neg z] at h1
    rw [if_neg (fun y => z y.symm)] at h2
    exact absurd (lt_w_anti h1 h2) z
/-- both rising, the same things: the same -/
theorem srt_same {M N : List (Addr × T3)} (h1 : Srt M) (h2 : Srt N) (n1 : (M.map (·.2)).Nodup) (n2 : (N.map (·.2)).Nodup) (h : ∀ x, x ∈ M.map (·.2) ↔ x ∈ N.map (·.2)) : M.map (·.2) = N.map (·.2) := by
  have p : (M.map (·.2)).Perm (N.map (·.2)) := (List.perm_ext_iff_of_nodup n1 n2).mpr h
  have s1 : (M.map (·.2)).Pairwise fun x y => le3 x y = true := List.pairwise_map.mpr h1
  have s2 : (N.map (·.2)).Pairwise fun x y => le3 x y = true := List.pairwise_map.mpr h2
  refine List.Perm.eq_of_pairwise (fun a b _ _ q1 q2 => ?_) s1 s2 p
  unfold le3 at q1 q2
  exact lt3_anti (by simpa using q2) (by simpa using q1)
theorem dpa_M {K : PySem.W.Frag} {H : Hp} : ∀ {M : List (Addr × T3)}, (∀ p ∈ M, NT K H p.1 p.2) → DpAll K H (M.map fun p => V.ref p.1) ((M.map (·.2)).map enc3)
  | [], _ => .nil
  | p :: M, h => .cons (h p (by simp)).dp (dpa_M fun q hq => h q (by simp [hq]))
theorem mem_valD {L : DicL} {x : T3} : x ∈ (L.map (·.1)).map (·.2) ↔ valD L x ≠ none := by
  unfold valD
  rw [List.map_map, List.mem_map, Ne, Option.map_eq_none_iff, List.find?_eq_none]
  constructor
  · rintro ⟨p, hp, rfl⟩ z
    exact z p hp (by simp)
  · intro z
    apply Classical.byContradiction
    intro y
    refine z fun p hp q => y ⟨p, hp, ?_⟩
    simpa using q
/-- a pair of tuples -/
def EvP (K : PySem.W.Frag) (te : TE) (σ : L2.St) (H : Hp) (xs ys : List V) : Prop := ∀ H1, Ex H H1 → ∀ Q : VK, (∀ t a b H2, Ex H1 H2 → SqT K H2 t [.ref a, .ref b] → SqT K H2 a xs → SqT K H2 b ys → Q (.ref t) H2) → te σ H1 Q
theorem ep_tup {K : PySem.W.Frag} {σ : L2.St} {H : Hp} {ta tb : TE} {xs ys : List V} (ha : EvQ K ta σ H xs) (hb : EvQ K tb σ H ys) : EvP K (tTup (tCons ta (tCons tb tNil))) σ H xs ys := fun H1 e Q q =>
  ha H1 e _ fun a H2 f hxa => hb H2 (e.trans f) _ fun b H3 g hxb => ⟨by show 2 ≤ sizeLine; decide, fun t nt => q t a b _ ((f.trans g).trans (Ex.new nt)) (SqT.of upd_same) (ex_t (g.trans (Ex.new nt)) hxa) (ex_t (Ex.new nt) hxb)⟩
theorem q_forXg {K : PySem.W.Frag} {σ : L2.St} {H : Hp} {te : TE} {tu tz : TS} {D : Ends} {g : TG} {R : Addr → Hp → Prop} (h : ∀ Q : VK, (∀ l H2, R l H2 → Q (.ref l) H2) → te σ H Q) (k : ∀ l H2, R l H2 → tSeq (tFor (iList K (tC (.ref l))) g tu) tz D σ H2) : tSeq (tFor (iList K te) g tu) tz D σ H := h _ fun l H2 r => k l H2 r
theorem eq_catA {K : PySem.W.Frag} {σ : L2.St} {H : Hp} {ta tb : TE} {xs ys : List V} (ha : EvQ K ta σ H xs) (hb : EvQ K tb σ H ys) (hz : xs.length + ys.length ≤ 100000) : EvQ K (tOp (rCatA K) ta tb) σ H (xs ++ ys) := fun H1 e Q q =>
  ha H1 e _ fun p H2 f hp => hb H2 (e.trans f) _ fun r H3 g hr => ⟨p, r, xs, ys, rfl, rfl, ex_t g hp, hr, Nat.le_trans hz (by decide), (fun z => by
    subst z
    exact q r H3 (f.trans g) hr), (fun _ z => by
    subst z
    rw [List.append_nil] at q
    exact q p H3 (f.trans g) (ex_t g hp)), fun _ _ l hl => q l _ ((f.trans g).trans (Ex.new hl)) (SqT.of upd_same)⟩
theorem el_minus {K : PySem.W.Frag} {σ : L2.St} {H : Hp} {tl te : TE} {a : Addr} {j : Nat} {vs : List Nat} {B : List Nat} (h : Ev tl σ H (.ref a)) (hx : SqT K H a (B.map wV)) (hz : B.length ≤ 1000) (hw : ∀ x, wipe ((wipe σ vs).set j (some x)) vs = wipe σ vs) (h3 : ∀ n ∈ B, n < 3)
    (he : ∀ (n : Nat) H1, n < 3 → Ex H H1 → Ev te ((wipe σ vs).set j (some (.int (n : Int)))) H1 (.int (2 - (n : Int)))) : EvL (tLc (iTup K tl) (gName j) tYes te vs) σ H ((B.map (2 - ·)).map wV) := by
  have q := el_lcT (K := K) (j := j) (vs := vs) (t := tYes) (te := te) (fun _ => true) (fun i => wV (2 - B.getD i 0)) h hx (by rw [List.length_map]; omega) hw (fun i y H1 e hx => fun H2 e2 Q q => q H2 (Ex.refl _)) (fun i y H1 e hx _ => by
    rw [List.getElem?_map] at hx
    cases hn : B[i]? with
    | none => rw [hn] at hx; cases hx
    | some n =>
      rw [hn] at hx
      cases hx
      have hn3 := h3 n (List.mem_of_getElem? hn)
      have z := he n H1 hn3 e
      rw [List.getD_eq_getElem?_getD, hn]
      have e2 : (2 : Int) - (n : Int) = ((2 - n : Nat) : Int) := by omega
      rw [e2] at z
      exact z)
  rw [given_all, List.length_map] at q
  have e2 : (List.range B.length).map (fun i => wV (2 - B.getD i 0)) = (B.map (2 - ·)).map wV := by
    apply List.ext_getElem
    · simp
    · intro k h1 h2
      have hk : k < B.length := by simpa using h1
      simp [List.getD_eq_getElem?_getD, List.getElem?_eq_getElem hk]
  rw [e2] at q
  exact q
/-- a pair at t -/
def PrT (K : PySem.W.Frag) (H : Hp) (t : Addr) (A B : List Nat) : Prop := ∃ a b : Addr, SqT K H t [.ref a, .ref b] ∧ SqT K H a (A.map wV) ∧ SqT K H b (B.map wV)
theorem PrT.mono {K : PySem.W.Frag} {H H' : Hp} {t : Addr} {A B : List Nat} (e : Ex H H') (h : PrT K H t A B) : PrT K H' t A B := by
  obtain ⟨a, b, h1, h2, h3⟩ := h
  exact ⟨a, b, ex_t e h1, ex_t e h2, ex_t e h3⟩
theorem PrT.bt {K : PySem.W.Frag} {H H' : Hp} {h l t : Addr} {A B : List Nat} (D : Draw H h l) (e : Bt [h, l] H H') (q : PrT K H t A B) : PrT K H' t A B := by
  obtain ⟨a, b, h1, h2, h3⟩ := q
  exact ⟨a, b, D.t e h1, D.t e h2, D.t e h3⟩
theorem q_asg3 {K : PySem.W.Frag} {σ : L2.St} {H : Hp} {e1 e2 e3 : TE} {tz : TS} {D : Ends} {i : Nat} {A1 B1 A2 B2 A3 B3 : List Nat} (h1 : EvP K e1 σ H (A1.map wV) (B1.map wV)) (h2 : EvP K e2 σ H (A2.map wV) (B2.map wV)) (h3 : EvP K e3 σ H (A3.map wV) (B3.map wV))
    (k : ∀ lo t1 t2 t3 H1, H lo = none → Ex H H1 → H1 lo = some (.lst [.ref t1, .ref t2, .ref t3]) → PrT K H1 t1 A1 B1 → PrT K H1 t2 A2 B2 → PrT K H1 t3 A3 B3 → tz D (σ.set i (some (.ref lo))) H1) : tSeq (tAsg (tLst (tCons e1 (tCons e2 (tCons e3 tNil)))) (gName i)) tz D σ H :=
  h1 H (Ex.refl H) _ fun t1 a1 b1 H2 f2 p1 q1 r1 => h2 H2 f2 _ fun t2 a2 b2 H3 f3 p2 q2 r2 => h3 H3 (f2.trans f3) _ fun t3 a3 b3 H4 f4 p3 q3 r3 => ⟨by show 3 ≤ sizeLine; decide, fun lo nlo => by
    have x := Ex.new (H := H4) (o := .lst [.ref t1, .ref t2, .ref t3]) nlo
    exact k lo t1 t2 t3 _ (fresh_back ((f2.trans f3).trans f4) nlo) (((f2.trans f3).trans f4).trans x) upd_same (PrT.mono ((f3.trans f4).trans x) ⟨a1, b1, p1, q1, r1⟩) (PrT.mono (f4.trans x) ⟨a2, b2, p2, q2, r2⟩) (PrT.mono x ⟨a3, b3, p3, q3, r3⟩)⟩
end Db

namespace Db
open PySem L2 Evl
def top (i : Nat) : Stmt := PySem.Challenge.pw_doorbeat_k08_whole_all_that_may_come.main.body.getD i (.Pass ⟨0, 0, 0, 0⟩)
abbrev s_is_whole : Stmt := top 11
theorem sc_is_whole : FnScope ["value"] ["value"] (defScope s_is_whole) := ⟨rfl, rfl, rfl, by decide +kernel, rfl, by decide +kernel, by decide +kernel⟩
abbrev s_is_cell : Stmt := top 12
theorem sc_is_cell : FnScope ["value", "cells"] ["value", "cells"] (defScope s_is_cell) := ⟨rfl, rfl, rfl, by decide +kernel, rfl, by decide +kernel, by decide +kernel⟩
abbrev s_is_worth : Stmt := top 13
theorem sc_is_worth : FnScope ["value"] ["value"] (defScope s_is_worth) := ⟨rfl, rfl, rfl, by decide +kernel, rfl, by decide +kernel, by decide +kernel⟩
abbrev s_is_deed : Stmt := top 14
theorem sc_is_deed : FnScope ["deed", "cells"] ["deed", "cells"] (defScope s_is_deed) := ⟨rfl, rfl, rfl, by decide +kernel, rfl, by decide +kernel, by decide +kernel⟩
abbrev s_check_cells : Stmt := top 15
theorem sc_check_cells : FnScope ["cells"] ["cells"] (defScope s_check_cells) := ⟨rfl, rfl, rfl, by decide +kernel, rfl, by decide +kernel, by decide +kernel⟩
abbrev s_check_memory : Stmt := top 16
theorem sc_check_memory : FnScope ["memory", "worth"] ["memory"] (defScope s_check_memory) := ⟨rfl, rfl, rfl, by decide +kernel, rfl, by decide +kernel, by decide +kernel⟩
abbrev s_check_program : Stmt := top 17
theorem sc_check_program : FnScope ["door", "program", "cells", "most", "place", "deed"] ["door", "program", "cells", "most"] (defScope s_check_program) := ⟨rfl, rfl, rfl, by decide +kernel, rfl, by decide +kernel, by decide +kernel⟩
abbrev s_check_programs : Stmt := top 18
theorem sc_check_programs : FnScope ["left", "right", "cells", "most"] ["left", "right", "cells", "most"] (defScope s_check_programs) := ⟨rfl, rfl, rfl, by decide +kernel, rfl, by decide +kernel, by decide +kernel⟩
abbrev s_read_cell : Stmt := top 20
theorem sc_read_cell : FnScope ["worths", "deed", "seen"] ["worths", "deed", "seen"] (defScope s_read_cell) := ⟨rfl, rfl, rfl, by decide +kernel, rfl, by decide +kernel, by decide +kernel⟩
abbrev s_write_cell : Stmt := top 21
theorem sc_write_cell : FnScope ["worths", "deed"] ["worths", "deed"] (defScope s_write_cell) := ⟨rfl, rfl, rfl, by decide +kernel, rfl, by decide +kernel, by decide +kernel⟩
abbrev s_check_order : Stmt := top 26
theorem sc_check_order : FnScope ["order", "left", "right"] ["order", "left", "right"] (defScope s_check_order) := ⟨rfl, rfl, rfl, by decide +kernel, rfl, by decide +kernel, by decide +kernel⟩
abbrev s_check_last : Stmt := top 27
theorem sc_check_last : FnScope ["last", "memory"] ["last", "memory"] (defScope s_check_last) := ⟨rfl, rfl, rfl, by decide +kernel, rfl, by decide +kernel, by decide +kernel⟩
abbrev s_check_few : Stmt := top 28
theorem sc_check_few : FnScope ["left", "right"] ["left", "right"] (defScope s_check_few) := ⟨rfl, rfl, rfl, by decide +kernel, rfl, by decide +kernel, by decide +kernel⟩
abbrev s_all_orders : Stmt := top 29
theorem sc_all_orders : FnScope ["left", "right", "many", "orders", "_", "order", "door"] ["left", "right"] (defScope s_all_orders) := ⟨rfl, rfl, rfl, by decide +kernel, rfl, by decide +kernel, by decide +kernel⟩
abbrev s_do_deed : Stmt := top 30
theorem sc_do_deed : FnScope ["worths", "deed", "seen"] ["worths", "deed", "seen"] (defScope s_do_deed) := ⟨rfl, rfl, rfl, by decide +kernel, rfl, by decide +kernel, by decide +kernel⟩
abbrev s_follow : Stmt := top 31
theorem sc_follow : FnScope ["memory", "left", "right", "order", "worths", "seen", "others", "place", "done", "door"] ["memory", "left", "right", "order"] (defScope s_follow) := ⟨rfl, rfl, rfl, by decide +kernel, rfl, by decide +kernel, by decide +kernel⟩
abbrev s_ordered : Stmt := top 32
theorem sc_ordered : FnScope ["memory", "left", "right", "order"] ["memory", "left", "right", "order"] (defScope s_ordered) := ⟨rfl, rfl, rfl, by decide +kernel, rfl, by decide +kernel, by decide +kernel⟩
abbrev s_explained : Stmt := top 33
theorem sc_explained : FnScope ["memory", "left", "right", "seen", "others", "last", "wanted", "order", "worth"] ["memory", "left", "right", "seen", "others", "last"] (defScope s_explained) := ⟨rfl, rfl, rfl, by decide +kernel, rfl, by decide +kernel, by decide +kernel⟩
abbrev s_outcomes : Stmt := top 34
theorem sc_outcomes : FnScope ["memory", "left", "right", "order"] ["memory", "left", "right"] (defScope s_outcomes) := ⟨rfl, rfl, rfl, by decide +kernel, rfl, by decide +kernel, by decide +kernel⟩
abbrev s_law_mix : Stmt := top 36
theorem sc_law_mix : FnScope ["_law_script", "_law_seed", "_law_mixed", "_law_cell"] ["_law_script", "_law_seed"] (defScope s_law_mix) := ⟨rfl, rfl, rfl, by decide +kernel, rfl, by decide +kernel, by decide +kernel⟩
abbrev s_law_next : Stmt := top 37
theorem sc_law_next : FnScope ["_law_h", "_law_many", "_law_at", "_law_cell"] ["_law_h", "_law_many"] (defScope s_law_next) := ⟨rfl, rfl, rfl, by decide +kernel, rfl, by decide +kernel, by decide +kernel⟩
abbrev s_law_alike : Stmt := top 38
theorem sc_law_alike : FnScope ["_law_found", "_law_due", "_law_k"] ["_law_found", "_law_due"] (defScope s_law_alike) := ⟨rfl, rfl, rfl, by decide +kernel, rfl, by decide +kernel, by decide +kernel⟩
abbrev s_law_deed : Stmt := top 39
theorem sc_law_deed : FnScope ["_law_h", "_law_cells", "_law_cell"] ["_law_h", "_law_cells"] (defScope s_law_deed) := ⟨rfl, rfl, rfl, by decide +kernel, rfl, by decide +kernel, by decide +kernel⟩
abbrev s_law_program : Stmt := top 40
theorem sc_law_program : FnScope ["_law_h", "_law_cells", "_law_most", "_law_k"] ["_law_h", "_law_cells", "_law_most"] (defScope s_law_program) := ⟨rfl, rfl, rfl, by decide +kernel, rfl, by decide +kernel, by decide +kernel⟩
abbrev s_law_memory : Stmt := top 41
theorem sc_law_memory : FnScope ["_law_h", "_law_cells", "_law_k"] ["_law_h", "_law_cells"] (defScope s_law_memory) := ⟨rfl, rfl, rfl, by decide +kernel, rfl, by decide +kernel, by decide +kernel⟩
abbrev s_law_order : Stmt := top 42
theorem sc_law_order : FnScope ["_law_memory_here", "_law_left", "_law_right", "_law_order_here", "_law_seen", "_law_k", "_law_door", "_law_deed_here"] ["_law_memory_here", "_law_left", "_law_right", "_law_order_here"] (defScope s_law_order) := ⟨rfl, rfl, rfl, by decide +kernel, rfl, by decide +kernel, by decide +kernel⟩
abbrev s_law_orders : Stmt := top 43
theorem sc_law_orders : FnScope ["_law_one", "_law_other", "_law_rest"] ["_law_one", "_law_other"] (defScope s_law_orders) := ⟨rfl, rfl, rfl, by decide +kernel, rfl, by decide +kernel, by decide +kernel⟩
abbrev s_law : Stmt := top 44
theorem sc_law : FnScope ["_law_script", "_law_h", "_law_cells", "_law_memory_here", "_law_most", "_law_left", "_law_right", "_law_known", "_law_order_here", "_law_told", "_law_again", "_law_found", "_law_seen", "_law_others", "_law_last", "_law_handed", "_law_odd", "_law_worth", "_law_cell"] ["_law_script"] (defScope s_law) := ⟨rfl, rfl, rfl, by decide +kernel, rfl, by decide +kernel, by decide +kernel⟩
local macro_rules | `(tactic| walk_at "sq") => `(tactic| first | assumption | exact SqL.of (by assumption) | exact SqT.of (by assumption))
local macro_rules | `(tactic| walk_at "at") => `(tactic| first | assumption | exact rfl | exact atI_nat (by assumption))
local macro_rules | `(tactic| walk_at "ea") => `(tactic| first
  | (with_reducible exact ea_nil)
  | ((with_reducible apply ea_cons); (· walk_at "ev"); (· walk_at "ea"))
  | assumption)
local macro_rules | `(tactic| walk_at "rc") => `(tactic| first
  | assumption
  | ((apply rc_lenL); (· walk_at "sq"))
  | ((apply rc_lenT); (· walk_at "sq"))
  | ((with_reducible apply rc_isiB); (· first | exact tys_int | exact tys_str | exact tys_bl | exact tys_non | exact tys_tup (by walk_at "sq") | exact tys_lst (by walk_at "sq") | assumption); (· decide +kernel))
  | (exact rc_max))
local macro_rules | `(tactic| walk_at "rv") => `(tactic| first
  | assumption
  | (with_reducible exact rv_I0)
  | ((with_reducible apply rv_eq); (· exact rfl))
  | ((with_reducible apply rv_ne); (· exact rfl))
  | ((with_reducible apply rv_ixT); (· walk_at "sq"); (· walk_at "at"))
  | ((with_reducible apply rv_ixL); (· walk_at "sq"); (· walk_at "at"))
  | ((with_reducible apply rv_I); (· first | assumption | decide | omega | exact Or.inr ⟨by decide, by decide⟩ | exact Or.inl ⟨by decide, by decide⟩ | exact ⟨by decide, by decide, by decide⟩ | exact ⟨by omega, by omega⟩ | exact Or.inl ⟨by omega, by omega⟩ | exact Or.inr ⟨by omega, by omega⟩)))
local macro_rules | `(tactic| walk_at "ev") => `(tactic| first
  | (with_reducible exact ev_c)
  | ((with_reducible apply ev_var); (· exact rfl))
  | assumption
  | ((with_reducible apply ev_op); (· walk_at "ev"); (· walk_at "ev"); (· walk_at "rv"))
  | ((with_reducible apply ev_cb); (· walk_at "ea"); (· walk_at "rc"))
  | ((with_reducible apply ev_call); (· walk_at "ea"); (· assumption))
  | exact ev_c)

section
variable {P : Program} {w : World} {K : PySem.W.Frag} {mg : Str → Option Value} {base : Heap}
def sp_is_whole : Sp := spF 1 fun vs _ v => ∃ i : Int, vs = [.int i] ∧ v = .bl true
theorem sp_is_whole_v {H : Hp} {i : Int} : SpV sp_is_whole [.int i] H (.bl true) := spF_v rfl fun _ _ => ⟨i, rfl, rfl⟩
theorem d_is_whole (T : Nb mg) (h : Has K mg "is_whole" s_is_whole) : Dn P w K mg base CX0 "is_whole" ["value"] 1 sp_is_whole := by
  refine dn_of h (fun f fd F => F.binds fun _ _ _ _ _ _ us hl => match us, hl with | [_], _ => rfl) fun f fd F _ => F.ok sc_is_whole (fun vs H Q E h => h.1) (fun cdv A outer s H vs Q E hr h => ?_)
  obtain ⟨_, v, ⟨i, rfl, rfl⟩, k⟩ := h
  refine ⟨_, (pss_one (ps_ret (pe_and (pe_callB (call_isiK2 K) (by rfl) T.n_isinstance PyProof.Rows.boot_isinstance (pa_cons (pv 0) (pa_cons (pe_bltn (v := .ty "int") rfl T.n_int PyProof.Rows.boot_int rfl) pa_nil))) (pe_one (pe_not (pe_callB (call_isiK2 K) (by rfl) T.n_isinstance PyProof.Rows.boot_isinstance (pa_cons (pv 0) (pa_cons (pe_bltn (v := .ty "bool") rfl T.n_bool PyProof.Rows.boot_bool rfl) pa_nil)))))))), ?_⟩
  exact s_ret (v := .bl true) (ev_is (ev_andV (a := true) (b := true) (by walk_at "ev") (fun _ => ev_is (ev_notV (a := false) (by walk_at "ev")) rfl)) rfl) fun H1 f1 => k H1 f1

def sp_is_cell : Sp := spF 2 fun vs _ v => ∃ i n : Int, vs = [.int i, .int n] ∧ v = .bl (decide (0 ≤ i ∧ i < n))
theorem sp_is_cell_v {H : Hp} {i n : Int} : SpV sp_is_cell [.int i, .int n] H (.bl (decide (0 ≤ i ∧ i < n))) := spF_v rfl fun _ _ => ⟨i, n, rfl, rfl⟩
theorem d_is_cell (D_is_whole : Dn P w K mg base CX0 "is_whole" ["value"] 1 sp_is_whole) (h : Has K mg "is_cell" s_is_cell) : Dn P w K mg base CX0 "is_cell" ["value", "cells"] 2 sp_is_cell := by
  refine dn_of h (fun f fd F => F.binds fun _ _ _ _ _ _ us hl => match us, hl with | [_, _], _ => rfl) fun f fd F _ => F.ok sc_is_cell (fun vs H Q E h => h.1) (fun cdv A outer s H vs Q E hr h => ?_)
  obtain ⟨_, v, ⟨i, n, rfl, rfl⟩, k⟩ := h
  refine ⟨_, (pss_one (ps_ret (pe_and (pe_dn D_is_whole hr (by omega) pass0 (pa_cons (pv 0) pa_nil)) (pe_one (pe_chain op_le op_lt pe_int (pv 0) (pv 1)))))), ?_⟩
  have c := @sp_is_whole_v H i
  exact s_ret (v := .bl (decide (0 ≤ i ∧ i < n))) (ev_is (ev_andV (a := true) (b := decide (0 ≤ i) && decide (i < n)) (by walk_at "ev") (fun _ => ev_chain (by walk_at "ev") (by walk_at "ev") rv_I0 (fun _ => by walk_at "ev") (fun _ => rv_I0))) (by rw [Bool.true_and, ← Bool.decide_and])) fun H1 f1 => k H1 f1

def sp_is_worth : Sp := spF 1 fun vs _ v => ∃ i : Int, vs = [.int i] ∧ v = .bl (decide (0 ≤ i ∧ i < 3))
theorem sp_is_worth_v {H : Hp} {i : Int} : SpV sp_is_worth [.int i] H (.bl (decide (0 ≤ i ∧ i < 3))) := spF_v rfl fun _ _ => ⟨i, rfl, rfl⟩
theorem d_is_worth {aREST aWORTHS : Addr} {t4 t40 : Tok} (G : TxP K mg aREST aWORTHS t4 t40) (D_is_whole : Dn P w K mg base CX0 "is_whole" ["value"] 1 sp_is_whole) (h : Has K mg "is_worth" s_is_worth) : Dn P w K mg base CX0 "is_worth" ["value"] 2 sp_is_worth := by
  refine dn_of h (fun f fd F => F.binds fun _ _ _ _ _ _ us hl => match us, hl with | [_], _ => rfl) fun f fd F _ => F.ok sc_is_worth (fun vs H Q E h => h.1) (fun cdv A outer s H vs Q E hr h => ?_)
  obtain ⟨_, v, ⟨i, rfl, rfl⟩, k⟩ := h
  refine ⟨_, (pss_one (ps_ret (pe_and (pe_dn D_is_whole hr (by omega) pass0 (pa_cons (pv 0) pa_nil)) (pe_one (pe_cmpR (op_in_seqK K) (pv 0) (pe_glob (v := .ref aWORTHS) rfl G.g_WORTHS rfl) (by rfl)))))), ?_⟩
  have c := @sp_is_whole_v H i
  exact s_ret (v := .bl (decide (0 ≤ i ∧ i < 3))) (ev_is (ev_andV (a := true) (b := inV (.int i) [.int 0, .int 1, .int 2]) (by walk_at "ev") (fun _ => ev_op (by walk_at "ev") (by walk_at "ev") (rv_isT (G.WORTHS H) rfl rfl))) (by rw [Bool.true_and, in_worths])) fun H1 f1 => k H1 f1

def sp_is_deed (K : PySem.W.Frag) : Sp := spF 2 fun vs H v => ∃ (a : V) (d : Deed) (n : Nat), vs = [a, .int n] ∧ DV K H a d ∧ d.ok n ∧ v = .bl true
theorem sp_is_deed_v {H : Hp} {a : V} {d : Deed} {n : Nat} (h : DV K H a d) (ho : d.ok n) : SpV (sp_is_deed K) [a, .int n] H (.bl true) := spF_v rfl fun _ f => ⟨a, d, n, rfl, h.mono f, ho, rfl⟩
theorem d_is_deed {aREST aWORTHS : Addr} {t4 t40 : Tok} (T : Nb mg) (G : TxP K mg aREST aWORTHS t4 t40) (D_is_cell : Dn P w K mg base CX0 "is_cell" ["value", "cells"] 2 sp_is_cell) (D_is_worth : Dn P w K mg base CX0 "is_worth" ["value"] 2 sp_is_worth)
    (h : Has K mg "is_deed" s_is_deed) : Dn P w K mg base CX0 "is_deed" ["deed", "cells"] 3 (sp_is_deed K) := by
  refine dn_of h (fun f fd F => F.binds fun _ _ _ _ _ _ us hl => match us, hl with | [_, _], _ => rfl) fun f fd F _ => F.ok sc_is_deed (fun vs H Q E h => h.1) (fun cdv A outer s H vs Q E hr h => ?_)
  obtain ⟨_, v, ⟨_, d, n, rfl, ⟨a, rfl, h1⟩, ho, rfl⟩, k⟩ := h
  refine ⟨_, (pss_cons (ps_if (PW.pt (pw_or (pt_not (pt_val (pe_callB (call_isiK2 K) (by rfl) T.n_isinstance PyProof.Rows.boot_isinstance (pa_cons (pv 0) (pa_cons (pe_bltn (v := .ty "tuple") rfl T.n_tuple PyProof.Rows.boot_tuple rfl) pa_nil))))) (pw_or1 (pt_cmpR op_eq (pe_callB (call_len_seqK K) (by rfl) T.n_len PySem.boot_len (pa_cons (pv 0) pa_nil)) pe_int (nomark _))))) (pss_one (ps_ret pe_bl)) pss_nil)
    (pss_cons (ps_if (pt_cmpR op_eq (pe_ix (ix_tupK K) (pv 0) pe_int (fun _ _ => rfl)) pe_str (nomark _)) (pss_one (ps_ret (pe_and (pe_cmpR op_eq (pe_callB (call_len_seqK K) (by rfl) T.n_len PySem.boot_len (pa_cons (pv 0) pa_nil)) pe_int (nomark _)) (pe_one (pe_dn D_is_cell hr (by omega) pass0 (pa_cons (pe_ix (ix_tupK K) (pv 0) pe_int (fun _ _ => rfl)) (pa_cons (pv 1) pa_nil))))))) pss_nil)
    (pss_cons (ps_if (pt_cmpR op_eq (pe_ix (ix_tupK K) (pv 0) pe_int (fun _ _ => rfl)) pe_str (nomark _)) (pss_one (ps_ret (pe_and (pe_cmpR op_eq (pe_callB (call_len_seqK K) (by rfl) T.n_len PySem.boot_len (pa_cons (pv 0) pa_nil)) pe_int (nomark _)) (pe_and (pe_dn D_is_cell hr (by omega) pass0 (pa_cons (pe_ix (ix_tupK K) (pv 0) pe_int (fun _ _ => rfl)) (pa_cons (pv 1) pa_nil))) (pe_one (pe_dn D_is_worth hr (by omega) pass0 (pa_cons (pe_ix (ix_tupK K) (pv 0) pe_int (fun _ _ => rfl)) pa_nil))))))) pss_nil)
    (pss_one (ps_ret (pe_cmpR (op_eqDK K rfl hr.units) (pv 0) (pe_glob (v := .ref aREST) rfl G.g_REST rfl) (nomark _))))))), ?_⟩
  have hlen : d.vals.length ≠ 0 := by cases d <;> simp [Deed.vals]
  refine q_when (b := false) (et_is (et_or (a := false) (b := decide (V.int (d.vals.length : Int) = V.int 0)) (et_not (a := true) (et_B (by walk_at "ev"))) (fun _ => et_test (ev_op (by walk_at "ev") (by walk_at "ev") (rv_eq rfl))))
    (by rw [Bool.false_or]; exact decide_eq_false fun z => hlen (by have := V.int.inj z; omega))) (fun z => nomatch z) (fun _ H1 f1 => ?_)
  have g1 := ex_t f1 h1
  refine q_when (b := decide (V.str d.tag = V.str "read")) (et_test (ev_op (ev_op (by walk_at "ev") (by walk_at "ev") (DV.tag g1)) (by walk_at "ev") (rv_eq rfl))) (fun hb H2 f2 => ?_) (fun hb H2 f2 => ?_)
  · cases d with
    | wr c w => exact absurd hb (by show ¬ decide (V.str "write" = V.str "read") = true; decide +kernel)
    | rs => exact absurd hb (by show ¬ decide (V.str "rest" = V.str "read") = true; decide +kernel)
    | rd c =>
      have g2 := ex_t f2 g1
      have hc : c < n := ho
      have q := @sp_is_cell_v H2 c n
      exact s_ret (v := .bl true) (ev_is (ev_andV (a := true) (b := decide (0 ≤ (c : Int) ∧ (c : Int) < (n : Int))) (ev_is (ev_op (ev_cb (by walk_at "ea") (rc_lenT g2)) (by walk_at "ev") (rv_eq rfl)) rfl) (fun _ => ev_call (ea_cons (ev_op (by walk_at "ev") (by walk_at "ev") (rv_ixT g2 rfl)) (ea_cons (by walk_at "ev") ea_nil)) q))
        (by rw [decide_eq_true (show 0 ≤ (c : Int) ∧ (c : Int) < (n : Int) by omega)]; rfl)) fun H3 f3 => k H3 ((f1.trans f2).trans f3)
  · have g2 := ex_t f2 g1
    refine q_when (b := decide (V.str d.tag = V.str "write")) (et_test (ev_op (ev_op (by walk_at "ev") (by walk_at "ev") (DV.tag g2)) (by walk_at "ev") (rv_eq rfl))) (fun hb2 H3 f3 => ?_) (fun hb2 H3 f3 => ?_)
    · cases d with
      | rd c => exact absurd hb (by show ¬ decide (V.str "read" = V.str "read") = false; decide +kernel)
      | rs => exact absurd hb2 (by show ¬ decide (V.str "rest" = V.str "write") = true; decide +kernel)
      | wr c w =>
        have g3 := ex_t f3 g2
        obtain ⟨hc, hw⟩ : c < n ∧ w < 3 := ho
        have q := @sp_is_cell_v H3 c n
        have q2 := @sp_is_worth_v H3 w
        exact s_ret (v := .bl true) (ev_is (ev_andV (a := true) (b := decide (0 ≤ (c : Int) ∧ (c : Int) < (n : Int)) && decide (0 ≤ (w : Int) ∧ (w : Int) < 3)) (ev_is (ev_op (ev_cb (by walk_at "ea") (rc_lenT g3)) (by walk_at "ev") (rv_eq rfl)) rfl) (fun _ => ev_andV (ev_call (ea_cons (ev_op (by walk_at "ev") (by walk_at "ev") (rv_ixT g3 rfl)) (ea_cons (by walk_at "ev") ea_nil)) q) (fun _ => ev_call (ea_cons (ev_op (by walk_at "ev") (by walk_at "ev") (rv_ixT g3 rfl)) ea_nil) q2)))
          (by rw [decide_eq_true (show 0 ≤ (c : Int) ∧ (c : Int) < (n : Int) by omega), decide_eq_true (show 0 ≤ (w : Int) ∧ (w : Int) < 3 by omega)]; rfl)) fun H4 f4 => k H4 (((f1.trans f2).trans f3).trans f4)
    · cases d with
      | rd c => exact absurd hb (by show ¬ decide (V.str "read" = V.str "read") = false; decide +kernel)
      | wr c w => exact absurd hb2 (by show ¬ decide (V.str "write" = V.str "write") = false; decide +kernel)
      | rs =>
        have g3 := ex_t f3 g2
        exact s_ret (v := .bl true) (ev_is (ev_op (by walk_at "ev") (by walk_at "ev") (rv_eqD (n := 1) (m := 1) (DV.dp ⟨a, rfl, g3⟩) (DV.dp (d := .rs) ⟨_, rfl, G.REST _⟩) (Deed.sh _) (Deed.sh _) (by decide) (by decide))) (by rw [Deed.eqv_rs]; rfl)) fun H4 f4 => k H4 (((f1.trans f2).trans f3).trans f4)

def sp_check_cells : Sp := spF 1 fun vs _ v => ∃ n : Int, vs = [.int n] ∧ 1 ≤ n ∧ n ≤ 4 ∧ v = .non
theorem sp_check_cells_v {H : Hp} {n : Int} (h1 : 1 ≤ n) (h4 : n ≤ 4) : SpV sp_check_cells [.int n] H .non := spF_v rfl fun _ _ => ⟨n, rfl, h1, h4, rfl⟩
theorem d_check_cells {aREST aWORTHS : Addr} {t4 t40 : Tok} (G : TxP K mg aREST aWORTHS t4 t40) (D_is_whole : Dn P w K mg base CX0 "is_whole" ["value"] 1 sp_is_whole) (h : Has K mg "check_cells" s_check_cells) : Dn P w K mg base CX0 "check_cells" ["cells"] 2 sp_check_cells := by
  refine dn_of h (fun f fd F => F.binds fun _ _ _ _ _ _ us hl => match us, hl with | [_], _ => rfl) fun f fd F _ => F.ok sc_check_cells (fun vs H Q E h => h.1) (fun cdv A outer s H vs Q E hr h => ?_)
  obtain ⟨_, v, ⟨n, rfl, h1, h4, rfl⟩, k⟩ := h
  refine ⟨_, (pss_one (ps_if (PW.pt (pw_or (pt_not (pt_val (pe_dn D_is_whole hr (by omega) pass0 (pa_cons (pv 0) pa_nil)))) (pw_or1 (pt_not (pt_chain op_le op_le pe_int (pv 0) (pe_glob (v := .int 4) rfl G.g_MOST_CELLS ⟨_, rfl⟩)))))) pss_never pss_nil)), ?_⟩
  have c := @sp_is_whole_v H n
  refine s_if (b := false) (et_is (et_or (a := false) (b := false) (et_not (a := true) (et_B (by walk_at "ev"))) (fun _ => et_is (et_not (et_test (ev_chain (a := decide (1 ≤ n)) (b := decide (n ≤ 4)) (by walk_at "ev") (by walk_at "ev") rv_I0 (fun _ => by walk_at "ev") (fun _ => rv_I0)))) (by rw [decide_eq_true h1, decide_eq_true h4]; rfl))) rfl) (fun z => nomatch z) (fun _ H1 f1 => k H1 f1)

def sp_check_memory (K : PySem.W.Frag) : Sp := spF 1 fun vs H v => ∃ (p : Addr) (ws : List Nat), vs = [.ref p] ∧ SqT K H p (ws.map wV) ∧ 1 ≤ ws.length ∧ ws.length ≤ 4 ∧ (∀ x ∈ ws, x < 3) ∧ v = .non
theorem sp_check_memory_v {H : Hp} {p : Addr} {ws : List Nat} (h : SqT K H p (ws.map wV)) (h1 : 1 ≤ ws.length) (h4 : ws.length ≤ 4) (h3 : ∀ x ∈ ws, x < 3) : SpV (sp_check_memory K) [.ref p] H .non := spF_v rfl fun _ f => ⟨p, ws, rfl, ex_t f h, h1, h4, h3, rfl⟩
theorem d_check_memory (T : Nb mg) (D_check_cells : Dn P w K mg base CX0 "check_cells" ["cells"] 2 sp_check_cells) (D_is_worth : Dn P w K mg base CX0 "is_worth" ["value"] 2 sp_is_worth) (h : Has K mg "check_memory" s_check_memory) :
    Dn P w K mg base CX0 "check_memory" ["memory"] 3 (sp_check_memory K) := by
  refine dn_of h (fun f fd F => F.binds fun _ _ _ _ _ _ us hl => match us, hl with | [_], _ => rfl) fun f fd F _ => F.ok sc_check_memory (fun vs H Q E h => h.1) (fun cdv A outer s H vs Q E hr h => ?_)
  obtain ⟨_, v, ⟨p, ws, rfl, h0, h1, h4, h3, rfl⟩, k⟩ := h
  refine ⟨_, (pss_cons (ps_if (pt_not (pt_val (pe_callB (call_isiK2 K) (by rfl) T.n_isinstance PyProof.Rows.boot_isinstance (pa_cons (pv 0) (pa_cons (pe_bltn (v := .ty "tuple") rfl T.n_tuple PyProof.Rows.boot_tuple rfl) pa_nil))))) pss_never pss_nil)
    (pss_cons (ps_expr (pe_dn D_check_cells hr (by omega) pass0 (pa_cons (pe_callB (call_len_seqK K) (by rfl) T.n_len PySem.boot_len (pa_cons (pv 0) pa_nil)) pa_nil)))
    (pss_one (ps_for PassesOwn.never rfl (pi_tup (pv 0)) (pg_name (i := 1) sc_check_memory.nd rfl (Or.inl rfl))
      (pss_one (ps_if (pt_not (pt_val (pe_dn D_is_worth hr (by omega) pass0 (pa_cons (pv 1) pa_nil)))) pss_never pss_nil)))))), ?_⟩
  refine q_when (b := false) (et_is (et_not (a := true) (et_B (by walk_at "ev"))) rfl) (fun z => nomatch z) (fun _ H1 f1 => ?_)
  have g1 := ex_t f1 h0
  have c := @sp_check_cells_v H1 ((ws.map wV).length : Int) (by rw [List.length_map]; omega) (by rw [List.length_map]; omega)
  refine q_drop (v := .non) (by walk_at "ev") fun H2 f2 => ?_
  refine s_forT (a := p) (xs := ws.map wV) (by walk_at "ev") (ex_t f2 g1) (fun _ σ' H' => ∃ v, σ' = [some (.ref p), v] ∧ Ex H H') (fun H3 f3 => ⟨none, rfl, (f1.trans f2).trans f3⟩) (fun i σ' H' _ ⟨_, _, e⟩ => ex_t e h0) ?_ ?_
  · rintro i x σ' H' hi ⟨v, rfl, e⟩
    obtain ⟨n, hn, rfl⟩ : ∃ n, ws[i]? = some n ∧ x = wV n := by
      rw [List.getElem?_map] at hi
      cases q : ws[i]? with
      | none => rw [q] at hi; cases hi
      | some n => rw [q] at hi; exact ⟨n, rfl, (Option.some.inj hi).symm⟩
    have hs := h3 n (List.mem_of_getElem? hn)
    have c := @sp_is_worth_v H' (n : Int)
    refine s_when (b := false) (et_is (et_not (et_B (ev_call (ea_cons (ev_var (v := .int (n : Int)) rfl) ea_nil) c))) (by rw [decide_eq_true (show 0 ≤ (n : Int) ∧ (n : Int) < 3 by omega)]; rfl)) (fun z => nomatch z) (fun _ H3 f3 => ⟨_, rfl, e.trans f3⟩)
  · rintro σ' H' ⟨v, rfl, e⟩
    exact k H' e

def sp_check_program (K : PySem.W.Frag) : Sp := spF 4 fun vs H v => ∃ (door : V) (p : Addr) (n m : Nat) (us : List V) (ds : List Deed), vs = [door, .ref p, .int n, .int m] ∧ SqL K H p us ∧ PV K H us ds ∧ ds.length ≤ m ∧ (∀ d ∈ ds, d.ok n) ∧ v = .non
theorem sp_check_program_v {H : Hp} {door : V} {p : Addr} {n m : Nat} {us : List V} {ds : List Deed} (h1 : SqL K H p us) (h2 : PV K H us ds) (h3 : ds.length ≤ m) (h4 : ∀ d ∈ ds, d.ok n) : SpV (sp_check_program K) [door, .ref p, .int n, .int m] H .non :=
  spF_v rfl fun _ f => ⟨door, p, n, m, us, ds, rfl, ex_l f h1, h2.mono f, h3, h4, rfl⟩
theorem d_check_program {aREST aWORTHS : Addr} {t4 t40 : Tok} (T : Nb mg) (G : TxP K mg aREST aWORTHS t4 t40) (D_is_deed : Dn P w K mg base CX0 "is_deed" ["deed", "cells"] 3 (sp_is_deed K)) (h : Has K mg "check_program" s_check_program) :
    Dn P w K mg base CX0 "check_program" ["door", "program", "cells", "most"] 4 (sp_check_program K) := by
  refine dn_of h (fun f fd F => F.binds fun _ _ _ _ _ _ us hl => match us, hl with | [_, _, _, _], _ => rfl) fun f fd F _ => F.ok sc_check_program (fun vs H Q E h => h.1) (fun cdv A outer s H vs Q E hr h => ?_)
  obtain ⟨_, v, ⟨door, p, n, m, us, ds, rfl, h1, h2, h3, h4, rfl⟩, k⟩ := h
  refine ⟨_, (pss_cons (ps_if (pt_not (pt_val (pe_callB (call_isiK2 K) (by rfl) T.n_isinstance PyProof.Rows.boot_isinstance (pa_cons (pv 1) (pa_cons (pe_bltn (v := .ty "list") rfl T.n_list PyProof.Rows.boot_list rfl) pa_nil))))) pss_never pss_nil)
    (pss_one (ps_for PassesOwn.never rfl (pi_enum (by rfl) T.n_enumerate (pa_cons (pv 1) pa_nil)) (pg_tup rfl (pgs_cons (pg_name (i := 4) sc_check_program.nd rfl (Or.inl rfl)) (pgs_cons (pg_name (i := 5) sc_check_program.nd rfl (Or.inl rfl)) pgs_nil)))
      (pss_one (ps_if (PW.pt (pw_or (pt_cmpR op_eq (pv 4) (pv 3) (nomark _)) (pw_or1 (pt_not (pt_val (pe_dn D_is_deed hr (by omega) pass0 (pa_cons (pv 5) (pa_cons (pv 2) pa_nil)))))))) pss_never pss_nil))))), ?_⟩
  refine q_when (b := false) (et_is (et_not (a := true) (et_B (by walk_at "ev"))) rfl) (fun z => nomatch z) (fun _ H1 f1 => ?_)
  have g1 := ex_l f1 h1
  refine ⟨_, rfl, p, us, rfl, g1, for_it walk_enum (fun _ σ' H' => ∃ v w, σ' = [some door, some (.ref p), some (.int n), some (.int m), v, w] ∧ Ex H H') ⟨none, none, rfl, f1⟩ (fun i σ' H' _ ⟨_, _, _, e⟩ => ex_l e h1) ?_ ?_⟩
  · rintro i x σ' H' H2 hi ⟨v, w, rfl, e⟩ ⟨q, a, b, rfl, hq, rfl, ha, hb⟩
    cases ha
    obtain ⟨d, hd, dv⟩ := h2.get hb
    have e2 := e.trans (Ex.new (o := .tup [.int (i : Int), b]) hq)
    refine ⟨q, _, rfl, SqT.of upd_same, rfl, _, _, rfl, _, _, rfl, rfl, ?_⟩
    have c := sp_is_deed_v (dv.mono e2) (h4 d (List.mem_of_getElem? hd))
    refine s_when (b := false) (et_is (et_or (a := false) (b := false) (et_is (et_test (ev_op (ev_var (v := .int (i : Int)) rfl) (ev_var (v := .int (m : Int)) rfl) (rv_eq rfl))) (decide_eq_false fun z => ?_)) (fun _ => et_is (et_not (et_B (ev_call (ea_cons (ev_var (v := b) rfl) (ea_cons (by walk_at "ev") ea_nil)) c))) rfl)) rfl) (fun z => nomatch z) (fun _ H3 f3 => ⟨_, _, rfl, e2.trans f3⟩)
    have := V.int.inj z
    have := h2.length
    omega
  · rintro σ' H' ⟨v, w, rfl, e⟩
    exact k H' e

def sp_check_programs (K : PySem.W.Frag) : Sp := spF 4 fun vs H v => ∃ (p q : Addr) (n m : Nat) (us ws : List V) (ds es : List Deed), vs = [.ref p, .ref q, .int n, .int m] ∧ SqL K H p us ∧ PV K H us ds ∧ ds.length ≤ m ∧ (∀ d ∈ ds, d.ok n) ∧
  SqL K H q ws ∧ PV K H ws es ∧ es.length ≤ m ∧ (∀ d ∈ es, d.ok n) ∧ v = .non
theorem sp_check_programs_v {H : Hp} {p q : Addr} {n m : Nat} {us ws : List V} {ds es : List Deed} (h1 : SqL K H p us) (h2 : PV K H us ds) (h3 : ds.length ≤ m) (h4 : ∀ d ∈ ds, d.ok n) (h5 : SqL K H q ws) (h6 : PV K H ws es) (h7 : es.length ≤ m) (h8 : ∀ d ∈ es, d.ok n) :
    SpV (sp_check_programs K) [.ref p, .ref q, .int n, .int m] H .non := spF_v rfl fun _ f => ⟨p, q, n, m, us, ws, ds, es, rfl, ex_l f h1, h2.mono f, h3, h4, ex_l f h5, h6.mono f, h7, h8, rfl⟩
theorem o_check_programs (D_check_program : Dn P w K mg base CX0 "check_program" ["door", "program", "cells", "most"] 4 (sp_check_program K)) {f : Addr} {fd : FuncData} (F : FunD K "check_programs" "check_programs" (defArgs s_check_programs) (defBody s_check_programs) (defScope s_check_programs) [.int 40] [] f fd) :
    FnOk P w K mg base CX0 5 f fd ["left", "right", "cells", "most"] (sp_check_programs K) := by
  refine FunD.ok0 F sc_check_programs (fun vs H Q E h => h.1) (fun cdv A outer s H vs Q E hr h => ?_)
  obtain ⟨_, v, ⟨p, q, n, m, us, ws, ds, es, rfl, h1, h2, h3, h4, h5, h6, h7, h8, rfl⟩, k⟩ := h
  refine ⟨_, (pss_cons (ps_expr (pe_dn D_check_program hr (by omega) pass0 (pa_cons pe_int (pa_cons (pv 0) (pa_cons (pv 2) (pa_cons (pv 3) pa_nil))))))
    (pss_one (ps_expr (pe_dn D_check_program hr (by omega) pass0 (pa_cons pe_int (pa_cons (pv 1) (pa_cons (pv 2) (pa_cons (pv 3) pa_nil)))))))), ?_⟩
  have c := sp_check_program_v (door := .int 0) h1 h2 h3 h4
  refine q_drop (v := .non) (by walk_at "ev") fun H1 f1 => ?_
  have c := sp_check_program_v (door := .int 1) (ex_l f1 h5) (h6.mono f1) h7 h8
  exact s_drop (v := .non) (by walk_at "ev") fun H2 f2 => k H2 (f1.trans f2)
/-- with at most forty deeds, not written -/
theorem d_check_programs (D_check_program : Dn P w K mg base CX0 "check_program" ["door", "program", "cells", "most"] 4 (sp_check_program K)) (h : HasD K mg "check_programs" s_check_programs [.int 40]) : Dq P w K mg base CX0 "check_programs" ["left", "right", "cells", "most"] [.int 40] 5 (sp_check_programs K) :=
  dq_of (dvs := [.int 40]) 3 0 h (by simp) rfl (fun T kV doc pm an cdv ct us its h1 h2 => match us, h1, its, h2 with | [_, _, _], _, [_], _ => ⟨_, rfl, rfl⟩) fun f fd F => o_check_programs D_check_program F
/-- with so many deeds, written -/
theorem d_check_programs4 (D_check_program : Dn P w K mg base CX0 "check_program" ["door", "program", "cells", "most"] 4 (sp_check_program K)) (h : HasD K mg "check_programs" s_check_programs [.int 40]) : Dq P w K mg base CX0 "check_programs" ["left", "right", "cells", "most"] [] 5 (sp_check_programs K) :=
  dq_of (dvs := [.int 40]) 4 1 h (by simp) rfl (fun T kV doc pm an cdv ct us its h1 h2 => match us, h1, its, h2 with | [_, _, _, _], _, [_], _ => ⟨_, rfl, rfl⟩) fun f fd F => o_check_programs D_check_program F

def sp_read_cell (K : PySem.W.Frag) : Sp := fun vs H Q _ => ∃ (w s : Addr) (a : V) (ws ss : List Nat) (d : Deed), vs = [.ref w, a, .ref s] ∧ H w = some (.lst (ws.map wV)) ∧ H s = some (.lst (ss.map wV)) ∧ DV K H a d ∧ d.ok ws.length ∧ ss.length ≤ 1000 ∧
  ∀ H', Bt [s] H H' → H' s = some (.lst ((ss ++ rdl ws d).map wV)) → Q .non H'
theorem d_read_cell (h : Has K mg "read_cell" s_read_cell) : Dn P w K mg base CX0 "read_cell" ["worths", "deed", "seen"] 1 (sp_read_cell K) := by
  refine dn_of h (fun f fd F => F.binds fun _ _ _ _ _ _ us hl => match us, hl with | [_, _, _], _ => rfl) fun f fd F _ => F.ok sc_read_cell (fun vs H Q E h => ?_) (fun cdv A outer s H vs Q E hr h => ?_)
  · obtain ⟨_, _, _, _, _, _, rfl, _⟩ := h
    rfl
  obtain ⟨w, s, _, ws, ss, d, rfl, hw, hs, ⟨a, rfl, h1⟩, ho, hz, k⟩ := h
  refine ⟨_, (pss_one (ps_if (pt_cmpR op_eq (pe_ix (ix_tupK K) (pv 1) pe_int (fun _ _ => rfl)) pe_str (nomark _)) (pss_one (ps_expr (pe_bm PySem.F.plainAttrs_list PySem.F.slot_list_append PySem.F.type_list_append mt_append (pv 2) (pa_cons (pe_ix (ix_listK K) (pv 0) (pe_ix (ix_tupK K) (pv 1) pe_int (fun _ _ => rfl)) (fun _ _ => rfl)) pa_nil)))) pss_nil)), ?_⟩
  refine s_when (b := decide (V.str d.tag = V.str "read")) (et_test (ev_op (ev_op (by walk_at "ev") (by walk_at "ev") (DV.tag h1)) (by walk_at "ev") (rv_eq rfl))) (fun hb H1 f1 => ?_) (fun hb H1 f1 => ?_)
  · cases d with
    | wr c x => exact absurd hb (by show ¬ decide (V.str "write" = V.str "read") = true; decide +kernel)
    | rs => exact absurd hb (by show ¬ decide (V.str "rest" = V.str "read") = true; decide +kernel)
    | rd c =>
      have g1 := ex_t f1 h1
      have gw := f1 _ _ hw
      have gs := f1 _ _ hs
      have hc : c < ws.length := ho
      have hx : (ws.map wV)[c]? = some (wV (ws.getD c 0)) := by rw [List.getElem?_map, List.getD_eq_getElem?_getD, List.getElem?_eq_getElem hc]; rfl
      refine s_app (l := s) (v := wV (ws.getD c 0)) gs (by walk_at "ev") (ev_op (by walk_at "ev") (ev_op (by walk_at "ev") (by walk_at "ev") (rv_ixT g1 rfl)) (rv_ixL (SqL.of gw) (atI_nat hx))) (by rw [List.length_map]; omega) fun H2 f2 => ?_
      refine k _ ((Bt.of_ex (f1.trans f2)).upd (.inl (by simp))) ?_
      rw [upd_same, List.map_append]
      rfl
  · refine k _ (Bt.of_ex f1) ?_
    cases d with
    | rd c => exact absurd hb (by show ¬ decide (V.str "read" = V.str "read") = false; decide +kernel)
    | wr c x => show H1 s = some (.lst ((ss ++ []).map wV)); rw [List.append_nil]; exact f1 _ _ hs
    | rs => show H1 s = some (.lst ((ss ++ []).map wV)); rw [List.append_nil]; exact f1 _ _ hs

def sp_write_cell (K : PySem.W.Frag) : Sp := fun vs H Q _ => ∃ (w : Addr) (a : V) (ws : List Nat) (d : Deed), vs = [.ref w, a] ∧ H w = some (.lst (ws.map wV)) ∧ DV K H a d ∧ d.ok ws.length ∧
  ∀ H', Bt [w] H H' → H' w = some (.lst ((wrl ws d).map wV)) → Q .non H'
theorem d_write_cell (h : Has K mg "write_cell" s_write_cell) : Dn P w K mg base CX0 "write_cell" ["worths", "deed"] 1 (sp_write_cell K) := by
  refine dn_of h (fun f fd F => F.binds fun _ _ _ _ _ _ us hl => match us, hl with | [_, _], _ => rfl) fun f fd F _ => F.ok sc_write_cell (fun vs H Q E h => ?_) (fun cdv A outer s H vs Q E hr h => ?_)
  · obtain ⟨_, _, _, _, rfl, _⟩ := h
    rfl
  obtain ⟨w, _, ws, d, rfl, hw, ⟨a, rfl, h1⟩, ho, k⟩ := h
  refine ⟨_, (pss_one (ps_if (pt_cmpR op_eq (pe_ix (ix_tupK K) (pv 1) pe_int (fun _ _ => rfl)) pe_str (nomark _)) (pss_one (ps_asg (pe_ix (ix_tupK K) (pv 1) pe_int (fun _ _ => rfl)) (pg_sub (pv 0) (pe_ix (ix_tupK K) (pv 1) pe_int (fun _ _ => rfl)) set_list))) pss_nil)), ?_⟩
  refine s_when (b := decide (V.str d.tag = V.str "write")) (et_test (ev_op (ev_op (by walk_at "ev") (by walk_at "ev") (DV.tag h1)) (by walk_at "ev") (rv_eq rfl))) (fun hb H1 f1 => ?_) (fun hb H1 f1 => ?_)
  · cases d with
    | rd c => exact absurd hb (by show ¬ decide (V.str "read" = V.str "write") = true; decide +kernel)
    | rs => exact absurd hb (by show ¬ decide (V.str "rest" = V.str "write") = true; decide +kernel)
    | wr c x =>
      have g1 := ex_t f1 h1
      have gw := f1 _ _ hw
      obtain ⟨hc, hx⟩ : c < ws.length ∧ x < 3 := ho
      refine s_setL (l := w) (v := wV x) (j := c) gw (ev_op (by walk_at "ev") (by walk_at "ev") (rv_ixT g1 rfl)) (by walk_at "ev") (ev_op (by walk_at "ev") (by walk_at "ev") (rv_ixT g1 rfl)) (by rw [List.length_map]; exact hc) fun H2 f2 => ?_
      refine k _ ((Bt.of_ex (f1.trans f2)).upd (.inl (by simp))) ?_
      rw [upd_same, wrl, List.map_set]
  · refine k _ (Bt.of_ex f1) ?_
    cases d with
    | wr c x => exact absurd hb (by show ¬ decide (V.str "write" = V.str "write") = false; decide +kernel)
    | rd c => exact f1 _ _ hw
    | rs => exact f1 _ _ hw

/-- an order of so many deeds -/
def sp_check_order (K : PySem.W.Frag) : Sp := spF 3 fun vs H v => ∃ (p q : Addr) (us xs : List V) (o : List Bool), vs = [.str (oS o), .ref p, .ref q] ∧ SqL K H p us ∧ SqL K H q xs ∧ o.count false = us.length ∧ o.count true = xs.length ∧ us.length ≤ 1000 ∧ xs.length ≤ 1000 ∧ v = .non
theorem sp_check_order_v {H : Hp} {p q : Addr} {us xs : List V} {o : List Bool} (h1 : SqL K H p us) (h2 : SqL K H q xs) (h3 : o.count false = us.length) (h4 : o.count true = xs.length) (h5 : us.length ≤ 1000) (h6 : xs.length ≤ 1000) : SpV (sp_check_order K) [.str (oS o), .ref p, .ref q] H .non :=
  spF_v rfl fun _ f => ⟨p, q, us, xs, o, rfl, ex_l f h1, ex_l f h2, h3, h4, h5, h6, rfl⟩
theorem d_check_order {t1 t2 : Tok} (T : Nb mg) (O : TxO mg t1 t2) (h : Has K mg "check_order" s_check_order) : Dn P w K mg base CX0 "check_order" ["order", "left", "right"] 1 (sp_check_order K) := by
  refine dn_of h (fun f fd F => F.binds fun _ _ _ _ _ _ us hl => match us, hl with | [_, _, _], _ => rfl) fun f fd F _ => F.ok sc_check_order (fun vs H Q E h => h.1) (fun cdv A outer s H vs Q E hr h => ?_)
  obtain ⟨_, v, ⟨p, q, us, xs, o, rfl, h1, h2, h3, h4, h5, h6, rfl⟩, k⟩ := h
  refine ⟨_, (pss_cons (ps_if (PW.pt (pw_or (pt_not (pt_val (pe_callB (call_isiK2 K) (by rfl) T.n_isinstance PyProof.Rows.boot_isinstance (pa_cons (pv 0) (pa_cons (pe_bltn (v := .ty "str") rfl T.n_str PyProof.Rows.boot_str rfl) pa_nil))))) (pw_or1 (pt_cmpR op_ne (pe_callB call_len (by rfl) T.n_len PySem.boot_len (pa_cons (pv 0) pa_nil)) (pe_op op_add (pe_callB (call_len_seqK K) (by rfl) T.n_len PySem.boot_len (pa_cons (pv 1) pa_nil)) (pe_callB (call_len_seqK K) (by rfl) T.n_len PySem.boot_len (pa_cons (pv 2) pa_nil))) (nomark _))))) pss_never pss_nil)
    (pss_one (ps_if (PW.pt (pw_or (pt_cmpR op_ne (pe_m1 PySem.F.slot_str_count PySem.F.type_str_count mt_count (pv 0) (pe_glob (v := .str "l") rfl O.g_LEFT ⟨_, rfl⟩)) (pe_callB (call_len_seqK K) (by rfl) T.n_len PySem.boot_len (pa_cons (pv 1) pa_nil)) (nomark _)) (pw_or1 (pt_cmpR op_ne (pe_m1 PySem.F.slot_str_count PySem.F.type_str_count mt_count (pv 0) (pe_glob (v := .str "r") rfl O.g_RIGHT ⟨_, rfl⟩)) (pe_callB (call_len_seqK K) (by rfl) T.n_len PySem.boot_len (pa_cons (pv 2) pa_nil)) (nomark _))))) pss_never pss_nil))), ?_⟩
  have hl : o.length = us.length + xs.length := by
    have z := cnt_both o
    omega
  refine q_when (b := false) (et_is (et_or (a := false) (b := false) (et_is (et_not (a := true) (et_B (by walk_at "ev"))) rfl) (fun _ => et_is (et_test (ev_op (x := .int o.length) (y := .int (us.length + xs.length)) (ev_cb (ea_cons (ev_var (v := .str (oS o)) rfl) ea_nil) (rc_lenO (by omega))) (ev_op (ev_cb (ea_cons (ev_var (v := .ref p) rfl) ea_nil) (rc_lenL h1)) (ev_cb (ea_cons (ev_var (v := .ref q) rfl) ea_nil) (rc_lenL h2)) rv_I0) (rv_ne rfl))) (by rw [hl]; simp))) rfl) (fun z => nomatch z) (fun _ H1 f1 => ?_)
  have g1 := ex_l f1 h1
  have g2 := ex_l f1 h2
  refine s_when (b := false) (et_is (et_or (a := false) (b := false) (et_is (et_test (ev_op (x := .int us.length) (y := .int us.length) (ev_countO (b := false) (ev_var (v := .str (oS o)) rfl) (by rw [← oS_l]; exact ev_c) h3) (ev_cb (ea_cons (ev_var (v := .ref p) rfl) ea_nil) (rc_lenL g1)) (rv_ne rfl))) (by simp))
    (fun _ => et_is (et_test (ev_op (x := .int xs.length) (y := .int xs.length) (ev_countO (b := true) (ev_var (v := .str (oS o)) rfl) (by rw [← oS_r]; exact ev_c) h4) (ev_cb (ea_cons (ev_var (v := .ref q) rfl) ea_nil) (rc_lenL g2)) (rv_ne rfl))) (by simp))) rfl) (fun z => nomatch z) (fun _ H2 f2 => k H2 (f1.trans f2))

/-- one deed by itself -/
def sp_do_deed (K : PySem.W.Frag) : Sp := fun vs H Q _ => ∃ (w s : Addr) (a : V) (ws ss : List Nat) (d : Deed), vs = [.ref w, a, .ref s] ∧ H w = some (.lst (ws.map wV)) ∧ H s = some (.lst (ss.map wV)) ∧ w ≠ s ∧ DV K H a d ∧ d.ok ws.length ∧ ss.length ≤ 1000 ∧
  ∀ H', Bt [w, s] H H' → H' w = some (.lst ((wrl ws d).map wV)) → H' s = some (.lst ((ss ++ rdl ws d).map wV)) → Q .non H'
theorem d_do_deed (D_read_cell : Dn P w K mg base CX0 "read_cell" ["worths", "deed", "seen"] 1 (sp_read_cell K)) (D_write_cell : Dn P w K mg base CX0 "write_cell" ["worths", "deed"] 1 (sp_write_cell K)) (h : Has K mg "do_deed" s_do_deed) : Dn P w K mg base CX0 "do_deed" ["worths", "deed", "seen"] 2 (sp_do_deed K) := by
  refine dn_of h (fun f fd F => F.binds fun _ _ _ _ _ _ us hl => match us, hl with | [_, _, _], _ => rfl) fun f fd F _ => F.ok sc_do_deed (fun vs H Q E h => ?_) (fun cdv A outer s H vs Q E hr h => ?_)
  · obtain ⟨_, _, _, _, _, _, rfl, _⟩ := h
    rfl
  obtain ⟨w, s, a, ws, ss, d, rfl, hw, hs, nws, h1, o1, z1, k⟩ := h
  refine ⟨_, (pss_cons (ps_expr (pe_dn D_read_cell hr (by omega) pass0 (pa_cons (pv 0) (pa_cons (pv 1) (pa_cons (pv 2) pa_nil)))))
    (pss_one (ps_expr (pe_dn D_write_cell hr (by omega) pass0 (pa_cons (pv 0) (pa_cons (pv 1) pa_nil)))))), ?_⟩
  refine ⟨_, rfl, _, rfl, _, rfl, w, s, a, ws, ss, d, rfl, hw, hs, h1, o1, z1, fun H1 b1 s1 => ?_⟩
  have w1 := b1 w _ (by simp [nws]) hw
  have e1 := dv_buts b1 (by simp [hs]) h1
  refine ⟨_, rfl, _, rfl, w, a, ws, d, rfl, w1, e1, o1, fun H2 b2 w2 => ?_⟩
  have s2 := b2 s _ (by simp [nws.symm]) s1
  exact k H2 ((b1.mono (by simp)).trans (b2.mono (by simp))) w2 s2

/-- deeds one by one, in an order -/
def sp_follow (K : PySem.W.Frag) : Sp := fun vs H Q _ => ∃ (m p q : Addr) (ws : List Nat) (us xs : List V) (ds es : List Deed) (o : List Bool), vs = [.ref m, .ref p, .ref q, .str (oS o)] ∧ SqT K H m (ws.map wV) ∧ (∀ x ∈ ws, x < 3) ∧ SqL K H p us ∧ PV K H us ds ∧ ds.length ≤ 40 ∧ (∀ d ∈ ds, d.ok ws.length) ∧
  SqL K H q xs ∧ PV K H xs es ∧ es.length ≤ 40 ∧ (∀ d ∈ es, d.ok ws.length) ∧ o.count false = ds.length ∧ o.count true = es.length ∧ ∀ (v : V) (H' : Hp), Told3 K H' v (fol o (begin0 ws ds es)) → Ex H H' → Q v H'
theorem d_follow {t1 t2 : Tok} (T : Nb mg) (O : TxO mg t1 t2) (D_do_deed : Dn P w K mg base CX0 "do_deed" ["worths", "deed", "seen"] 2 (sp_do_deed K)) (h : Has K mg "follow" s_follow) : Dn P w K mg base CX0 "follow" ["memory", "left", "right", "order"] 3 (sp_follow K) := by
  refine dn_of h (fun f fd F => F.binds fun _ _ _ _ _ _ us hl => match us, hl with | [_, _, _, _], _ => rfl) fun f fd F _ => F.ok sc_follow (fun vs H Q E h => ?_) (fun cdv A outer s H vs Q E hr h => ?_)
  · obtain ⟨_, _, _, _, _, _, _, _, _, rfl, _⟩ := h
    rfl
  obtain ⟨m, p, q, ws, us, xs, ds, es, o, rfl, hm, hw3, hp, hP, hl40, hok1, hq, hX, hr40, hok2, c1, c2, k⟩ := h
  refine ⟨_, (pss_cons (ps_set (i := 4) sc_follow.nd rfl (Or.inl rfl) (pe_callTy (call_list_ofK K) (by rfl) T.n_list PyProof.Rows.boot_list (pa_cons (pv 0) pa_nil)))
    (pss_cons (ps_set (i := 5) sc_follow.nd rfl (Or.inl rfl) (pe_lst pa_nil))
    (pss_cons (ps_set (i := 6) sc_follow.nd rfl (Or.inl rfl) (pe_lst pa_nil))
    (pss_cons (ps_set (i := 7) sc_follow.nd rfl (Or.inl rfl) pe_int)
    (pss_cons (ps_for PassesOwn.never rfl (Zen.pi_enumS (by rfl) T.n_enumerate (pa_cons (pv 3) pa_nil)) (pg_tup rfl (pgs_cons (pg_name (i := 8) sc_follow.nd rfl (Or.inl rfl)) (pgs_cons (pg_name (i := 9) sc_follow.nd rfl (Or.inl rfl)) pgs_nil)))
      (pss_one (ps_if (pt_cmpR op_eq (pv 9) (pe_glob (v := .str "l") rfl O.g_LEFT ⟨_, rfl⟩) (nomark _)) (pss_cons (ps_expr (pe_dn D_do_deed hr (by omega) pass0 (pa_cons (pv 4) (pa_cons (pe_ix (ix_listK K) (pv 1) (pv 7) (fun _ _ => rfl)) (pa_cons (pv 5) pa_nil)))))
        (pss_one (ps_aug (i := 7) sc_follow.nd rfl (Or.inl rfl) pe_int ip_add))) (pss_one (ps_expr (pe_dn D_do_deed hr (by omega) pass0 (pa_cons (pv 4) (pa_cons (pe_ix (ix_listK K) (pv 2) (pe_op op_sub (pv 8) (pv 7)) (fun _ _ => rfl)) (pa_cons (pv 6) pa_nil)))))))))
    (pss_one (ps_ret (pe_tup (pa_cons (pe_callTy call_tuple_of (by rfl) T.n_tuple PyProof.Rows.boot_tuple (pa_cons (pv 5) pa_nil)) (pa_cons (pe_callTy call_tuple_of (by rfl) T.n_tuple PyProof.Rows.boot_tuple (pa_cons (pv 6) pa_nil)) (pa_cons (pe_callTy call_tuple_of (by rfl) T.n_tuple PyProof.Rows.boot_tuple (pa_cons (pv 4) pa_nil)) pa_nil))))))))))), ?_⟩
  have hPl := hP.length
  have hXl := hX.length
  have hol : o.length = ds.length + es.length := by
    have z := cnt_both o
    omega
  refine q_asgL (xs := ws.map wV) (fun H2 f2 Q q => ⟨_, rfl, m, _, rfl, .inr (ex_t f2 hm), fun l hl => q l _ hl (Ex.new hl) upd_same⟩) fun w' H2 nw f2 hw => ?_
  refine q_asgL (xs := []) (el_lst ea_nil (by decide)) fun s' H3 ns f3 hs => ?_
  refine q_asgL (xs := []) (el_lst ea_nil (by decide)) fun o' H4 no f4 ho => ?_
  refine q_asg (v := .int 0) (by walk_at "ev") fun H5 f5 => ?_
  have f15 := ((f2.trans f3).trans f4).trans f5
  have nws : w' ≠ s' := ne_of_none hw ns
  have nwo : w' ≠ o' := ne_of_none (f3 _ _ hw) no
  have nso : s' ≠ o' := ne_of_none hs no
  have nw0 : H w' = none := nw
  have ns0 : H s' = none := fresh_back f2 ns
  have no0 : H o' = none := fresh_back (f2.trans f3) no
  have fit0 := Fit1.begin0 (c := ws.length) (l := ds) (r := es) rfl hw3 hok1 hok2
  refine ⟨_, rfl, oS o, rfl, for_it Zen.walk_enumS (fun i σ' H' => ∃ (v8 v9 : Option V), σ' = [some (.ref m), some (.ref p), some (.ref q), some (.str (oS o)), some (.ref w'), some (.ref s'), some (.ref o'), some (.int ((o.take i).count false : Nat)), v8, v9] ∧
      H' w' = some (.lst ((fol (o.take i) (begin0 ws ds es)).ws.map wV)) ∧ H' s' = some (.lst ((fol (o.take i) (begin0 ws ds es)).ss.map wV)) ∧ H' o' = some (.lst ((fol (o.take i) (begin0 ws ds es)).os.map wV)) ∧ Ex H H')
    ⟨none, none, rfl, f5 _ _ (f4 _ _ (f3 _ _ hw)), f5 _ _ (f4 _ _ hs), f5 _ _ ho, f15⟩ (fun _ _ _ _ _ => True.intro) ?_ ?_⟩
  · rintro i x σ' H' H6 hi ⟨v8, v9, rfl, gw, gs, go, ge⟩ ⟨t, a, b, rfl, nt, rfl, ha, hb⟩
    rw [oS_size] at hi
    cases ha
    obtain ⟨bb, hbb⟩ : ∃ bb, o[i]? = some bb := ⟨o[i], by simp [hi]⟩
    have eb : b = .str (oS [bb]) := by
      have z : ((oS o).cps[i]?.map fun c => V.str ⟨#[c]⟩) = some b := hb
      rw [oS_at, hbb] at z
      exact (Option.some.inj z).symm
    subst eb
    have x1 := Ex.new (o := .tup [.int (i : Nat), .str (oS [bb])]) nt
    refine ⟨t, _, rfl, SqT.of upd_same, rfl, _, _, rfl, _, _, rfl, rfl, ?_⟩
    generalize upd H' t (.tup [.int (i : Nat), .str (oS [bb])]) = H7 at x1 ⊢
    dsimp only
    have fit := Fit1.fol (o.take i) _ _ fit0
    have ll := fol_l (o.take i) (begin0 ws ds es)
    have lr := fol_r (o.take i) (begin0 ws ds es)
    have tk := fol_take hbb (begin0 ws ds es)
    have cS : (o.take (i + 1)) = o.take i ++ [bb] := by rw [List.take_add_one, hbb]; rfl
    have cl : (o.take i).length = i := by rw [List.length_take]; omega
    have cc := cnt_both (o.take i)
    have cA := cnt_both (o.take (i + 1))
    have cB : ∀ c, (o.take (i + 1)).count c ≤ o.count c := fun c => (List.take_sublist _ _).count_le _
    have z1 := fit.ss
    have z2 := fit.os
    have ge7 := ge.trans x1
    have es1 : decide (V.str (oS [bb]) = V.str "l") = decide (bb = false) := by rw [oS_l, oS_is]; cases bb <;> decide
    refine s_if (b := decide (bb = false)) (et_is (et_test (ev_op (x := .str (oS [bb])) (y := .str "l") (ev_var (i := 9) (v := .str (oS [bb])) rfl) ev_c (rv_eq rfl))) es1) (fun hb1 H8 f8 => ?_) (fun hb1 H8 f8 => ?_)
    · have ebb : bb = false := of_decide_eq_true hb1
      subst ebb
      have cF := cB false
      rw [cS, List.count_append] at cF
      have cF1 : [false].count false = 1 := rfl
      have hlt : (o.take i).count false < us.length := by omega
      obtain ⟨d, hd, dv⟩ := (hP.mono (ge7.trans f8)).get (List.getElem?_eq_getElem hlt)
      have ehd : (fol (o.take i) (begin0 ws ds es)).l.headD .rs = d := by
        rw [ll]
        show (ds.drop _).headD .rs = d
        rw [headD_drop, List.getD_eq_getElem?_getD, hd]
        rfl
      have okd := ok_headD fit.okl
      rw [← fit.len, ehd] at okd
      have f78 := x1.trans f8
      refine ⟨_, rfl, _, rfl, _, rfl, p, us, _, us[(o.take i).count false], rfl, rfl, ex_l (ge7.trans f8) hp, atI_nat (List.getElem?_eq_getElem hlt), _, rfl, w', s', us[(o.take i).count false], _, _, d, rfl, f78 _ _ gw, f78 _ _ gs, nws, dv, okd, by omega, fun H9 b9 w9 s9 => ?_⟩
      refine s_aug (a := ((o.take i).count false : Nat)) (b := 1) rfl ev_c fun H10 f10 => ?_
      have o9 := b9 o' _ (by simp [nwo.symm, nso.symm]) (f78 _ _ go)
      have eN : (((o.take i).count false : Nat) : Int) + 1 = ((o.take (i + 1)).count false : Nat) := by
        rw [cS, List.count_append, cF1]
        omega
      refine ⟨some (.int (i : Nat)), some (.str (oS [false])), by rw [← eN]; rfl, ?_, ?_, ?_, ((Bt.of_ex (ge7.trans f8)).trans b9).ex_back f10 (by simp [nw0, ns0])⟩
      · rw [tk]; unfold oneB; rw [if_neg Bool.false_ne_true, ehd]; exact f10 _ _ w9
      · rw [tk]; unfold oneB; rw [if_neg Bool.false_ne_true, ehd]; exact f10 _ _ s9
      · rw [tk]; unfold oneB; rw [if_neg Bool.false_ne_true]; exact f10 _ _ o9
    · have ebb : bb = true := by
        cases bb with
        | true => rfl
        | false => cases hb1
      subst ebb
      have cT := cB true
      rw [cS, List.count_append] at cT
      have cT1 : [true].count true = 1 := rfl
      have hlt : (o.take i).count true < xs.length := by omega
      obtain ⟨d, hd, dv⟩ := (hX.mono (ge7.trans f8)).get (List.getElem?_eq_getElem hlt)
      have ehd : (fol (o.take i) (begin0 ws ds es)).r.headD .rs = d := by
        rw [lr]
        show (es.drop _).headD .rs = d
        rw [headD_drop, List.getD_eq_getElem?_getD, hd]
        rfl
      have okd := ok_headD fit.okr
      rw [← fit.len, ehd] at okd
      have f78 := x1.trans f8
      have eI : ((i : Nat) : Int) - ((o.take i).count false : Nat) = ((o.take i).count true : Nat) := by omega
      refine ⟨_, rfl, _, rfl, _, rfl, _, rfl, _, _, rfl, rfl, q, xs, _, xs[(o.take i).count true], rfl, rfl, ex_l (ge7.trans f8) hq, by rw [eI]; exact atI_nat (List.getElem?_eq_getElem hlt), _, rfl, w', o', xs[(o.take i).count true], _, _, d, rfl, f78 _ _ gw, f78 _ _ go, nwo, dv, okd, by omega, fun H9 b9 w9 o9 => ?_⟩
      have s9 := b9 s' _ (by simp [nws.symm, nso]) (f78 _ _ gs)
      have eN : (o.take (i + 1)).count false = (o.take i).count false := by
        rw [cS, List.count_append]
        rfl
      refine ⟨some (.int (i : Nat)), some (.str (oS [true])), by rw [eN]; rfl, ?_, ?_, ?_, ((Bt.of_ex (ge7.trans f8)).trans b9).ex (by simp [nw0, no0])⟩
      · rw [tk]; unfold oneB; rw [if_pos rfl, ehd]; exact w9
      · rw [tk]; unfold oneB; rw [if_pos rfl]; exact s9
      · rw [tk]; unfold oneB; rw [if_pos rfl, ehd]; exact o9
  · rintro σ' H' ⟨v8, v9, rfl, gw, gs, go, ge⟩
    rw [oS_size, List.take_length] at gw gs go
    refine ⟨_, rfl, s', _, rfl, .inl ⟨SqL.of gs, fun a na => ?_⟩⟩
    have g1 := Ex.new (o := .tup ((fol o (begin0 ws ds es)).ss.map wV)) na
    refine ⟨_, rfl, o', _, rfl, .inl ⟨SqL.of (g1 _ _ go), fun b nb => ?_⟩⟩
    have g2 := Ex.new (o := .tup ((fol o (begin0 ws ds es)).os.map wV)) nb
    refine ⟨_, rfl, w', _, rfl, .inl ⟨SqL.of (g2 _ _ (g1 _ _ gw)), fun c nc => ?_⟩⟩
    have g3 := Ex.new (o := .tup ((fol o (begin0 ws ds es)).ws.map wV)) nc
    refine ⟨by show 3 ≤ sizeLine; decide, fun t nt => ?_⟩
    have g4 := Ex.new (o := .tup [.ref a, .ref b, .ref c]) nt
    exact k _ _ ⟨t, a, b, c, rfl, SqT.of upd_same, SqT.of (g4 _ _ (g3 _ _ (g2 _ _ upd_same))), SqT.of (g4 _ _ (g3 _ _ upd_same)), SqT.of (g4 _ _ upd_same)⟩ ((((ge.trans g1).trans g2).trans g3).trans g4)

def sp_ordered (K : PySem.W.Frag) : Sp := fun vs H Q _ => ∃ (m p q : Addr) (ws : List Nat) (us xs : List V) (ds es : List Deed) (o : List Bool), vs = [.ref m, .ref p, .ref q, .str (oS o)] ∧ SqT K H m (ws.map wV) ∧ 1 ≤ ws.length ∧ ws.length ≤ 4 ∧ (∀ x ∈ ws, x < 3) ∧ SqL K H p us ∧ PV K H us ds ∧ ds.length ≤ 40 ∧ (∀ d ∈ ds, d.ok ws.length) ∧
  SqL K H q xs ∧ PV K H xs es ∧ es.length ≤ 40 ∧ (∀ d ∈ es, d.ok ws.length) ∧ o.count false = ds.length ∧ o.count true = es.length ∧ ∀ (v : V) (H' : Hp), Told3 K H' v (fol o (begin0 ws ds es)) → Ex H H' → Q v H'
theorem d_ordered (T : Nb mg) (D_check_memory : Dn P w K mg base CX0 "check_memory" ["memory"] 3 (sp_check_memory K)) (D_check_programs : Dq P w K mg base CX0 "check_programs" ["left", "right", "cells", "most"] [.int 40] 5 (sp_check_programs K))
    (D_check_order : Dn P w K mg base CX0 "check_order" ["order", "left", "right"] 1 (sp_check_order K)) (D_follow : Dn P w K mg base CX0 "follow" ["memory", "left", "right", "order"] 3 (sp_follow K)) (h : Has K mg "ordered" s_ordered) : Dn P w K mg base CX0 "ordered" ["memory", "left", "right", "order"] 6 (sp_ordered K) := by
  refine dn_of h (fun f fd F => F.binds fun _ _ _ _ _ _ us hl => match us, hl with | [_, _, _, _], _ => rfl) fun f fd F _ => F.ok sc_ordered (fun vs H Q E h => ?_) (fun cdv A outer s H vs Q E hr h => ?_)
  · obtain ⟨_, _, _, _, _, _, _, _, _, rfl, _⟩ := h
    rfl
  obtain ⟨m, p, q, ws, us, xs, ds, es, o, rfl, hm, hw1, hw4, hw3, hp, hP, hl40, hok1, hq, hX, hr40, hok2, c1, c2, k⟩ := h
  refine ⟨_, (pss_cons (ps_expr (pe_dn D_check_memory hr (by omega) pass0 (pa_cons (pv 0) pa_nil)))
    (pss_cons (ps_expr (pe_dq D_check_programs hr (by omega) pass0 (pa_cons (pv 1) (pa_cons (pv 2) (pa_cons (pe_callB (call_len_seqK K) (by rfl) T.n_len PySem.boot_len (pa_cons (pv 0) pa_nil)) pa_nil)))))
    (pss_cons (ps_expr (pe_dn D_check_order hr (by omega) pass0 (pa_cons (pv 3) (pa_cons (pv 1) (pa_cons (pv 2) pa_nil)))))
    (pss_one (ps_ret (pe_dn D_follow hr (by omega) pass0 (pa_cons (pv 0) (pa_cons (pv 1) (pa_cons (pv 2) (pa_cons (pv 3) pa_nil)))))))))), ?_⟩
  have lu := hP.length
  have lx := hX.length
  have c := sp_check_memory_v hm hw1 hw4 hw3
  refine q_drop (v := .non) (by walk_at "ev") fun H2 f2 => ?_
  have c := sp_check_programs_v (n := ws.length) (m := 40) (ex_l f2 hp) (hP.mono f2) hl40 hok1 (ex_l f2 hq) (hX.mono f2) hr40 hok2
  refine q_drop (v := .non) (ev_call (ea_cons (by walk_at "ev") (ea_cons (by walk_at "ev") (ea_cons (ev_is (ev_cb (ea_cons (ev_var (v := .ref m) rfl) ea_nil) (rc_lenT (ex_t f2 hm))) (by rw [List.length_map])) ea_nil))) (dvs := [.int 40]) c) fun H3 f3 => ?_
  have f13 := f2.trans f3
  have c := sp_check_order_v (o := o) (ex_l f13 hp) (ex_l f13 hq) (by omega) (by omega) (by omega) (by omega)
  refine q_drop (v := .non) (by walk_at "ev") fun H4 f4 => ?_
  have f14 := f13.trans f4
  exact ⟨_, rfl, _, rfl, _, rfl, _, rfl, m, p, q, ws, us, xs, ds, es, o, rfl, ex_t f14 hm, hw3, ex_l f14 hp, hP.mono f14, hl40, hok1, ex_l f14 hq, hX.mono f14, hr40, hok2, c1, c2, fun v H' t f => k v H' t (f14.trans f)⟩

def sp_check_last (K : PySem.W.Frag) : Sp := spF 2 fun vs H v => ∃ (p m : Addr) (ls ws : List Nat), vs = [.ref p, .ref m] ∧ SqT K H p (ls.map wV) ∧ SqT K H m (ws.map wV) ∧ 1 ≤ ls.length ∧ ls.length ≤ 4 ∧ (∀ x ∈ ls, x < 3) ∧ ls.length = ws.length ∧ v = .non
theorem sp_check_last_v {H : Hp} {p m : Addr} {ls ws : List Nat} (h1 : SqT K H p (ls.map wV)) (h2 : SqT K H m (ws.map wV)) (h3 : 1 ≤ ls.length) (h4 : ls.length ≤ 4) (h5 : ∀ x ∈ ls, x < 3) (h6 : ls.length = ws.length) : SpV (sp_check_last K) [.ref p, .ref m] H .non := spF_v rfl fun _ f => ⟨p, m, ls, ws, rfl, ex_t f h1, ex_t f h2, h3, h4, h5, h6, rfl⟩
theorem d_check_last (T : Nb mg) (D_check_memory : Dn P w K mg base CX0 "check_memory" ["memory"] 3 (sp_check_memory K)) (h : Has K mg "check_last" s_check_last) : Dn P w K mg base CX0 "check_last" ["last", "memory"] 4 (sp_check_last K) := by
  refine dn_of h (fun f fd F => F.binds fun _ _ _ _ _ _ us hl => match us, hl with | [_, _], _ => rfl) fun f fd F _ => F.ok sc_check_last (fun vs H Q E h => h.1) (fun cdv A outer s H vs Q E hr h => ?_)
  obtain ⟨_, v, ⟨p, m, ls, ws, rfl, h1, h2, h3, h4, h5, h6, rfl⟩, k⟩ := h
  refine ⟨_, (pss_cons (ps_expr (pe_dn D_check_memory hr (by omega) pass0 (pa_cons (pv 0) pa_nil)))
    (pss_one (ps_if (pt_cmpR op_ne (pe_callB (call_len_seqK K) (by rfl) T.n_len PySem.boot_len (pa_cons (pv 0) pa_nil)) (pe_callB (call_len_seqK K) (by rfl) T.n_len PySem.boot_len (pa_cons (pv 1) pa_nil)) (nomark _)) pss_never pss_nil))), ?_⟩
  have c := sp_check_memory_v h1 h3 h4 h5
  refine q_drop (v := .non) (by walk_at "ev") fun H1 f1 => ?_
  refine s_when (b := false) (et_test (ev_is (ev_op (x := .int (ls.length : Int)) (y := .int (ws.length : Int)) (ev_is (ev_cb (ea_cons (ev_var (v := .ref p) rfl) ea_nil) (rc_lenT (ex_t f1 h1))) (by rw [List.length_map])) (ev_is (ev_cb (ea_cons (ev_var (v := .ref m) rfl) ea_nil) (rc_lenT (ex_t f1 h2))) (by rw [List.length_map])) (rv_ne rfl)) (by rw [h6]; simp))) (fun z => nomatch z) fun _ H2 f2 => k _ (f1.trans f2)
def sp_check_few (K : PySem.W.Frag) : Sp := spF 2 fun vs H v => ∃ (p q : Addr) (us xs : List V), vs = [.ref p, .ref q] ∧ SqL K H p us ∧ SqL K H q xs ∧ us.length ≤ 6 ∧ xs.length ≤ 6 ∧ v = .non
theorem sp_check_few_v {H : Hp} {p q : Addr} {us xs : List V} (h1 : SqL K H p us) (h2 : SqL K H q xs) (h3 : us.length ≤ 6) (h4 : xs.length ≤ 6) : SpV (sp_check_few K) [.ref p, .ref q] H .non := spF_v rfl fun _ f => ⟨p, q, us, xs, rfl, ex_l f h1, ex_l f h2, h3, h4, rfl⟩
theorem d_check_few {t6 : Tok} (T : Nb mg) (O6 : TxO6 mg t6) (h : Has K mg "check_few" s_check_few) : Dn P w K mg base CX0 "check_few" ["left", "right"] 1 (sp_check_few K) := by
  refine dn_of h (fun f fd F => F.binds fun _ _ _ _ _ _ us hl => match us, hl with | [_, _], _ => rfl) fun f fd F _ => F.ok sc_check_few (fun vs H Q E h => h.1) (fun cdv A outer s H vs Q E hr h => ?_)
  obtain ⟨_, v, ⟨p, q, us, xs, rfl, h1, h2, h3, h4, rfl⟩, k⟩ := h
  refine ⟨_, (pss_one (ps_if (PW.pt (pw_or (pt_cmpR op_gt (pe_callB (call_len_seqK K) (by rfl) T.n_len PySem.boot_len (pa_cons (pv 0) pa_nil)) (pe_glob (v := .int 6) rfl O6.g_MOST_TO_ORDER ⟨_, rfl⟩) (nomark _)) (pw_or1 (pt_cmpR op_gt (pe_callB (call_len_seqK K) (by rfl) T.n_len PySem.boot_len (pa_cons (pv 1) pa_nil)) (pe_glob (v := .int 6) rfl O6.g_MOST_TO_ORDER ⟨_, rfl⟩) (nomark _))))) pss_never pss_nil)), ?_⟩
  refine s_when (b := false) (et_is (et_or (a := false) (b := false) (et_test (ev_is (ev_op (x := .int (us.length : Int)) (y := .int 6) (ev_cb (ea_cons (ev_var (v := .ref p) rfl) ea_nil) (rc_lenL h1)) ev_c rv_I0) (by congr 1; exact decide_eq_false (by omega)))) (fun _ => et_test (ev_is (ev_op (x := .int (xs.length : Int)) (y := .int 6) (ev_cb (ea_cons (ev_var (v := .ref q) rfl) ea_nil) (rc_lenL h2)) ev_c rv_I0) (by congr 1; exact decide_eq_false (by omega))))) rfl) (fun z => nomatch z) fun _ H2 f2 => k _ f2
/-- all orders of two programs' deeds -/
def sp_all_orders (K : PySem.W.Frag) : Sp := fun vs H Q _ => ∃ (p q : Addr) (us xs : List V), vs = [.ref p, .ref q] ∧ SqL K H p us ∧ SqL K H q xs ∧ us.length ≤ 6 ∧ xs.length ≤ 6 ∧ ∀ (l : Addr) (H' : Hp), H l = none → Ex H H' → H' l = some (.lst ((ordersD us.length xs.length).map fun o => V.str (oS o))) → Q (.ref l) H'
theorem d_all_orders {t1 t2 : Tok} (T : Nb mg) (O : TxO mg t1 t2) (h : Has K mg "all_orders" s_all_orders) : Dn P w K mg base CX0 "all_orders" ["left", "right"] 1 (sp_all_orders K) := by
  refine dn_of h (fun f fd F => F.binds fun _ _ _ _ _ _ us hl => match us, hl with | [_, _], _ => rfl) fun f fd F _ => F.ok sc_all_orders (fun vs H Q E h => ?_) (fun cdv A outer s H vs Q E hr h => ?_)
  · obtain ⟨_, _, _, _, rfl, _⟩ := h
    rfl
  obtain ⟨p, q, us, xs, rfl, hp, hq, hl1, hl2, k⟩ := h
  refine ⟨_, (pss_cons (ps_set (i := 2) sc_all_orders.nd rfl (Or.inr rfl) (pe_disp (pps_cons (pe_glob (v := .str "l") rfl O.g_LEFT ⟨_, rfl⟩) (pe_callB (call_len_seqK K) (by rfl) T.n_len PySem.boot_len (pa_cons (pv 0) pa_nil)) (pps_cons (pe_glob (v := .str "r") rfl O.g_RIGHT ⟨_, rfl⟩) (pe_callB (call_len_seqK K) (by rfl) T.n_len PySem.boot_len (pa_cons (pv 1) pa_nil)) pps_nil)) (by rfl) (by rfl) (fun z => by cases z) (by decide)))
    (pss_cons (ps_set (i := 3) sc_all_orders.nd rfl (Or.inl rfl) (pe_lst (pa_cons pe_str pa_nil)))
    (pss_cons (ps_for PassesOwn.never rfl (pi_range1 rfl T.n_range (pa_cons (pe_op op_add (pe_callB (call_len_seqK K) (by rfl) T.n_len PySem.boot_len (pa_cons (pv 0) pa_nil)) (pe_callB (call_len_seqK K) (by rfl) T.n_len PySem.boot_len (pa_cons (pv 1) pa_nil))) pa_nil)) (pg_name (i := 4) sc_all_orders.nd rfl (Or.inl rfl))
      (pss_one (ps_setLc2 (i := 3) (own := [("order", 5), ("door", 6)]) (vs1 := [6]) rfl sc_all_orders.nd rfl rfl (sw_true rfl rfl rfl (by decide +kernel)) (pi_list (pv 3)) (blkOk_by (own := [("order", 5), ("door", 6)]) (N := ["left", "right", "many", "orders", "_", "order", "door"]) (sc := defScope s_all_orders) (by decide +kernel)) (by decide) (fun _ _ _ _ _ => (pg_name (i := 5) sc_all_orders.nd rfl (Or.inl rfl))) (fun _ _ _ _ _ => pts_nil) (fun _ _ _ _ _ => (pi_tupK K (pe_tup (pa_cons (pe_glob (v := .str "l") rfl O.g_LEFT ⟨_, rfl⟩) (pa_cons (pe_glob (v := .str "r") rfl O.g_RIGHT ⟨_, rfl⟩) pa_nil))))) (fun _ _ _ _ _ => (pg_name (i := 6) sc_all_orders.nd rfl (Or.inl rfl))) (fun _ _ _ _ _ => pts_one (pt_cmpR op_lt (pe_m1 PySem.F.slot_str_count PySem.F.type_str_count mt_count (pv 5) (pv 6)) (pe_dget (hu_of hr) (pv 2) (pv 6) (fun _ _ => rfl)) (nomark _))) (fun _ _ _ _ _ => (pe_op op_add_str (pv 5) (pv 6))))))
    (pss_one (ps_ret (pv 3)))))), ?_⟩
  refine fun D nD => ⟨_, rfl, p, us, rfl, .inl (ex_l (Ex.new nD) hp), _, rfl, q, xs, rfl, .inl (ex_l (Ex.new nD) hq), upd_same, manyK us.length xs.length, rfl, by simp [manyK], ?_⟩
  refine gn ?_
  dsimp only
  have xD : Ex H (upd (upd H D (.dK [])) D (.dK (mergeK [] (manyK us.length xs.length)))) := (Ex.new nD).mut nD
  have hD := upd_same (H := upd H D (.dK [])) (a := D) (o := .dK (mergeK [] (manyK us.length xs.length)))
  generalize upd (upd H D (.dK [])) D (.dK (mergeK [] (manyK us.length xs.length))) = H1 at xD hD ⊢
  refine q_asgL (xs := [.str ""]) (el_lst (ea_cons ev_c ea_nil) (by decide)) fun l0 H2 nl0 f2 hl0 => ?_
  have f02 := xD.trans f2
  have hD2 := f2 _ _ hD
  have hl0' : H2 l0 = some (.lst ((ordersTo us.length xs.length 0).map fun o => V.str (oS o))) := by rw [hl0, oS_nil]; rfl
  have nl00 : H l0 = none := fresh_back xD nl0
  have eL : ("l" : Str) = oS [false] := oS_l
  have eR : ("r" : Str) = oS [true] := oS_r
  refine q_forR1 (n := ((us.length + xs.length : Nat) : Int)) (ea_cons (ev_is (ev_op (x := .int (us.length : Int)) (y := .int (xs.length : Int)) (ev_cb (ea_cons (ev_var (v := .ref p) rfl) ea_nil) (rc_lenL (ex_l f02 hp))) (ev_cb (ea_cons (ev_var (v := .ref q) rfl) ea_nil) (rc_lenL (ex_l f02 hq))) rv_I0) (by simp)) ea_nil) (by omega)
    (fun i σ' H' => ∃ (v4 v5 v6 : Option V) (l : Addr), σ' = [some (.ref p), some (.ref q), some (.ref D), some (.ref l), v4, v5, v6] ∧ H l = none ∧ H' l = some (.lst ((ordersTo us.length xs.length i).map fun o => V.str (oS o))) ∧ H' D = some (.dK (mergeK [] (manyK us.length xs.length))) ∧ Ex H H')
    (fun H3 f3 => ⟨_, _, _, l0, rfl, nl00, f3 _ _ hl0', f3 _ _ hD2, f02.trans f3⟩) ?_ ?_
  · rintro i σ' H3 hi ⟨v4, v5, v6, l, rfl, nl, hl, hD3, ge⟩
    have few := ordersTo_len us.length xs.length i
    have i12 : i ≤ 12 := by omega
    have few2 : (ordersTo us.length xs.length i).length ≤ 4096 := Nat.le_trans few (Nat.pow_le_pow_right (by decide) i12 : 2 ^ i ≤ 2 ^ 12)
    have nDl : ∀ o ∈ ordersTo us.length xs.length i, o.length = i := fun o ho => (ordersTo_mem.mp ho).1
    have step : ordersTo us.length xs.length (i + 1) = (ordersTo us.length xs.length i).flatMap (ordNext us.length xs.length) := rfl
    generalize ordersTo us.length xs.length i = os at hl few few2 nDl step
    refine ⟨_, rfl, l, rfl, ⟨_, SqL.of hl⟩, fun L nL => ?_⟩
    refine it_list (xs := os.map fun o => V.str (oS o)) (fun j X => ∃ bs, X L = some (.lst (bs.map fun o => V.str (oS o))) ∧ bs = (os.take j).flatMap (ordNext us.length xs.length) ∧ Ex H3 X) ⟨[], upd_same, rfl, Ex.new nL⟩ (fun j X _ ⟨_, _, _, e⟩ => SqL.of (e _ _ hl)) ?_ ?_
    · rintro j x X hx ⟨bs, hb, rfl, eX⟩
      have hj : j < os.length := by have := (List.getElem?_eq_some_iff.mp hx).1; simpa using this
      obtain ⟨o, ho⟩ : ∃ o, os[j]? = some o := ⟨os[j], List.getElem?_eq_getElem hj⟩
      have ex : x = .str (oS o) := by
        rw [List.getElem?_map, ho] at hx
        exact (Option.some.inj hx).symm
      subst ex
      have ol : o.length = i := nDl o (List.mem_of_getElem? ho)
      have bl : ((os.take j).flatMap (ordNext us.length xs.length)).length ≤ 8192 := by
        have z := flatMap_len (f := ordNext us.length xs.length) (l := os.take j) (m := 2) fun o _ => ordNext_len _ _ o
        have y : (os.take j).length ≤ os.length := by rw [List.length_take]; omega
        omega
      generalize hbs : (os.take j).flatMap (ordNext us.length xs.length) = bs at hb bl
      refine gn ?_
      dsimp only
      refine ⟨rfl, ?_⟩
      refine ⟨by show 2 ≤ sizeLine; decide, fun tp ntp => ⟨tp, rfl, ⟨_, SqT.of upd_same⟩, ?_⟩⟩
      have xp := Ex.new (o := .tup [.str "l", .str "r"]) ntp
      have htp := upd_same (H := X) (a := tp) (o := .tup [.str "l", .str "r"])
      have hb1 := xp _ _ hb
      have eX1 := eX.trans xp
      have nLt : L ≠ tp := ne_of_none hb ntp
      generalize upd X tp (.tup [.str "l", .str "r"]) = X1 at htp hb1 eX1 ⊢
      refine it_tup (xs := [.str "l", .str "r"]) (fun k Y => Y L = some (.lst ((bs ++ (([false, true].take k).filter fun d => decide (o.count d < if d then xs.length else us.length)).map fun d => o ++ [d]).map fun o => V.str (oS o))) ∧ Y tp = some (.tup [.str "l", .str "r"]) ∧ Ex H3 Y) ⟨by rw [List.take_zero, List.filter_nil, List.map_nil, List.append_nil]; exact hb1, htp, eX1⟩ (fun k Y _ ⟨_, z, _⟩ => SqT.of z) ?_ ?_
      · rintro k x Y hx ⟨hY, htY, eY⟩
        have hk : k < 2 := (List.getElem?_eq_some_iff.mp hx).1
        obtain ⟨d, rfl, hd⟩ : ∃ d : Bool, x = .str (oS [d]) ∧ [false, true].take (k + 1) = [false, true].take k ++ [d] := by
          match k, hk with
          | 0, _ => cases hx; exact ⟨false, by rw [eL], rfl⟩
          | 1, _ => cases hx; exact ⟨true, by rw [eR], rfl⟩
        refine gn ?_
        dsimp only
        refine ⟨rfl, ?_⟩
        have hDY := eY _ _ hD3
        have ec : [false, true].take k = [false, true].take k := rfl
        generalize [false, true].take k = pre at hY hd
        have lenY : (bs ++ (pre.filter fun d => decide (o.count d < if d then xs.length else us.length)).map fun d => o ++ [d]).length ≤ 8194 := by
          have z1 : (pre.filter fun d => decide (o.count d < if d then xs.length else us.length)).length ≤ pre.length := List.length_filter_le _ _
          have z2 : pre.length + 1 ≤ 2 := by
            have z3 := congrArg List.length hd
            rw [List.length_append, List.length_take] at z3
            have z4 : pre.length + 1 = min (k + 1) 2 := z3.symm
            omega
          rw [List.length_append, List.length_map]
          omega
        have ev := et_test (ev_op (x := .int (o.count d : Int)) (y := .int ((if d then xs.length else us.length : Nat) : Int)) (ev_countO (σ := [some (.ref p), some (.ref q), some (.ref D), some (.ref l), some (.int (i : Int)), some (.str (oS o)), some (.str (oS [d]))]) (H := Y) (to := tVar 5) (te := tVar 6) (b := d) (ev_var rfl) (ev_var rfl) rfl)
          (ev_dget (td := tVar 2) (ty := tVar 6) (k := .inr (oS [d])) (ev_var rfl) (ev_var rfl) hDY (many_at us.length xs.length d)) (rv_I0 (g := fun i j => .bl (decide (i < j)))))
        refine ev Y (Ex.refl _) _ fun Y1 f1 => ?_
        have hY1 := f1 _ _ hY
        have e1 : decide ((o.count d : Int) < ((if d then xs.length else us.length : Nat) : Int)) = decide (o.count d < if d then xs.length else us.length) := decide_eq_decide.mpr (by omega)
        rw [e1]
        by_cases c : o.count d < if d then xs.length else us.length
        · rw [decide_eq_true c, if_pos rfl]
          refine ⟨_, rfl, _, rfl, _, _, rfl, rfl, ?_, _, hY1, ?_, ?_, ?_, (eY.trans f1).mut nL⟩
          · rw [oS_len, oS_len, ol]
            exact Nat.le_trans (by simp; omega : _ ≤ 100) (by decide)
          · rw [List.length_map]
            exact Nat.lt_of_le_of_lt lenY (by decide)
          · have e2 : ([d].filter fun d => decide (o.count d < if d then xs.length else us.length)) = [d] := by
              rw [List.filter_cons, if_pos (decide_eq_true c)]
              rfl
            rw [upd_same, hd, List.filter_append, e2, oS_app]
            congr 2
            simp only [List.map_append, List.map_cons, List.map_nil, List.append_assoc]
          · rw [upd_ne (ne_of (f1 _ _ htY) hY1 (by intro z; cases z))]
            exact f1 _ _ htY
        · rw [decide_eq_false c, if_neg Bool.false_ne_true]
          refine ⟨?_, f1 _ _ htY, eY.trans f1⟩
          have e2 : ([d].filter fun d => decide (o.count d < if d then xs.length else us.length)) = [] := by
            rw [List.filter_cons, if_neg (by rw [decide_eq_false c]; exact Bool.false_ne_true)]
            rfl
          rw [hd, List.filter_append, e2, List.append_nil]
          exact hY1
      · rintro Y ⟨hY, htY, eY⟩
        exact ⟨_, hY, by rw [ord_at ho, hbs]; rfl, eY⟩
    · rintro X ⟨bs, hb, rfl, eX⟩
      refine gn ?_
      dsimp only
      rw [List.take_of_length_le (by simp), ← step] at hb
      exact ⟨_, _, _, L, rfl, fresh_back ge nL, hb, eX _ _ hD3, ge.trans eX⟩
  · rintro σ' H3 ⟨v4, v5, v6, l, rfl, nl, hl, hD3, ge⟩
    rw [Int.toNat_natCast] at hl
    exact s_ret (v := .ref l) (ev_var rfl) fun H4 f4 => k l H4 nl (ge.trans f4) (f4 _ _ hl)

/-- what is told is all that comes -/
def Came (ws : List Nat) (ds es : List Deed) (l : List (List Bool)) (M : List (Addr × T3)) : Prop := ∀ x, x ∈ M.map (·.2) ↔ ∃ o ∈ l, res ws ds es o = x
def sp_outcomes (K : PySem.W.Frag) : Sp := fun vs H Q _ => ∃ (m p q : Addr) (ws : List Nat) (us xs : List V) (ds es : List Deed), vs = [.ref m, .ref p, .ref q] ∧ SqT K H m (ws.map wV) ∧ 1 ≤ ws.length ∧ ws.length ≤ 4 ∧ (∀ x ∈ ws, x < 3) ∧ SqL K H p us ∧ PV K H us ds ∧ ds.length ≤ 6 ∧ (∀ d ∈ ds, d.ok ws.length) ∧
  SqL K H q xs ∧ PV K H xs es ∧ es.length ≤ 6 ∧ (∀ d ∈ es, d.ok ws.length) ∧ ∀ (l : Addr) (M : List (Addr × T3)) (H' : Hp), H l = none → Ex H H' → H' l = some (.lst (M.map fun p => V.ref p.1)) → (∀ p ∈ M, NT K H' p.1 p.2) → Came ws ds es (ordersD ds.length es.length) M → Srt M → (M.map (·.2)).Nodup → M.length ≤ 924 → Q (.ref l) H'
theorem d_outcomes {t6 : Tok} (T : Nb mg) (TS : NbS mg) (D_check_memory : Dn P w K mg base CX0 "check_memory" ["memory"] 3 (sp_check_memory K)) (D_check_programs : Dq P w K mg base CX0 "check_programs" ["left", "right", "cells", "most"] [.int 40] 5 (sp_check_programs K))
    (D_check_few : Dn P w K mg base CX0 "check_few" ["left", "right"] 1 (sp_check_few K)) (D_all_orders : Dn P w K mg base CX0 "all_orders" ["left", "right"] 1 (sp_all_orders K)) (D_follow : Dn P w K mg base CX0 "follow" ["memory", "left", "right", "order"] 3 (sp_follow K))
    (h : Has K mg "outcomes" s_outcomes) : Dn P w K mg base CX0 "outcomes" ["memory", "left", "right"] 6 (sp_outcomes K) := by
  refine dn_of h (fun f fd F => F.binds fun _ _ _ _ _ _ us hl => match us, hl with | [_, _, _], _ => rfl) fun f fd F _ => F.ok sc_outcomes (fun vs H Q E h => ?_) (fun cdv A outer s H vs Q E hr h => ?_)
  · obtain ⟨_, _, _, _, _, _, _, _, rfl, _⟩ := h
    rfl
  obtain ⟨m, p, q, ws, us, xs, ds, es, rfl, hm, hw1, hw4, hw3, hp, hP, hl6, hok1, hq, hX, hr6, hok2, k⟩ := h
  refine ⟨_, (pss_cons (ps_expr (pe_dn D_check_memory hr (by omega) pass0 (pa_cons (pv 0) pa_nil)))
    (pss_cons (ps_expr (pe_dq D_check_programs hr (by omega) pass0 (pa_cons (pv 1) (pa_cons (pv 2) (pa_cons (pe_callB (call_len_seqK K) (by rfl) T.n_len PySem.boot_len (pa_cons (pv 0) pa_nil)) pa_nil)))))
    (pss_cons (ps_expr (pe_dn D_check_few hr (by omega) pass0 (pa_cons (pv 1) (pa_cons (pv 2) pa_nil))))
    (pss_one (ps_ret (pe_callB (cr_sortedN rfl hr.units) (by rfl) TS.n_sorted PyProof.Rows.boot_sorted (pa_cons (NS.pe_sg (own := [("order", 3)]) (rule_N hr.units) rfl sc_outcomes.nd (pi_list (pe_dn D_all_orders hr (by omega) pass0 (pa_cons (pv 1) (pa_cons (pv 2) pa_nil)))) (blkOk_by (own := [("order", 3)]) (N := ["memory", "left", "right", "order"]) (sc := defScope s_outcomes) (by decide +kernel)) (fun _ _ _ _ _ => (pg_name (i := 3) sc_outcomes.nd rfl (Or.inl rfl))) (fun _ _ _ _ _ => pts_nil) (fun _ _ _ _ _ => (pe_dn D_follow hr (by omega) pass0 (pa_cons (pv 0) (pa_cons (pv 1) (pa_cons (pv 2) (pa_cons (pv 3) pa_nil))))))) pa_nil))))))), ?_⟩
  have lu := hP.length
  have lx := hX.length
  have c := sp_check_memory_v hm hw1 hw4 hw3
  refine q_drop (v := .non) (by walk_at "ev") fun H2 f2 => ?_
  have c := sp_check_programs_v (n := ws.length) (m := 40) (ex_l f2 hp) (hP.mono f2) (by omega) hok1 (ex_l f2 hq) (hX.mono f2) (by omega) hok2
  refine q_drop (v := .non) (ev_call (ea_cons (by walk_at "ev") (ea_cons (by walk_at "ev") (ea_cons (ev_is (ev_cb (ea_cons (ev_var (v := .ref m) rfl) ea_nil) (rc_lenT (ex_t f2 hm))) (by rw [List.length_map])) ea_nil))) (dvs := [.int 40]) c) fun H3 f3 => ?_
  have f13 := f2.trans f3
  have c := sp_check_few_v (ex_l f13 hp) (ex_l f13 hq) (by omega) (by omega)
  refine q_drop (v := .non) (by walk_at "ev") fun H4 f4 => ?_
  have f14 := f13.trans f4
  refine ⟨_, rfl, _, rfl, p, q, us, xs, rfl, ex_l f14 hp, ex_l f14 hq, by omega, by omega, fun l H5 nl f5 hl => ⟨l, rfl, ⟨_, SqL.of hl⟩, fun D nD => ?_⟩⟩
  have f15 := f14.trans f5
  rw [lu, lx] at hl
  have few := ordersD_few ds.length es.length hl6 hr6
  have good : ∀ o ∈ ordersD ds.length es.length, o.count false = ds.length ∧ o.count true = es.length := fun o ho => ordersD_mem.mp ho
  generalize hos : ordersD ds.length es.length = os at hl few good k
  refine it_list (xs := os.map fun o => V.str (oS o)) (fun j X => ∃ L, X D = some (SetO P w D L) ∧ (∀ p ∈ L, NT K X p.1 p.2) ∧ Came ws ds es (os.take j) L ∧ L.length ≤ j ∧ Ex H5 X) ⟨[], upd_same, (fun _ z => nomatch z), (fun x => by simp), Nat.le_refl _, Ex.new nD⟩ (fun j X _ ⟨_, _, _, _, _, e⟩ => SqL.of (e _ _ hl)) ?_ ?_
  · rintro j x X hx ⟨L, hD, hL, hC, hl0, eX⟩
    have hj : j < os.length := by have := (List.getElem?_eq_some_iff.mp hx).1; simpa using this
    obtain ⟨o, ho⟩ : ∃ o, os[j]? = some o := ⟨os[j], List.getElem?_eq_getElem hj⟩
    have ex : x = .str (oS o) := by
      rw [List.getElem?_map, ho] at hx
      exact (Option.some.inj hx).symm
    subst ex
    obtain ⟨c1, c2⟩ := good o (List.mem_of_getElem? ho)
    have e0 := f15.trans eX
    refine gn ?_
    refine ⟨rfl, ?_⟩
    refine ⟨_, rfl, _, rfl, _, rfl, _, rfl, m, p, q, ws, us, xs, ds, es, o, rfl, ex_t e0 hm, hw3, ex_l e0 hp, hP.mono e0, by omega, hok1, ex_l e0 hq, hX.mono e0, by omega, hok2, c1, c2, fun v Y tv f => ?_⟩
    obtain ⟨b, rfl, nt⟩ := NT.of tv
    have hDY := f _ _ hD
    have tk : os.take (j + 1) = os.take j ++ [o] := by rw [List.take_add_one, ho]; rfl
    refine ⟨b, res ws ds es o, L, rfl, nt, hDY, fun p hp => (hL p hp).mono f, by omega, fun M h1 h2 => ?_⟩
    by_cases c : res ws ds es o ∈ L.map (·.2)
    · have e := h1 c
      subst e
      refine ⟨M, upd_same, fun p hp => ((hL p hp).mono f).set hDY, fun x => ?_, by omega, (eX.trans f).mut nD⟩
      rw [hC x, tk]
      constructor
      · rintro ⟨u, hu, e⟩
        exact ⟨u, List.mem_append_left _ hu, e⟩
      · rintro ⟨u, hu, e⟩
        rcases List.mem_append.mp hu with hu | hu
        · exact ⟨u, hu, e⟩
        · rw [List.mem_singleton.mp hu] at e
          rw [← e]
          exact (hC _).mp c
    · have pm := h2 c
      refine ⟨M, upd_same, fun p hp => ?_, fun x => ?_, by rw [pm.length_eq, List.length_cons]; omega, (eX.trans f).mut nD⟩
      · rcases List.mem_cons.mp (pm.mem_iff.mp hp) with rfl | hp
        · exact nt.set hDY
        · exact ((hL p hp).mono f).set hDY
      · rw [(pm.map (·.2)).mem_iff, List.map_cons, List.mem_cons, hC x, tk]
        constructor
        · rintro (e | ⟨u, hu, e⟩)
          · exact ⟨o, by simp, e.symm⟩
          · exact ⟨u, List.mem_append_left _ hu, e⟩
        · rintro ⟨u, hu, e⟩
          rcases List.mem_append.mp hu with hu | hu
          · exact .inr ⟨u, hu, e⟩
          · rw [List.mem_singleton.mp hu] at e
            exact .inl e.symm
  · rintro X ⟨L, hD, hL, hC, hl0, eX⟩
    rw [List.take_of_length_le (by simp)] at hC
    rw [List.length_map] at hl0
    refine ⟨D, L, rfl, hD, hL, by omega, fun M l2 pm srt nd nl2 => ?_⟩
    have x1 := Ex.new (o := .lst (M.map fun q => V.ref q.1)) nl2
    refine k l2 M _ (fresh_back (f15.trans eX) nl2) ((f15.trans eX).trans x1) upd_same (fun p hp => (hL p (pm.mem_iff.mp hp)).mono x1) (fun x => ?_) srt nd (by rw [pm.length_eq]; omega)
    rw [(pm.map (·.2)).mem_iff]
    exact hC x
/-- the first order by which just this comes -/
def sp_explained (K : PySem.W.Frag) : Sp := fun vs H Q _ => ∃ (m p q a b c : Addr) (ws : List Nat) (us xs : List V) (ds es : List Deed) (x : T3), vs = [.ref m, .ref p, .ref q, .ref a, .ref b, .ref c] ∧ SqT K H m (ws.map wV) ∧ 1 ≤ ws.length ∧ ws.length ≤ 4 ∧ (∀ x ∈ ws, x < 3) ∧ SqL K H p us ∧ PV K H us ds ∧ ds.length ≤ 6 ∧ (∀ d ∈ ds, d.ok ws.length) ∧
  SqL K H q xs ∧ PV K H xs es ∧ es.length ≤ 6 ∧ (∀ d ∈ es, d.ok ws.length) ∧ SqL K H a (x.1.map wV) ∧ x.1.length ≤ 1000 ∧ (∀ n ∈ x.1, n < 3) ∧ SqL K H b (x.2.1.map wV) ∧ x.2.1.length ≤ 1000 ∧ (∀ n ∈ x.2.1, n < 3) ∧ SqT K H c (x.2.2.map wV) ∧ x.2.2.length = ws.length ∧ (∀ n ∈ x.2.2, n < 3) ∧
  ∀ (H' : Hp), Ex H H' → Q (match firstD ws ds es x with | some o => .str (oS o) | none => .non) H'
theorem d_explained {t6 : Tok} (T : Nb mg) (TS : NbS mg) (D_check_memory : Dn P w K mg base CX0 "check_memory" ["memory"] 3 (sp_check_memory K)) (D_check_programs : Dq P w K mg base CX0 "check_programs" ["left", "right", "cells", "most"] [.int 40] 5 (sp_check_programs K))
    (D_check_last : Dn P w K mg base CX0 "check_last" ["last", "memory"] 4 (sp_check_last K)) (D_check_few : Dn P w K mg base CX0 "check_few" ["left", "right"] 1 (sp_check_few K)) (D_is_worth : Dn P w K mg base CX0 "is_worth" ["value"] 2 sp_is_worth) (D_all_orders : Dn P w K mg base CX0 "all_orders" ["left", "right"] 1 (sp_all_orders K)) (D_follow : Dn P w K mg base CX0 "follow" ["memory", "left", "right", "order"] 3 (sp_follow K))
    (h : Has K mg "explained" s_explained) : Dn P w K mg base CX0 "explained" ["memory", "left", "right", "seen", "others", "last"] 6 (sp_explained K) := by
  refine dn_of h (fun f fd F => F.binds fun _ _ _ _ _ _ us hl => match us, hl with | [_, _, _, _, _, _], _ => rfl) fun f fd F _ => F.ok sc_explained (fun vs H Q E h => ?_) (fun cdv A outer s H vs Q E hr h => ?_)
  · obtain ⟨_, _, _, _, _, _, _, _, _, _, _, _, rfl, _⟩ := h
    rfl
  obtain ⟨m, p, q, a, b, c0, ws, us, xs, ds, es, x, rfl, hm, hw1, hw4, hw3, hp, hP, hl6, hok1, hq, hX, hr6, hok2, ha, ha1, ha3, hb, hb1, hb3, hc, hc1, hc3, k⟩ := h
  refine ⟨_, (pss_cons (ps_expr (pe_dn D_check_memory hr (by omega) pass0 (pa_cons (pv 0) pa_nil)))
    (pss_cons (ps_expr (pe_dq D_check_programs hr (by omega) pass0 (pa_cons (pv 1) (pa_cons (pv 2) (pa_cons (pe_callB (call_len_seqK K) (by rfl) T.n_len PySem.boot_len (pa_cons (pv 0) pa_nil)) pa_nil)))))
    (pss_cons (ps_expr (pe_dn D_check_last hr (by omega) pass0 (pa_cons (pv 5) (pa_cons (pv 0) pa_nil))))
    (pss_cons (ps_expr (pe_dn D_check_few hr (by omega) pass0 (pa_cons (pv 1) (pa_cons (pv 2) pa_nil))))
    (pss_cons (ps_if (pt_not (pt_val (pe_callB (cr_all rfl) (by rfl) TS.n_all PyProof.Rows.boot_all (pa_cons (pe_lc (own := [("worth", 8)]) rfl sc_explained.nd (pi_list (pe_lst (pa_starK K (pv 3) (pa_starK K (pv 4) pa_nil)))) (blkOk_by (own := [("worth", 8)]) (N := ["memory", "left", "right", "seen", "others", "last", "wanted", "order", "worth"]) (sc := defScope s_explained) (by decide +kernel)) (fun _ _ _ _ _ => (pg_name (i := 8) sc_explained.nd rfl (Or.inl rfl))) (fun _ _ _ _ _ => pts_nil) (fun _ _ _ _ _ => (pe_dn D_is_worth hr (by omega) pass0 (pa_cons (pv 8) pa_nil)))) pa_nil)))) (pss_one (ps_ret pe_non)) pss_nil)
    (pss_cons (ps_set (i := 6) sc_explained.nd rfl (Or.inl rfl) (pe_tup (pa_cons (pe_callTy call_tuple_of (by rfl) T.n_tuple PyProof.Rows.boot_tuple (pa_cons (pv 3) pa_nil)) (pa_cons (pe_callTy call_tuple_of (by rfl) T.n_tuple PyProof.Rows.boot_tuple (pa_cons (pv 4) pa_nil)) (pa_cons (pv 5) pa_nil)))))
    (pss_cons (ps_for PassesOwn.never rfl (pi_list (pe_dn D_all_orders hr (by omega) pass0 (pa_cons (pv 1) (pa_cons (pv 2) pa_nil)))) (pg_name (i := 7) sc_explained.nd rfl (Or.inl rfl))
      (pss_one (ps_if (pt_cmpR (op_eqDK K rfl hr.units) (pe_dn D_follow hr (by omega) pass0 (pa_cons (pv 0) (pa_cons (pv 1) (pa_cons (pv 2) (pa_cons (pv 7) pa_nil))))) (pv 6) (nomark _)) (pss_one (ps_ret (pv 7))) pss_nil)))
    (pss_one (ps_ret pe_non))))))))), ?_⟩
  have lu := hP.length
  have lx := hX.length
  have c := sp_check_memory_v hm hw1 hw4 hw3
  refine q_drop (v := .non) (by walk_at "ev") fun H2 f2 => ?_
  have c := sp_check_programs_v (n := ws.length) (m := 40) (ex_l f2 hp) (hP.mono f2) (by omega) hok1 (ex_l f2 hq) (hX.mono f2) (by omega) hok2
  refine q_drop (v := .non) (ev_call (ea_cons (by walk_at "ev") (ea_cons (by walk_at "ev") (ea_cons (ev_is (ev_cb (ea_cons (ev_var (v := .ref m) rfl) ea_nil) (rc_lenT (ex_t f2 hm))) (by rw [List.length_map])) ea_nil))) (dvs := [.int 40]) c) fun H3 f3 => ?_
  have f13 := f2.trans f3
  have c := sp_check_last_v (ex_t f13 hc) (ex_t f13 hm) (by omega) (by omega) hc3 hc1
  refine q_drop (v := .non) (by walk_at "ev") fun H4 f4 => ?_
  have f14 := f13.trans f4
  have c := sp_check_few_v (ex_l f14 hp) (ex_l f14 hq) (by omega) (by omega)
  refine q_drop (v := .non) (by walk_at "ev") fun H5 f5 => ?_
  have f15 := f14.trans f5
  -- all are worths
  have hall : EvL (tLst (StX.tStar K (tVar 3) (StX.tStar K (tVar 4) tNil))) (start ["memory", "left", "right", "seen", "others", "last", "wanted", "order", "worth"] [.ref m, .ref p, .ref q, .ref a, .ref b, .ref c0]) H5 ((x.1 ++ x.2.1).map wV) := fun H6 e Q q => ⟨_, rfl, a, _, rfl, .inr (ex_l (f15.trans e) ha), _, rfl, b, _, rfl, .inr (ex_l (f15.trans e) hb), by
    rw [List.append_nil, List.length_append, List.length_map, List.length_map]
    exact Nat.le_trans (by omega : _ ≤ 2000) (by decide), fun l nl => by
    rw [List.append_nil, ← List.map_append]
    exact q l _ nl (Ex.new nl) upd_same⟩
  have hsm : ∀ n ∈ x.1 ++ x.2.1, n < 3 := fun n hn => (List.mem_append.mp hn).elim (ha3 n) (hb3 n)
  have hlen : (x.1 ++ x.2.1).length ≤ 2000 := by rw [List.length_append]; omega
  have lc := el_lcNL (K := K) (j := 8) (vs := [8]) (t := tYes) (te := tCall sp_is_worth [] E0 (tCons (tVar 8) tNil)) (fun _ => true) (fun _ => .bl true) hall (by rw [List.length_map]; omega) (fun _ => rfl) (fun i y H1 e hx => fun H2 e2 Q q => q H2 (Ex.refl _)) (fun i y H1 e hx _ => by
    rw [List.getElem?_map] at hx
    cases hn : (x.1 ++ x.2.1)[i]? with
    | none => rw [hn] at hx; cases hx
    | some n =>
      rw [hn] at hx
      cases hx
      have sm := hsm n (List.mem_of_getElem? hn)
      have c := @sp_is_worth_v H1 (n : Int)
      rw [decide_eq_true (show 0 ≤ (n : Int) ∧ (n : Int) < 3 by omega)] at c
      exact ev_call (dvs := []) (ea_cons (ev_var rfl) ea_nil) c)
  rw [given_all, List.length_map] at lc
  have elc : (List.range (x.1 ++ x.2.1).length).map (fun _ => V.bl true) = (List.replicate (x.1 ++ x.2.1).length true).map V.bl := by
    apply List.ext_getElem
    · simp
    · intro n h1 h2
      simp
  rw [elc] at lc
  refine q_when (b := false) (et_is (et_not (et_B (ev_all lc))) (by rw [all_reps]; rfl)) (fun z => nomatch z) fun _ H6 f6 => ?_
  have f16 := f15.trans f6
  -- what is wanted
  refine ⟨_, rfl, a, _, rfl, .inl ⟨ex_l f16 ha, fun t1 n1 => ?_⟩⟩
  have x1 := Ex.new (o := .tup (x.1.map wV)) n1
  refine ⟨_, rfl, b, _, rfl, .inl ⟨ex_l (f16.trans x1) hb, fun t2 n2 => ?_⟩⟩
  have x2 := Ex.new (o := .tup (x.2.1.map wV)) n2
  refine ⟨_, rfl, by show 3 ≤ sizeLine; decide, fun t3' n3 => ?_⟩
  have x3 := Ex.new (o := .tup [.ref t1, .ref t2, .ref c0]) n3
  refine gn ?_
  dsimp only
  have f69 := (x1.trans x2).trans x3
  have f19 := f16.trans f69
  have want : NT K (upd (upd (upd H6 t1 (.tup (x.1.map wV))) t2 (.tup (x.2.1.map wV))) t3' (.tup [.ref t1, .ref t2, .ref c0])) t3' x := ⟨t1, t2, c0, SqT.of upd_same, SqT.of (x3 _ _ (x2 _ _ upd_same)), SqT.of (x3 _ _ upd_same), ex_t f19 hc⟩
  generalize upd (upd (upd H6 t1 (.tup (x.1.map wV))) t2 (.tup (x.2.1.map wV))) t3' (.tup [.ref t1, .ref t2, .ref c0]) = H9 at f19 want ⊢
  refine q_forX (R := fun l H10 => Ex H9 H10 ∧ H10 l = some (.lst ((ordersD us.length xs.length).map fun o => V.str (oS o)))) (fun Q z => ⟨_, rfl, _, rfl, p, q, us, xs, rfl, ex_l f19 hp, ex_l f19 hq, by omega, by omega, fun l H' nl f hl => z l H' ⟨f, hl⟩⟩) fun l H10 ⟨f10, hl⟩ => ?_
  rw [lu, lx] at hl
  have good : ∀ o ∈ ordersD ds.length es.length, o.count false = ds.length ∧ o.count true = es.length := fun o ho => ordersD_mem.mp ho
  have hf : firstD ws ds es x = (ordersD ds.length es.length).find? fun o => decide (res ws ds es o = x) := rfl
  generalize ordersD ds.length es.length = os at hl good hf
  have f110 := f19.trans f10
  refine q_forLn (xs := os.map fun o => V.str (oS o)) ev_c (SqL.of hl) (fun j σ' H' => ∃ v7 : Option V, σ' = [some (.ref m), some (.ref p), some (.ref q), some (.ref a), some (.ref b), some (.ref c0), some (.ref t3'), v7, none] ∧ Ex H10 H' ∧ ∀ o ∈ os.take j, res ws ds es o ≠ x)
    (fun H11 f11 => ⟨_, rfl, f11, fun _ z => nomatch z⟩) (fun j σ' H' _ ⟨_, _, z, _⟩ => SqL.of (z _ _ hl)) ?_ ?_
  · rintro j y σ' H11 hy ⟨v7, rfl, f11, none_⟩
    have hj : j < os.length := by have := (List.getElem?_eq_some_iff.mp hy).1; simpa using this
    obtain ⟨o, ho⟩ : ∃ o, os[j]? = some o := ⟨os[j], List.getElem?_eq_getElem hj⟩
    have ey : y = .str (oS o) := by
      rw [List.getElem?_map, ho] at hy
      exact (Option.some.inj hy).symm
    subst ey
    obtain ⟨c1, c2⟩ := good o (List.mem_of_getElem? ho)
    have e0 := f110.trans f11
    refine s_ifX (R := fun bb H12 => bb = decide (res ws ds es o = x) ∧ Ex H11 H12) (fun Q z => ⟨_, rfl, _, rfl, _, rfl, _, rfl, m, p, q, ws, us, xs, ds, es, o, rfl, ex_t e0 hm, hw3, ex_l e0 hp, hP.mono e0, by omega, hok1, ex_l e0 hq, hX.mono e0, by omega, hok2, c1, c2, fun v Y tv f => ?_⟩) (fun H12 ⟨hb, f12⟩ => ?_) (fun H12 ⟨hb, f12⟩ => ?_)
    · obtain ⟨bb, rfl, nt⟩ := NT.of tv
      have wt := want.mono ((f10.trans f11).trans f)
      refine ⟨_, rfl, enc3 (res ws ds es o), enc3 x, nt.dp, wt.dp, (sh_3 _).shaped (by decide), (sh_3 _).shaped (by decide), ?_⟩
      rw [eqv_3]
      exact ⟨_, rfl, z _ Y ⟨rfl, f⟩⟩
    · refine s_ret (v := .str (oS o)) (ev_var rfl) fun H13 f13 => ?_
      have e1 : firstD ws ds es x = some o := by
        rw [hf]
        exact find_at ho hb.symm fun u hu => decide_eq_false (none_ u hu)
      have z := k H13 ((e0.trans f12).trans f13)
      rw [e1] at z
      exact z
    · refine ⟨_, rfl, f11.trans f12, fun u hu => ?_⟩
      rw [List.take_add_one, ho] at hu
      rcases List.mem_append.mp hu with hu | hu
      · exact none_ u hu
      · have e : u = o := by simpa using hu
        rw [e]
        exact of_decide_eq_false hb.symm
  · rintro σ' H11 ⟨v7, rfl, f11, none_⟩
    rw [List.take_of_length_le (by simp)] at none_
    refine s_ret (v := .non) ev_c fun H12 f12 => ?_
    have e1 : firstD ws ds es x = none := by
      rw [hf]
      exact List.find?_eq_none.mpr fun o ho => by simpa using none_ o ho
    have z := k H12 ((f110.trans f11).trans f12)
    rw [e1] at z
    exact z

/-- the i-th of so many draws: a number from 0 on, below m -/
def sp_law_next : Sp := fun vs H Q _ => ∃ (h l : Addr) (m : Int), vs = [.ref h, .int m] ∧ Draw H h l ∧ 0 < m ∧ m < 1073741824 ∧ ∀ (r : Int) (H' : Hp), 0 ≤ r → r < m → Drew H H' h l → Q (.int r) H'
theorem d_law_next (T : Nb mg) (h : Has K mg "_law_next" s_law_next) : Dn P w K mg base CX0 "_law_next" ["_law_h", "_law_many"] 1 sp_law_next := by
  refine dn_of h (fun f fd F => F.binds fun _ _ _ _ _ _ us hl => match us, hl with | [_, _], _ => rfl) fun f fd F _ => F.ok sc_law_next (fun vs H Q E h => ?_) (fun cdv A outer s H vs Q E hr h => ?_)
  · obtain ⟨_, _, _, rfl, _⟩ := h
    rfl
  · obtain ⟨h, l, m, rfl, D, hm, hm2, k⟩ := h
    refine ⟨_, (pss_cons (ps_set (i := 2) sc_law_next.nd rfl (Or.inl rfl) (pe_op op_mod (pe_ix (ix_listK K) (pv 0) pe_int (fun _ _ => rfl)) (pe_callB (call_max2 rfl) (by rfl) T.n_max PyProof.Rows.boot_max (pa_cons pe_int (pa_cons (pe_callB (call_len_seqK K) (by rfl) T.n_len PySem.boot_len (pa_cons (pe_ix (ix_listK K) (pv 0) pe_int (fun _ _ => rfl)) pa_nil)) pa_nil)))))
    (pss_cons (ps_set (i := 3) sc_law_next.nd rfl (Or.inl rfl) (pe_ifExp (pt_cmpR (op_neDK K rfl hr.units) (pe_ix (ix_listK K) (pv 0) pe_int (fun _ _ => rfl)) (pe_lst pa_nil) (nomark _)) (pe_ix (ix_listK K) (pe_ix (ix_listK K) (pv 0) pe_int (fun _ _ => rfl)) (pv 2) (fun _ _ => rfl)) pe_int))
    (pss_cons (ps_if (pt_cmpR op_ge (pv 3) (pe_op op_pow pe_int pe_int) (nomark _)) (pss_cons (ps_asg (pe_op op_fdiv (pv 3) (pv 1)) (pg_sub (pe_ix (ix_listK K) (pv 0) pe_int (fun _ _ => rfl)) (pv 2) set_list))
      (pss_one (ps_ret (pe_op op_mod (pv 3) (pv 1))))) pss_nil)
    (pss_cons (ps_asg (pe_op op_mod (pe_op op_add (pe_op op_add (pe_op op_mul (pe_ix (ix_listK K) (pv 0) pe_int (fun _ _ => rfl)) pe_int) (pe_op op_mul (pv 3) pe_int)) pe_int) pe_int) (pg_sub (pv 0) pe_int set_list))
    (pss_cons (ps_asg (pe_op op_add (pe_ix (ix_listK K) (pv 0) pe_int (fun _ _ => rfl)) pe_int) (pg_sub (pv 0) pe_int set_list))
    (pss_one (ps_ret (pe_op op_mod (pe_op op_fdiv (pe_ix (ix_listK K) (pv 0) pe_int (fun _ _ => rfl)) pe_int) (pv 1))))))))), ?_⟩
    obtain ⟨a, p, ns, e1, e2, e3⟩ := D.st
    have hhl := D.ne
    have hM : (0 : Int) < (if ((ns.map V.int).length : Int) > 1 then ((ns.map V.int).length : Int) else 1) := by split <;> omega
    refine q_asg (v := .int (p % (if ((ns.map V.int).length : Int) > 1 then ((ns.map V.int).length : Int) else 1))) (by walk_at "ev") fun H1 f1 => ?_
    have a0 := Int.emod_nonneg p (Int.ne_of_gt hM)
    have a1 := Int.emod_lt_of_pos p hM
    generalize hat : p % (if ((ns.map V.int).length : Int) > 1 then ((ns.map V.int).length : Int) else 1) = t at *
    have c1 := f1 _ _ e1
    have c2 := f1 _ _ e2
    obtain ⟨c, hc⟩ : ∃ c : Int, Ev (tIf (tTest (tOp (rNeD K) (tOp (rIxL K) (tVar 0) (tC (.int 1))) (tLst tNil))) (tOp (rIxL K) (tOp (rIxL K) (tVar 0) (tC (.int 1))) (tVar 2)) (tC (.int 0))) ((start ["_law_h", "_law_many", "_law_at", "_law_cell"] [.ref h, .int m]).set 2 (some (.int t))) H1 (.int c)
        ∧ (c ≠ 0 → ∃ j : Nat, t = (j : Int) ∧ j < ns.length) := by
      cases ns with
      | nil =>
        refine ⟨0, ev_ifF (et_test (ev_is (ev_opL (xs := []) (by walk_at "ev") (el_lst ea_nil (by decide)) fun p H2 hp f2 => rv_neD (n := 1) (m := 1) (d := .list []) (e := .list []) (.lst (SqL.of (f2 _ _ c2)) .nil) (.lst (SqL.of hp) .nil) (sh_lst fun _ z => nomatch z) (sh_lst fun _ z => nomatch z) (by decide) (by decide)) rfl)) ev_c, fun z => absurd rfl z⟩
      | cons n r =>
        obtain ⟨j, rfl⟩ : ∃ j : Nat, t = (j : Int) := ⟨t.toNat, by omega⟩
        have hj : j < (n :: r).length := by
          have q : ((n :: r).map V.int).length = (n :: r).length := List.length_map ..
          rw [q] at a1
          have q2 : (n :: r).length = r.length + 1 := rfl
          split at a1 <;> omega
        have hx : ((n :: r).map V.int)[j]? = some (.int (n :: r)[j]) := by rw [List.getElem?_map, List.getElem?_eq_getElem hj]; rfl
        refine ⟨(n :: r)[j], ev_ifT (et_test (ev_is (ev_opL (xs := []) (by walk_at "ev") (el_lst ea_nil (by decide)) fun p H2 hp f2 => rv_neD (n := 1) (m := 1) (d := .list ((n :: r).map PyData.int)) (e := .list []) (.lst (SqL.of (f2 _ _ c2)) (dpa_ints _)) (.lst (SqL.of hp) .nil) (sh_ints _) (sh_lst fun _ z => nomatch z) (by decide) (by decide)) rfl)) (by walk_at "ev"), fun _ => ⟨j, rfl, hj⟩⟩
    refine q_asg hc.1 fun H2 f2 => ?_
    have d1 := f2 _ _ c1
    have d2 := f2 _ _ c2
    have f02 := f1.trans f2
    refine q_when (b := decide ((10 : Int) ^ (18 : Int).toNat ≤ c)) (et_test (by walk_at "ev")) (fun hb H3 f3 => ?_) (fun hb H3 f3 => ?_)
    · have hb := of_decide_eq_true hb
      have e18 : (10 : Int) ^ (18 : Int).toNat = 1000000000000000000 := by decide
      rw [e18] at hb
      have e1 := f3 _ _ d1
      have e2 := f3 _ _ d2
      obtain ⟨j, rfl, hj⟩ := hc.2 (by omega)
      refine q_setL (l := l) (v := .int (c / m)) (j := j) e2 (by walk_at "ev") (by walk_at "ev") (by walk_at "ev") (by rw [List.length_map]; exact hj) fun H4 f4 => ?_
      refine s_ret (v := .int (c % m)) (by walk_at "ev") fun H5 f5 => ?_
      have g0 : Bt [h, l] H (upd H4 l (.lst ((ns.map V.int).set j (.int (c / m))))) := (Bt.of_ex ((f02.trans f3).trans f4)).upd (.inl (by simp))
      refine k _ _ (Int.emod_nonneg _ (by omega)) (Int.emod_lt_of_pos _ hm) ⟨Draw.mono f5 ⟨a, p, ns.set j (c / m), ?_, ?_, ?_⟩, g0.trans (Bt.of_ex f5)⟩
      · rw [upd_ne hhl]; exact f4 _ _ e1
      · rw [List.map_set]; exact upd_same
      · rw [List.length_set]; exact e3
    · have e1 := f3 _ _ d1
      have e2 := f3 _ _ d2
      refine q_setL (l := h) (v := .int ((a * 48271 + c * 69621 + 11) % 2147483647)) (j := 0) e1 (by walk_at "ev") (by walk_at "ev") (by walk_at "ev") (by simp) fun H4 f4 => ?_
      have g1 : (upd H4 h (.lst (([.int a, .ref l, .int p] : List V).set 0 (.int ((a * 48271 + c * 69621 + 11) % 2147483647))))) h = some (.lst [.int ((a * 48271 + c * 69621 + 11) % 2147483647), .ref l, .int p]) := upd_same
      refine q_setL (l := h) (v := .int (p + 1)) (j := 2) g1 (by walk_at "ev") (by walk_at "ev") (by walk_at "ev") (by simp) fun H5 f5 => ?_
      have g2 : (upd H5 h (.lst (([.int ((a * 48271 + c * 69621 + 11) % 2147483647), .ref l, .int p] : List V).set 2 (.int (p + 1))))) h = some (.lst [.int ((a * 48271 + c * 69621 + 11) % 2147483647), .ref l, .int (p + 1)]) := upd_same
      refine s_ret (v := .int ((a * 48271 + c * 69621 + 11) % 2147483647 / 7 % m)) (by walk_at "ev") fun H6 f6 => ?_
      refine k _ _ (Int.emod_nonneg _ (by omega)) (Int.emod_lt_of_pos _ hm) ⟨Draw.mono f6 ⟨_, p + 1, ns, g2, ?_, e3⟩, ?_⟩
      · rw [upd_ne hhl.symm]
        refine f5 _ _ ?_
        rw [upd_ne hhl.symm]
        exact f4 _ _ e2
      · have b1 : Bt [h, l] H (upd H4 h (.lst (([.int a, .ref l, .int p] : List V).set 0 (.int ((a * 48271 + c * 69621 + 11) % 2147483647))))) := (Bt.of_ex ((f02.trans f3).trans f4)).upd (.inl (by simp))
        exact ((b1.trans (Bt.of_ex f5)).upd (.inl (by simp))).trans (Bt.of_ex f6)

/-- the draws are laid -/
def sp_law_mix (K : PySem.W.Frag) : Sp := fun vs H Q _ => ∃ (a : Addr) (s : Int) (ns : List Int), vs = [.ref a, .int s] ∧ SqL K H a (ns.map V.int) ∧ ns.length ≤ 63 ∧ ∀ (h l : Addr) (H' : Hp), Ex H H' → Draw H' h l → Q (.ref h) H'
theorem d_law_mix (T : Nb mg) (h : Has K mg "_law_mix" s_law_mix) : Dn P w K mg base CX0 "_law_mix" ["_law_script", "_law_seed"] 1 (sp_law_mix K) := by
  refine dn_of h (fun f fd F => F.binds fun _ _ _ _ _ _ us hl => match us, hl with | [_, _], _ => rfl) fun f fd F _ => F.ok sc_law_mix (fun vs H Q E h => ?_) (fun cdv A outer s H vs Q E hr h => ?_)
  · obtain ⟨_, _, _, rfl, _⟩ := h
    rfl
  · obtain ⟨a, sd, ns, rfl, hS, hn, k⟩ := h
    refine ⟨_, (pss_cons (ps_set (i := 2) sc_law_mix.nd rfl (Or.inl rfl) (pv 1))
    (pss_cons (ps_for PassesOwn.never rfl (pi_list (pv 0)) (pg_name (i := 3) sc_law_mix.nd rfl (Or.inl rfl))
      (pss_one (ps_set (i := 2) sc_law_mix.nd rfl (Or.inl rfl) (pe_op op_mod (pe_op op_add (pe_op op_add (pe_op op_mul (pv 2) pe_int) (pe_op op_mod (pv 3) pe_int)) pe_int) pe_int))))
    (pss_one (ps_ret (pe_lst (pa_cons (pv 2) (pa_cons (pe_callTy (call_list_ofK K) (by rfl) T.n_list PyProof.Rows.boot_list (pa_cons (pv 0) pa_nil)) (pa_cons pe_int pa_nil)))))))), ?_⟩
    refine q_asg (v := .int sd) (by walk_at "ev") fun H1 f1 => ?_
    refine q_forLn (a := a) (xs := ns.map V.int) (by walk_at "ev") (ex_l f1 hS) (fun _ σ' H' => ∃ (z : Int) (v : Option V), σ' = [some (.ref a), some (.int sd), some (.int z), v] ∧ Ex H H')
      (fun H2 f2 => ⟨sd, none, rfl, f1.trans f2⟩) (fun i σ' H' _ ⟨_, _, _, e⟩ => ex_l e hS) ?_ ?_
    · rintro i x σ' H' hi ⟨z, v, rfl, e⟩
      obtain ⟨n, rfl⟩ : ∃ n, x = V.int n := by
        rw [List.getElem?_map] at hi
        cases q : ns[i]? with
        | none => rw [q] at hi; cases hi
        | some n => rw [q] at hi; exact ⟨n, (Option.some.inj hi).symm⟩
      exact s_asg (v := .int ((z * 48271 + n % 2147483629 + 1) % 2147483647)) (by walk_at "ev") fun H2 f2 => ⟨_, _, rfl, e.trans f2⟩
    · rintro σ' H' ⟨z, v, rfl, e⟩
      refine ⟨_, rfl, _, rfl, a, _, rfl, .inl (ex_l e hS), fun l hl => ⟨by show 3 ≤ sizeLine; decide, fun h hh => ?_⟩⟩
      have hlh : l ≠ h := ne_of_none upd_same hh
      refine k h l _ ((e.trans (Ex.new hl)).trans (Ex.new hh)) ⟨z, 0, ns, upd_same, ?_, hn⟩
      rw [upd_ne hlh]
      exact upd_same

/-- a deed at so many cells is drawn -/
def sp_law_deed (K : PySem.W.Frag) : Sp := fun vs H Q _ => ∃ (h l : Addr) (n : Nat), vs = [.ref h, .int n] ∧ Draw H h l ∧ 0 < n ∧ n ≤ 4 ∧ ∀ (v : V) (d : Deed) (H' : Hp), DV K H' v d → d.ok n → Drew H H' h l → Q v H'
theorem d_law_deed (T : Nb mg) (D_law_next : Dn P w K mg base CX0 "_law_next" ["_law_h", "_law_many"] 1 sp_law_next) (h : Has K mg "_law_deed" s_law_deed) : Dn P w K mg base CX0 "_law_deed" ["_law_h", "_law_cells"] 2 (sp_law_deed K) := by
  refine dn_of h (fun f fd F => F.binds fun _ _ _ _ _ _ us hl => match us, hl with | [_, _], _ => rfl) fun f fd F _ => F.ok sc_law_deed (fun vs H Q E h => ?_) (fun cdv A outer s H vs Q E hr h => ?_)
  · obtain ⟨_, _, _, rfl, _⟩ := h
    rfl
  · obtain ⟨h, l, n, rfl, D, hn, hn4, k⟩ := h
    refine ⟨_, (pss_cons (ps_set (i := 2) sc_law_deed.nd rfl (Or.inl rfl) (pe_dn D_law_next hr (by omega) pass0 (pa_cons (pv 0) (pa_cons (pv 1) pa_nil))))
    (pss_one (ps_ret (pe_ix (ix_listK K) (pe_lst (pa_cons (pe_tup (pa_cons pe_str (pa_cons (pv 2) pa_nil))) (pa_cons (pe_tup (pa_cons pe_str (pa_cons (pv 2) (pa_cons (pe_dn D_law_next hr (by omega) pass0 (pa_cons (pv 0) (pa_cons pe_int pa_nil))) pa_nil)))) (pa_cons (pe_tup (pa_cons pe_str (pa_cons (pv 2) pa_nil))) (pa_cons (pe_tup (pa_cons pe_str pa_nil)) pa_nil))))) (pe_op op_fdiv (pe_dn D_law_next hr (by omega) pass0 (pa_cons (pv 0) (pa_cons pe_int pa_nil))) pe_int) (fun _ _ => rfl))))), ?_⟩
    -- the cell
    refine ⟨_, rfl, _, rfl, h, l, n, rfl, D, by omega, by omega, fun c H1 c0 c1 D1 => ?_⟩
    obtain ⟨c, rfl⟩ : ∃ j : Nat, c = (j : Int) := ⟨c.toNat, by omega⟩
    -- the first tuple
    refine ⟨_, rfl, by show 2 ≤ sizeLine; decide, fun p1 n1 => ?_⟩
    have D2 := D1.new (o := .tup [.str "read", .int c]) n1
    -- the second one, its worth
    refine ⟨_, rfl, _, rfl, h, l, 3, rfl, D2.dr, by decide, by decide, fun r H3 r0 r1 D3 => ⟨by show 3 ≤ sizeLine; decide, fun p2 n2 => ?_⟩⟩
    obtain ⟨r, rfl⟩ : ∃ j : Nat, r = (j : Int) := ⟨r.toNat, by omega⟩
    have t1 : SqT K H3 p1 (Deed.rd c).vals := D2.dr.t D3.bt (SqT.of upd_same)
    have D4 := D3.new (o := .tup [.str "write", .int c, .int r]) n2
    -- the third one, the fourth one, the list
    refine ⟨_, rfl, by show 2 ≤ sizeLine; decide, fun p3 n3 => ⟨by show 1 ≤ sizeLine; decide, fun p4 n4 => ⟨by show 4 ≤ sizeLine; decide, fun pl nl => ?_⟩⟩⟩
    have D5 := D4.new (o := .tup [.str "read", .int c]) n3
    have D6 := D5.new (o := .tup [.str "rest"]) n4
    have D7 := D6.new (o := .lst [.ref p1, .ref p2, .ref p3, .ref p4]) nl
    -- which one
    refine ⟨_, rfl, h, l, 7, rfl, D7.dr, by decide, by decide, fun z H8 z0 z1 D8 => ?_⟩
    have e1 : SqT K H8 p1 (Deed.rd c).vals := D7.dr.t D8.bt (ex_t (Ex.new nl) (ex_t (Ex.new n4) (ex_t (Ex.new n3) (ex_t (Ex.new n2) t1))))
    have e2 : SqT K H8 p2 (Deed.wr c r).vals := D7.dr.t D8.bt (ex_t (Ex.new nl) (ex_t (Ex.new n4) (ex_t (Ex.new n3) (SqT.of upd_same))))
    have e3 : SqT K H8 p3 (Deed.rd c).vals := D7.dr.t D8.bt (ex_t (Ex.new nl) (ex_t (Ex.new n4) (SqT.of upd_same)))
    have e4 : SqT K H8 p4 Deed.rs.vals := D7.dr.t D8.bt (ex_t (Ex.new nl) (SqT.of upd_same))
    have hl7 : ¬ pl ∈ [h, l] := by
      obtain ⟨_, _, _, q1, q2, _⟩ := D6.dr.st
      simp only [List.mem_cons, List.not_mem_nil, or_false]
      rintro (rfl | rfl)
      · rw [nl] at q1; cases q1
      · rw [nl] at q2; cases q2
    have el : H8 pl = some (.lst [.ref p1, .ref p2, .ref p3, .ref p4]) := D8.bt _ _ hl7 upd_same
    have DD : Drew H H8 h l := (D2.trans D7).trans D8
    refine ⟨z, 2, rfl, rfl, ⟨by decide, by decide⟩, pl, _, z / 2, ?v, rfl, rfl, SqL.of el, ?w, ?q⟩
    case v => exact if z < 2 then .ref p1 else if z < 4 then .ref p2 else if z < 6 then .ref p3 else .ref p4
    case w =>
      by_cases h2 : z < 2
      · have : z / 2 = 0 := by omega
        rw [this, if_pos h2]; rfl
      · by_cases h4 : z < 4
        · have : z / 2 = 1 := by omega
          rw [this, if_neg h2, if_pos h4]; rfl
        · by_cases h6 : z < 6
          · have : z / 2 = 2 := by omega
            rw [this, if_neg h2, if_neg h4, if_pos h6]; rfl
          · have : z / 2 = 3 := by omega
            rw [this, if_neg h2, if_neg h4, if_neg h6]; rfl
    case q =>
      refine k _ (if z < 2 then .rd c else if z < 4 then .wr c r else if z < 6 then .rd c else .rs) H8 ?_ ?_ DD
      · split
        · exact ⟨p1, rfl, e1⟩
        · split
          · exact ⟨p2, rfl, e2⟩
          · split
            · exact ⟨p3, rfl, e3⟩
            · exact ⟨p4, rfl, e4⟩
      · split
        · show c < n; omega
        · split
          · exact ⟨by omega, by omega⟩
          · split
            · show c < n; omega
            · exact True.intro

/-- a program of up to so many deeds is drawn -/
def sp_law_program (K : PySem.W.Frag) : Sp := fun vs H Q _ => ∃ (h l : Addr) (n m : Nat), vs = [.ref h, .int n, .int m] ∧ Draw H h l ∧ 0 < n ∧ n ≤ 4 ∧ m ≤ 40 ∧
  ∀ (p : Addr) (us : List V) (ds : List Deed) (H' : Hp), H p = none → H' p = some (.lst us) → PV K H' us ds → ds.length ≤ m → (∀ d ∈ ds, d.ok n) → Drew H H' h l → Q (.ref p) H'
theorem d_law_program (T : Nb mg) (D_law_next : Dn P w K mg base CX0 "_law_next" ["_law_h", "_law_many"] 1 sp_law_next) (D_law_deed : Dn P w K mg base CX0 "_law_deed" ["_law_h", "_law_cells"] 2 (sp_law_deed K))
    (h : Has K mg "_law_program" s_law_program) : Dn P w K mg base CX0 "_law_program" ["_law_h", "_law_cells", "_law_most"] 3 (sp_law_program K) := by
  refine dn_of h (fun f fd F => F.binds fun _ _ _ _ _ _ us hl => match us, hl with | [_, _, _], _ => rfl) fun f fd F _ => F.ok sc_law_program (fun vs H Q E h => ?_) (fun cdv A outer s H vs Q E hr h => ?_)
  · obtain ⟨_, _, _, _, rfl, _⟩ := h
    rfl
  · obtain ⟨h, l, n, m, rfl, D, hn, hn4, hm, k⟩ := h
    refine ⟨_, (pss_one (ps_ret (pe_lc (own := [("_law_k", 3)]) rfl sc_law_program.nd (pi_range1 rfl T.n_range (pa_cons (pe_dn D_law_next hr (by omega) pass0 (pa_cons (pv 0) (pa_cons (pe_op op_add (pv 2) pe_int) pa_nil))) pa_nil)) (blkOk_by (own := [("_law_k", 3)]) (N := ["_law_h", "_law_cells", "_law_most", "_law_k"]) (sc := defScope s_law_program) (by decide +kernel)) (fun _ _ _ _ _ => (pg_name (i := 3) sc_law_program.nd rfl (Or.inl rfl))) (fun _ _ _ _ _ => pts_nil) (fun _ _ _ _ _ => (pe_dn D_law_deed hr (by omega) pass0 (pa_cons (pv 0) (pa_cons (pv 1) pa_nil))))))), ?_⟩
    refine ⟨_, rfl, _, rfl, _, _, rfl, rfl, h, l, (m : Int) + 1, rfl, D, by omega, by omega, fun c H1 c0 c1 D1 => ?_⟩
    obtain ⟨c, rfl⟩ : ∃ j : Nat, c = (j : Int) := ⟨c.toNat, by omega⟩
    refine ⟨(c : Int), rfl, by omega, by omega, fun p hp => ?_⟩
    have hp0 : ¬ p ∈ [h, l] := by
      obtain ⟨_, _, _, q1, q2, _⟩ := D1.dr.st
      simp only [List.mem_cons, List.not_mem_nil, or_false]
      rintro (rfl | rfl)
      · rw [hp] at q1; cases q1
      · rw [hp] at q2; cases q2
    refine lc_range (lo := 0) (n := (c : Int).toNat) (fun i H' => ∃ us ds, H' p = some (.lst us) ∧ PV K H' us ds ∧ ds.length = i ∧ (∀ d ∈ ds, d.ok n) ∧ Drew H H' h l)
      ⟨[], [], upd_same, .nil, rfl, (fun _ z => nomatch z), D1.new hp⟩ ?_ ?_
    · rintro i H' hi ⟨us, ds, e1, e2, e3, e4, e5⟩
      refine ⟨rfl, _, rfl, _, rfl, h, l, n, rfl, e5.dr, hn, hn4, fun v d H2 g1 g2 g3 => ⟨us, g3.bt p _ hp0 e1, ?_, us ++ [v], ds ++ [d], upd_same, ?_, ?_, ?_, ?_⟩⟩
      · have q := e2.length
        have q2 : (1000 : Nat) < sizeLine := by decide
        omega
      · have a1 : PV K H2 us ds := e5.dr.pv g3.bt e2
        have a2 := PV.snoc g1 a1
        have b : Bt [p] H2 (upd H2 p (.lst (us ++ [v]))) := (Bt.refl H2).upd (.inl (by simp))
        exact pv_map (fun v d q => dv_but b (g3.bt p _ hp0 e1) q) a2
      · rw [List.length_append, e3]; rfl
      · intro x hx
        rcases List.mem_append.mp hx with hx | hx
        · exact e4 x hx
        · rw [List.mem_singleton.mp hx]; exact g2
      · have g := e5.trans g3
        refine ⟨?_, g.bt.upd (.inr (D1.bt.free hp0 hp))⟩
        obtain ⟨a, p', ns, q1, q2, q3⟩ := g.dr.st
        refine ⟨a, p', ns, ?_, ?_, q3⟩
        · rw [upd_ne (fun z => hp0 (by rw [← z]; simp))]; exact q1
        · rw [upd_ne (fun z => hp0 (by rw [← z]; simp))]; exact q2
    · rintro H' ⟨us, ds, e1, e2, e3, e4, e5⟩
      exact k p us ds H' (D1.bt.free hp0 hp) e1 e2 (by omega) e4 e5

/-- a memory of so many cells is drawn -/
def sp_law_memory (K : PySem.W.Frag) : Sp := fun vs H Q _ => ∃ (h l : Addr) (n : Nat), vs = [.ref h, .int n] ∧ Draw H h l ∧ n ≤ 4 ∧
  ∀ (p : Addr) (ws : List Nat) (H' : Hp), H p = none → H' p = some (.tup (ws.map wV)) → ws.length = n → (∀ x ∈ ws, x < 3) → Drew H H' h l → Q (.ref p) H'
theorem d_law_memory (T : Nb mg) (D_law_next : Dn P w K mg base CX0 "_law_next" ["_law_h", "_law_many"] 1 sp_law_next) (h : Has K mg "_law_memory" s_law_memory) : Dn P w K mg base CX0 "_law_memory" ["_law_h", "_law_cells"] 2 (sp_law_memory K) := by
  refine dn_of h (fun f fd F => F.binds fun _ _ _ _ _ _ us hl => match us, hl with | [_, _], _ => rfl) fun f fd F _ => F.ok sc_law_memory (fun vs H Q E h => ?_) (fun cdv A outer s H vs Q E hr h => ?_)
  · obtain ⟨_, _, _, rfl, _⟩ := h
    rfl
  · obtain ⟨h, l, n, rfl, D, hn4, k⟩ := h
    refine ⟨_, (pss_one (ps_ret (pe_callTy call_tuple_of (by rfl) T.n_tuple PyProof.Rows.boot_tuple (pa_cons (pe_lc (own := [("_law_k", 2)]) rfl sc_law_memory.nd (pi_range1 rfl T.n_range (pa_cons (pv 1) pa_nil)) (blkOk_by (own := [("_law_k", 2)]) (N := ["_law_h", "_law_cells", "_law_k"]) (sc := defScope s_law_memory) (by decide +kernel)) (fun _ _ _ _ _ => (pg_name (i := 2) sc_law_memory.nd rfl (Or.inl rfl))) (fun _ _ _ _ _ => pts_nil) (fun _ _ _ _ _ => (pe_dn D_law_next hr (by omega) pass0 (pa_cons (pv 0) (pa_cons pe_int pa_nil))))) pa_nil)))), ?_⟩
    refine ⟨_, rfl, (n : Int), rfl, by omega, by omega, fun p hp => ?_⟩
    have hp0 : ¬ p ∈ [h, l] := by
      obtain ⟨_, _, _, q1, q2, _⟩ := D.st
      simp only [List.mem_cons, List.not_mem_nil, or_false]
      rintro (rfl | rfl)
      · rw [hp] at q1; cases q1
      · rw [hp] at q2; cases q2
    refine lc_range (lo := 0) (n := (n : Int).toNat) (fun i H' => ∃ ws : List Nat, H' p = some (.lst (ws.map wV)) ∧ ws.length = i ∧ (∀ x ∈ ws, x < 3) ∧ Drew H H' h l)
      ⟨[], upd_same, rfl, (fun _ z => nomatch z), (Drew.refl D).new hp⟩ ?_ ?_
    · rintro i H' hi ⟨ws, e1, e3, e4, e5⟩
      refine ⟨rfl, _, rfl, h, l, 3, rfl, e5.dr, by decide, by decide, fun r H2 r0 r1 g3 => ?_⟩
      obtain ⟨r, rfl⟩ : ∃ j : Nat, r = (j : Int) := ⟨r.toNat, by omega⟩
      refine ⟨ws.map wV, g3.bt p _ hp0 e1, ?_, ws ++ [r], ?_, ?_, ?_, ?_⟩
      · have q2 : (1000 : Nat) < sizeLine := by decide
        rw [List.length_map]
        omega
      · rw [upd_same, List.map_append]
        rfl
      · rw [List.length_append, e3]; rfl
      · intro x hx
        rcases List.mem_append.mp hx with hx | hx
        · exact e4 x hx
        · rw [List.mem_singleton.mp hx]; omega
      · have g := e5.trans g3
        refine ⟨?_, g.bt.upd (.inr hp)⟩
        obtain ⟨a, p', ns, q1, q2, q3⟩ := g.dr.st
        refine ⟨a, p', ns, ?_, ?_, q3⟩
        · rw [upd_ne (fun z => hp0 (by rw [← z]; simp))]; exact q1
        · rw [upd_ne (fun z => hp0 (by rw [← z]; simp))]; exact q2
    · rintro H' ⟨ws, e1, e3, e4, e5⟩
      refine ⟨p, _, rfl, .inl ⟨SqL.of e1, fun t ht => ?_⟩⟩
      exact k t ws _ (e5.bt.free (by
        obtain ⟨_, _, _, q1, q2, _⟩ := e5.dr.st
        simp only [List.mem_cons, List.not_mem_nil, or_false]
        rintro (rfl | rfl)
        · rw [ht] at q1; cases q1
        · rw [ht] at q2; cases q2) ht) upd_same (by omega) e4 (e5.new ht)

/-- two that are the same data are found alike -/
def sp_law_alike (K : PySem.W.Frag) : Nat → Sp
  | 0 => fun _ _ _ _ => False
  | n + 1 => fun vs H Q _ => ∃ (a b : V) (d : PyData), vs = [a, b] ∧ Dp K H a d ∧ Dp K H b d ∧ Nice n d ∧ ∀ H', Ex H H' → Q (.bl true) H'
theorem sp_law_alike_v {n : Nat} {H : Hp} {a b : V} {d : PyData} (h1 : Dp K H a d) (h2 : Dp K H b d) (h3 : Nice n d) : SpV (sp_law_alike K (n + 1)) [a, b] H (.bl true) := fun H1 e Q q _ =>
  ⟨a, b, d, rfl, dp_mono e d a h1, dp_mono e d b h2, h3, q⟩
theorem d_law_alike (T : Nb mg) (h : Has K mg "_law_alike" s_law_alike) : ∀ n, Dn P w K mg base CX0 "_law_alike" ["_law_found", "_law_due"] (n + 1) (sp_law_alike K n)
  | 0 => by
    refine dn_of h (fun f fd F => F.binds fun _ _ _ _ _ _ us hl => match us, hl with | [_, _], _ => rfl) fun f fd F _ => ⟨fun _ _ _ _ z => z.elim, fun _ _ _ _ _ _ _ _ _ _ _ _ _ z => z.elim⟩
  | n + 1 => by
    have D_law_alike := d_law_alike T h n
    refine dn_of h (fun f fd F => F.binds fun _ _ _ _ _ _ us hl => match us, hl with | [_, _], _ => rfl) fun f fd F _ => F.ok sc_law_alike (fun vs H Q E h => ?_) (fun cdv A outer s H vs Q E hr h => ?_)
    · obtain ⟨_, _, _, rfl, _⟩ := h
      rfl
    · obtain ⟨a, b, d, rfl, h1, h2, h3, k⟩ := h
      refine ⟨_, (pss_cons (ps_if (pt_val (pe_callB (call_isiTK K) (by rfl) T.n_isinstance PyProof.Rows.boot_isinstance (pa_cons (pv 1) (pa_cons (pe_tup (pa_cons (pe_bltn (v := .ty "tuple") rfl T.n_tuple PyProof.Rows.boot_tuple rfl) (pa_cons (pe_bltn (v := .ty "list") rfl T.n_list PyProof.Rows.boot_list rfl) pa_nil))) pa_nil)))) (pss_cons (ps_if (PW.pt (pw_or (pt_not (pt_val (pe_callB (call_isiTK K) (by rfl) T.n_isinstance PyProof.Rows.boot_isinstance (pa_cons (pv 0) (pa_cons (pe_tup (pa_cons (pe_bltn (v := .ty "tuple") rfl T.n_tuple PyProof.Rows.boot_tuple rfl) (pa_cons (pe_bltn (v := .ty "list") rfl T.n_list PyProof.Rows.boot_list rfl) pa_nil))) pa_nil))))) (pw_or1 (pt_cmpR op_ne (pe_callB (call_isiK2 K) (by rfl) T.n_isinstance PyProof.Rows.boot_isinstance (pa_cons (pv 0) (pa_cons (pe_bltn (v := .ty "list") rfl T.n_list PyProof.Rows.boot_list rfl) pa_nil))) (pe_callB (call_isiK2 K) (by rfl) T.n_isinstance PyProof.Rows.boot_isinstance (pa_cons (pv 1) (pa_cons (pe_bltn (v := .ty "list") rfl T.n_list PyProof.Rows.boot_list rfl) pa_nil))) (nomark _))))) (pss_one (ps_ret pe_bl)) pss_nil)
      (pss_cons (ps_if (pt_cmpR op_ne (pe_callB (call_len_seqK K) (by rfl) T.n_len PySem.boot_len (pa_cons (pv 0) pa_nil)) (pe_callB (call_len_seqK K) (by rfl) T.n_len PySem.boot_len (pa_cons (pv 1) pa_nil)) (nomark _)) (pss_one (ps_ret pe_bl)) pss_nil)
      (pss_one (ps_ret (pe_cmpR (op_eqDK K rfl hr.units) (pe_lc (own := [("_law_k", 2)]) rfl sc_law_alike.nd (pi_range1 rfl T.n_range (pa_cons (pe_callB (call_len_seqK K) (by rfl) T.n_len PySem.boot_len (pa_cons (pv 1) pa_nil)) pa_nil)) (blkOk_by (own := [("_law_k", 2)]) (N := ["_law_found", "_law_due", "_law_k"]) (sc := defScope s_law_alike) (by decide +kernel)) (fun _ _ _ _ _ => (pg_name (i := 2) sc_law_alike.nd rfl (Or.inl rfl))) (fun _ _ _ _ _ => pts_one (pt_not (pt_val (pe_dn D_law_alike hr (by omega) pass0 (pa_cons (pe_ix (ix_anyK K) (pv 0) (pv 2) (fun _ _ => rfl)) (pa_cons (pe_ix (ix_anyK K) (pv 1) (pv 2) (fun _ _ => rfl)) pa_nil)))))) (fun _ _ _ _ _ => (pv 2))) (pe_lst pa_nil) (nomark _)))))) pss_nil)
    (pss_cons (ps_if (pt_cmpR op_isN (pv 1) pe_non (nomark _)) (pss_one (ps_ret (pe_cmpR op_isN (pv 0) pe_non (nomark _)))) pss_nil)
    (pss_cons (ps_if (pt_val (pe_callB (call_isiK2 K) (by rfl) T.n_isinstance PyProof.Rows.boot_isinstance (pa_cons (pv 1) (pa_cons (pe_bltn (v := .ty "str") rfl T.n_str PyProof.Rows.boot_str rfl) pa_nil)))) (pss_one (ps_ret (pe_and (pe_callB (call_isiK2 K) (by rfl) T.n_isinstance PyProof.Rows.boot_isinstance (pa_cons (pv 0) (pa_cons (pe_bltn (v := .ty "str") rfl T.n_str PyProof.Rows.boot_str rfl) pa_nil))) (pe_one (pe_cmpR op_eq (pv 0) (pv 1) (nomark _)))))) pss_nil)
    (pss_cons (ps_if (PW.pt (pw_or (pt_val (pe_callB (call_isiK2 K) (by rfl) T.n_isinstance PyProof.Rows.boot_isinstance (pa_cons (pv 1) (pa_cons (pe_bltn (v := .ty "bool") rfl T.n_bool PyProof.Rows.boot_bool rfl) pa_nil)))) (pw_or1 (pt_val (pe_callB (call_isiK2 K) (by rfl) T.n_isinstance PyProof.Rows.boot_isinstance (pa_cons (pv 0) (pa_cons (pe_bltn (v := .ty "bool") rfl T.n_bool PyProof.Rows.boot_bool rfl) pa_nil))))))) (pss_one (ps_ret (pe_and (pe_callB (call_isiK2 K) (by rfl) T.n_isinstance PyProof.Rows.boot_isinstance (pa_cons (pv 1) (pa_cons (pe_bltn (v := .ty "bool") rfl T.n_bool PyProof.Rows.boot_bool rfl) pa_nil))) (pe_and (pe_callB (call_isiK2 K) (by rfl) T.n_isinstance PyProof.Rows.boot_isinstance (pa_cons (pv 0) (pa_cons (pe_bltn (v := .ty "bool") rfl T.n_bool PyProof.Rows.boot_bool rfl) pa_nil))) (pe_one (pe_cmpR op_eq (pv 0) (pv 1) (nomark _))))))) pss_nil)
    (pss_one (ps_ret (pe_and (pe_callB (call_isiK2 K) (by rfl) T.n_isinstance PyProof.Rows.boot_isinstance (pa_cons (pv 0) (pa_cons (pe_bltn (v := .ty "int") rfl T.n_int PyProof.Rows.boot_int rfl) pa_nil))) (pe_one (pe_cmpR op_eq (pv 0) (pv 1) (nomark _)))))))))), ?_⟩
      have cs : (∃ (p q : Addr) (xs ys : List V) (ds : List PyData) (ty : String), a = .ref p ∧ b = .ref q ∧ SqA K H p xs ∧ SqA K H q ys ∧ DpAll K H xs ds ∧ DpAll K H ys ds ∧ ds.length ≤ 1000 ∧ (∀ d ∈ ds, ∃ m, m + 1 = n ∧ Nice m d) ∧
          TyS K H a (.type ty) ∧ TyS K H b (.type ty) ∧ (ty = "list" ∨ ty = "tuple")) ∨
          (∃ ty : String, TyS K H a (.type ty) ∧ TyS K H b (.type ty) ∧ kitB ty "tuple" = some false ∧ kitB ty "list" = some false ∧ ((ty = "NoneType" ∧ a = .non ∧ b = .non) ∨ (b ≠ .non ∧ a = b ∧ (ty = "int" ∨ ty = "str" ∨ ty = "bool") ∧ scal a a = true))) := by
        cases h3 with
        | non =>
          cases h1; cases h2
          exact .inr ⟨"NoneType", tys_non, tys_non, by decide +kernel, by decide +kernel, .inl ⟨rfl, rfl, rfl⟩⟩
        | bl x =>
          cases h1; cases h2
          exact .inr ⟨"bool", tys_bl, tys_bl, by decide +kernel, by decide +kernel, .inr ⟨(fun z => by cases z), rfl, .inr (.inr rfl), rfl⟩⟩
        | int x =>
          cases h1; cases h2
          exact .inr ⟨"int", tys_int, tys_int, by decide +kernel, by decide +kernel, .inr ⟨(fun z => by cases z), rfl, .inl rfl, rfl⟩⟩
        | str x =>
          cases h1; cases h2
          exact .inr ⟨"str", tys_str, tys_str, by decide +kernel, by decide +kernel, .inr ⟨(fun z => by cases z), rfl, .inr (.inl rfl), rfl⟩⟩
        | @lst m ds hl hd =>
          cases h1 with
          | lst a1 a2 =>
            cases h2 with
            | lst b1 b2 => exact .inl ⟨_, _, _, _, ds, "list", rfl, rfl, .inl a1, .inl b1, a2, b2, hl, (fun d z => ⟨m, rfl, hd d z⟩), tys_lst a1, tys_lst b1, .inl rfl⟩
        | @tup m ds hl hd =>
          cases h1 with
          | tup a1 a2 =>
            cases h2 with
            | tup b1 b2 => exact .inl ⟨_, _, _, _, ds, "tuple", rfl, rfl, .inr a1, .inr b1, a2, b2, hl, (fun d z => ⟨m, rfl, hd d z⟩), tys_tup a1, tys_tup b1, .inr rfl⟩
      rcases cs with ⟨p, q, xs, ys, ds, ty, ea, eb, ha, hb, h4, h5, h6, h7, ta, tb, hty⟩ | ⟨ty, ta, tb, k1, k2, hc⟩
      · have ha0 := ha
        have hb0 := hb
        subst ea eb
        have l1 := dpa_len h4
        have l2 := dpa_len h5
        obtain ⟨b1, b2, k1, k2, hb⟩ : ∃ b1 b2, kitB ty "tuple" = some b1 ∧ kitB ty "list" = some b2 ∧ (b1 || b2) = true := by
          rcases hty with rfl | rfl
          · exact ⟨false, true, by decide +kernel, by decide +kernel, rfl⟩
          · exact ⟨true, false, by decide +kernel, by decide +kernel, rfl⟩
        refine q_when (b := true) (et_B (ev_is (ev_isi2 (by walk_at "ev") tb k1 k2) (by rw [hb]))) (fun _ H1 f1 => ?_) (fun z => nomatch z)
        refine q_when (b := false) (et_is (et_or (et_not (et_B (ev_isi2 (by walk_at "ev") (fun H2 f2 => ta H2 (f1.trans f2)) k1 k2))) (fun _ => et_test (ev_op (ev_cb (by walk_at "ea") (rc_isiB (fun H2 f2 => ta H2 (f1.trans f2)) k2)) (ev_cb (by walk_at "ea") (rc_isiB (fun H2 f2 => tb H2 (f1.trans f2)) k2)) (rv_ne rfl))))
          (by rw [hb]; cases b2 <;> decide)) (fun z => nomatch z) (fun _ H2 f2 => ?_)
        have ha2 := ex_a (f1.trans f2) ha
        have hb2 := ex_a (f1.trans f2) hb0
        refine q_when (b := false) (et_is (et_test (ev_op (ev_cb (by walk_at "ea") (rc_len ha2)) (ev_cb (by walk_at "ea") (rc_len hb2)) (rv_ne rfl))) (by rw [l1, l2]; simp)) (fun z => nomatch z) (fun _ H3 f3 => ?_)
        have f03 := (f1.trans f2).trans f3
        have ha3 := ex_a f3 ha2
        have hb3 := ex_a f3 hb2
        refine s_ret (v := .bl true) (ev_opLL (xs := []) (ys := []) (by
          have q := el_lcR1 (σ := start ["_law_found", "_law_due", "_law_k"] [.ref p, .ref q]) (H := H3) (ta := tCons (tCB (rLenS K) (tCons (tVar 1) tNil)) tNil) (n := (ys.length : Int)) (j := 2) (vs := [2]) (te := tVar 2) (t := tNot (tB (tCall (sp_law_alike K n) [] E0 (tCons (tOp (rIxA K) (tVar 0) (tVar 2)) (tCons (tOp (rIxA K) (tVar 1) (tVar 2)) tNil))))) (fun _ => false) (fun _ => .non)
            (ea_cons (ev_cb (by walk_at "ea") (rc_len hb3)) ea_nil) (by omega) (fun x => rfl) (fun i H4 f4 hi => ?_) (fun i H4 f4 hi z => nomatch z)
          · rw [given_none] at q
            exact q
          · obtain ⟨d, hd⟩ : ∃ d, ds[i]? = some d := ⟨ds[i], List.getElem?_eq_getElem (by omega)⟩
            obtain ⟨x, hx, dx⟩ := dpa_get h4 hd
            obtain ⟨y, hy, dy⟩ := dpa_get h5 hd
            obtain ⟨m, rfl, hm⟩ := h7 d (List.mem_of_getElem? hd)
            have f04 := f03.trans f4
            have c := sp_law_alike_v (K := K) (dp_mono f04 d x dx) (dp_mono f04 d y dy) hm
            exact et_not (et_B (ev_call (ea_cons (ev_op (by walk_at "ev") (by walk_at "ev") (rv_ixA (ex_a f4 ha3) (atI_nat hx))) (ea_cons (ev_op (by walk_at "ev") (by walk_at "ev") (rv_ixA (ex_a f4 hb3) (atI_nat hy))) ea_nil)) c)))
          (el_lst ea_nil (by decide)) fun p1 p2 H4 g1 g2 f4 => rv_is (rv_eqD (n := 1) (m := 1) (d := .list []) (e := .list []) (.lst (SqL.of g1) .nil) (.lst (SqL.of g2) .nil) (sh_lst fun _ z => nomatch z) (sh_lst fun _ z => nomatch z) (by decide) (by decide)) rfl) fun H4 f4 => k H4 (f03.trans f4)
      · refine q_when (b := false) (et_B (ev_isi2 (by walk_at "ev") tb k1 k2)) (fun z => nomatch z) (fun _ H1 f1 => ?_)
        rcases hc with ⟨rfl, rfl, rfl⟩ | ⟨hb, rfl, hty, hs⟩
        · refine q_when (b := true) (et_is (et_test (ev_op (x := .non) (y := .non) (by walk_at "ev") (by walk_at "ev") (rv_val fun H2 _ Q q => ⟨rfl, q⟩))) (by decide)) (fun _ H2 f2 => ?_) (fun z => nomatch z)
          exact s_ret (v := .bl true) (ev_op (x := .non) (y := .non) (by walk_at "ev") (by walk_at "ev") (rv_val fun H2 _ Q q => ⟨rfl, q⟩)) fun H3 f3 => k H3 ((f1.trans f2).trans f3)
        · refine q_when (b := false) (et_is (et_test (ev_op (x := a) (y := .non) (z := .bl (decide (a = .non))) (by walk_at "ev") (by walk_at "ev") (rv_val fun H2 _ Q q => ⟨rfl, q⟩))) (by simp [hb])) (fun z => nomatch z) (fun _ H2 f2 => ?_)
          have ta2 : TyS K H2 a (.type ty) := fun H3 f3 => ta H3 ((f1.trans f2).trans f3)
          rcases hty with rfl | rfl | rfl
          · refine q_when (b := false) (et_B (ev_cb (by walk_at "ea") (rc_isiB ta2 (by decide +kernel)))) (fun z => nomatch z) (fun _ H3 f3 => ?_)
            have ta3 : TyS K H3 a (.type "int") := fun H4 f4 => ta2 H4 (f3.trans f4)
            refine q_when (b := false) (et_is (a := false || false) (et_or (et_B (ev_cb (by walk_at "ea") (rc_isiB (b := false) ta3 (by decide +kernel)))) (fun _ => et_B (ev_cb (by walk_at "ea") (rc_isiB (b := false) ta3 (by decide +kernel))))) rfl) (fun z => nomatch z) (fun _ H4 f4 => ?_)
            have ta4 : TyS K H4 a (.type "int") := fun H5 f5 => ta3 H5 (f4.trans f5)
            exact s_ret (v := .bl true) (ev_is (ev_andV (a := true) (b := decide (a = a)) (ev_cb (by walk_at "ea") (rc_isiB (b := true) ta4 (by decide +kernel))) (fun _ => ev_op (x := a) (y := a) (by walk_at "ev") (by walk_at "ev") (rv_eq hs))) (by simp)) fun H5 f5 => k H5 ((((f1.trans f2).trans f3).trans f4).trans f5)
          · refine q_when (b := true) (et_B (ev_cb (by walk_at "ea") (rc_isiB ta2 (by decide +kernel)))) (fun _ H3 f3 => ?_) (fun z => nomatch z)
            have ta3 : TyS K H3 a (.type "str") := fun H4 f4 => ta2 H4 (f3.trans f4)
            exact s_ret (v := .bl true) (ev_is (ev_andV (a := true) (b := decide (a = a)) (ev_cb (by walk_at "ea") (rc_isiB (b := true) ta3 (by decide +kernel))) (fun _ => ev_op (x := a) (y := a) (by walk_at "ev") (by walk_at "ev") (rv_eq hs))) (by simp)) fun H4 f4 => k H4 (((f1.trans f2).trans f3).trans f4)
          · refine q_when (b := false) (et_B (ev_cb (by walk_at "ea") (rc_isiB ta2 (by decide +kernel)))) (fun z => nomatch z) (fun _ H3 f3 => ?_)
            have ta3 : TyS K H3 a (.type "bool") := fun H4 f4 => ta2 H4 (f3.trans f4)
            refine q_when (b := true) (et_is (et_or (a := true) (b := true) (et_B (ev_cb (by walk_at "ea") (rc_isiB (b := true) ta3 (by decide +kernel)))) (fun z => nomatch z)) rfl) (fun _ H4 f4 => ?_) (fun z => nomatch z)
            have ta4 : TyS K H4 a (.type "bool") := fun H5 f5 => ta3 H5 (f4.trans f5)
            exact s_ret (v := .bl true) (ev_is (ev_andV (a := true) (b := true && decide (a = a)) (ev_cb (by walk_at "ea") (rc_isiB (b := true) ta4 (by decide +kernel))) (fun _ => ev_andV (a := true) (b := decide (a = a)) (ev_cb (by walk_at "ea") (rc_isiB (b := true) ta4 (by decide +kernel))) (fun _ => ev_op (x := a) (y := a) (by walk_at "ev") (by walk_at "ev") (rv_eq hs)))) (by simp)) fun H5 f5 => k H5 ((((f1.trans f2).trans f3).trans f4).trans f5)

def sp_law_order (K : PySem.W.Frag) : Sp := sp_follow K
theorem d_law_order (T : Nb mg) (h : Has K mg "_law_order" s_law_order) : Dn P w K mg base CX0 "_law_order" ["_law_memory_here", "_law_left", "_law_right", "_law_order_here"] 1 (sp_law_order K) := by
  refine dn_of h (fun f fd F => F.binds fun _ _ _ _ _ _ us hl => match us, hl with | [_, _, _, _], _ => rfl) fun f fd F _ => F.ok sc_law_order (fun vs H Q E h => ?_) (fun cdv A outer s H vs Q E hr h => ?_)
  · obtain ⟨_, _, _, _, _, _, _, _, _, rfl, _⟩ := h
    rfl
  obtain ⟨m, p, q, ws, us, xs, ds, es, o, rfl, hm, hw3, hp, hP, hl40, hok1, hq, hX, hr40, hok2, c1, c2, k⟩ := h
  refine ⟨_, (pss_cons (ps_set (i := 0) sc_law_order.nd rfl (Or.inl rfl) (pe_callTy (call_list_ofK K) (by rfl) T.n_list PyProof.Rows.boot_list (pa_cons (pv 0) pa_nil)))
    (pss_cons (ps_set (i := 4) sc_law_order.nd rfl (Or.inl rfl) (pe_tup (pa_cons (pe_lst pa_nil) (pa_cons (pe_lst pa_nil) pa_nil))))
    (pss_cons (ps_for PassesOwn.never rfl (pi_range1 rfl T.n_range (pa_cons (pe_callB call_len (by rfl) T.n_len PySem.boot_len (pa_cons (pv 3) pa_nil)) pa_nil)) (pg_name (i := 5) sc_law_order.nd rfl (Or.inl rfl))
      (pss_cons (ps_set (i := 6) sc_law_order.nd rfl (Or.inl rfl) (pe_callTy call_int1 (by rfl) T.n_int PyProof.Rows.boot_int (pa_cons (pe_cmpR op_eq (pe_ix ix_str (pv 3) (pv 5) (fun _ _ => rfl)) pe_str (nomark _)) pa_nil)))
      (pss_cons (ps_set (i := 7) sc_law_order.nd rfl (Or.inl rfl) (pe_ix (ix_listK K) (pe_ix (ix_tupK K) (pe_tup (pa_cons (pv 1) (pa_cons (pv 2) pa_nil))) (pv 6) (fun _ _ => rfl)) (pe_m1 PySem.F.slot_str_count PySem.F.type_str_count mt_count (pe_slice sl_str (pv 3) po_none (po_some (pv 5))) (pe_ix ix_str (pv 3) (pv 5) (fun _ _ => rfl))) (fun _ _ => rfl)))
      (pss_cons (ps_if (pt_cmpR op_eq (pe_ix (ix_tupK K) (pv 7) pe_int (fun _ _ => rfl)) pe_str (nomark _)) (pss_one (ps_expr (pe_bm PySem.F.plainAttrs_list PySem.F.slot_list_append PySem.F.type_list_append mt_append (pe_ix (ix_tupK K) (pv 4) (pv 6) (fun _ _ => rfl)) (pa_cons (pe_ix (ix_listK K) (pv 0) (pe_ix (ix_tupK K) (pv 7) pe_int (fun _ _ => rfl)) (fun _ _ => rfl)) pa_nil)))) pss_nil)
      (pss_one (ps_if (pt_cmpR op_eq (pe_ix (ix_tupK K) (pv 7) pe_int (fun _ _ => rfl)) pe_str (nomark _)) (pss_one (ps_asg (pe_ix (ix_tupK K) (pv 7) pe_int (fun _ _ => rfl)) (pg_sub (pv 0) (pe_ix (ix_tupK K) (pv 7) pe_int (fun _ _ => rfl)) set_list))) pss_nil))))))
    (pss_one (ps_ret (pe_tup (pa_cons (pe_callTy call_tuple_of (by rfl) T.n_tuple PyProof.Rows.boot_tuple (pa_cons (pe_ix (ix_tupK K) (pv 4) pe_int (fun _ _ => rfl)) pa_nil)) (pa_cons (pe_callTy call_tuple_of (by rfl) T.n_tuple PyProof.Rows.boot_tuple (pa_cons (pe_ix (ix_tupK K) (pv 4) pe_int (fun _ _ => rfl)) pa_nil)) (pa_cons (pe_callTy call_tuple_of (by rfl) T.n_tuple PyProof.Rows.boot_tuple (pa_cons (pv 0) pa_nil)) pa_nil))))))))), ?_⟩
  have hPl := hP.length
  have hXl := hX.length
  have hol : o.length = ds.length + es.length := by
    have z := cnt_both o
    omega
  refine q_asgL (xs := ws.map wV) (fun H2 f2 Q q => ⟨_, rfl, m, _, rfl, .inr (ex_t f2 hm), fun l hl => q l _ hl (Ex.new hl) upd_same⟩) fun w' H2 nw f2 hw => ?_
  refine ⟨by show 0 ≤ sizeLine; decide, fun s' ns => ⟨by show 0 ≤ sizeLine; decide, fun o' no => ⟨by show 2 ≤ sizeLine; decide, fun st nst => ?_⟩⟩⟩
  refine gn ?_
  dsimp only
  have g1 := Ex.new (o := .lst []) ns
  have g2 := Ex.new (o := .lst []) no
  have g3 := Ex.new (o := .tup [.ref s', .ref o']) nst
  have hs3 : (upd (upd (upd H2 s' (.lst [])) o' (.lst [])) st (.tup [.ref s', .ref o'])) s' = some (.lst []) := g3 _ _ (g2 _ _ upd_same)
  have ho3 : (upd (upd (upd H2 s' (.lst [])) o' (.lst [])) st (.tup [.ref s', .ref o'])) o' = some (.lst []) := g3 _ _ upd_same
  have ht3 : (upd (upd (upd H2 s' (.lst [])) o' (.lst [])) st (.tup [.ref s', .ref o'])) st = some (.tup [.ref s', .ref o']) := upd_same
  have f3 : Ex H2 (upd (upd (upd H2 s' (.lst [])) o' (.lst [])) st (.tup [.ref s', .ref o'])) := (g1.trans g2).trans g3
  have nws : w' ≠ s' := ne_of_none hw ns
  have nwo : w' ≠ o' := ne_of_none (g1 _ _ hw) no
  have nso : s' ≠ o' := ne_of_none upd_same no
  have nw0 : H w' = none := nw
  have ns0 : H s' = none := fresh_back f2 ns
  have no0 : H o' = none := fresh_back (f2.trans g1) no
  generalize upd (upd (upd H2 s' (.lst [])) o' (.lst [])) st (.tup [.ref s', .ref o']) = H3 at f3 hs3 ho3 ht3 ⊢
  have f13 := f2.trans f3
  have fit0 := Fit1.begin0 (c := ws.length) (l := ds) (r := es) rfl hw3 hok1 hok2
  refine q_forR1 (n := (o.length : Int)) (ea_cons (ev_cb (ea_cons (ev_var (v := .str (oS o)) rfl) ea_nil) (rc_lenO (by omega))) ea_nil) (by omega) (fun i σ' H' => ∃ (v5 v6 v7 : Option V), σ' = [some (.ref w'), some (.ref p), some (.ref q), some (.str (oS o)), some (.ref st), v5, v6, v7] ∧
      H' w' = some (.lst ((fol (o.take i) (begin0 ws ds es)).ws.map wV)) ∧ H' s' = some (.lst ((fol (o.take i) (begin0 ws ds es)).ss.map wV)) ∧ H' o' = some (.lst ((fol (o.take i) (begin0 ws ds es)).os.map wV)) ∧ H' st = some (.tup [.ref s', .ref o']) ∧ Ex H H')
    (fun H4 f4 => ⟨none, none, none, rfl, f4 _ _ (f3 _ _ hw), f4 _ _ hs3, f4 _ _ ho3, f4 _ _ ht3, f13.trans f4⟩) ?_ ?_
  · rintro i σ' H' hi ⟨v5, v6, v7, rfl, gw, gs, go, gt, ge⟩
    have hi : i < o.length := by omega
    obtain ⟨bb, hbb⟩ : ∃ bb, o[i]? = some bb := ⟨o[i], by simp [hi]⟩
    have fit := Fit1.fol (o.take i) _ _ fit0
    have ll := fol_l (o.take i) (begin0 ws ds es)
    have lr := fol_r (o.take i) (begin0 ws ds es)
    have tk := fol_take hbb (begin0 ws ds es)
    have cS : (o.take (i + 1)) = o.take i ++ [bb] := by rw [List.take_add_one, hbb]; rfl
    have cl : (o.take i).length = i := by rw [List.length_take]; omega
    have z1 := fit.ss
    have z2 := fit.os
    have es1 : decide (V.str (oS [bb]) = V.str "r") = bb := by rw [oS_r, oS_is]; cases bb <;> decide
    refine q_asg (v := .int (if bb then 1 else 0)) (ev_cb (ea_cons (ev_is (ev_op (x := .str (oS [bb])) (y := .str "r") (ev_op (ev_var (v := .str (oS o)) rfl) (ev_var (v := .int (i : Nat)) rfl) (rv_ixO (by omega) hbb)) ev_c (rv_eq rfl)) (by rw [es1])) ea_nil) rc_intB) fun H5 f5 => ?_
    have cB : (o.take (i + 1)).count bb ≤ o.count bb := (List.take_sublist _ _).count_le _
    rw [cS, List.count_append, List.count_singleton_self] at cB
    -- the deed
    obtain ⟨pp, ps, dl, hps, hPs, hcn, hhd, hatp⟩ : ∃ (pp : Addr) (ps : List V) (dl : List Deed), SqL K H pp ps ∧ PV K H ps dl ∧ o.count bb = dl.length ∧ (if bb then (fol (o.take i) (begin0 ws ds es)).r.headD .rs else (fol (o.take i) (begin0 ws ds es)).l.headD .rs) = dl.getD ((o.take i).count bb) .rs ∧ atI ([.ref p, .ref q] : List V) (if bb then 1 else 0) = some (.ref pp) := by
      cases bb with
      | true => exact ⟨q, xs, es, hq, hX, c2, by rw [if_pos rfl, lr]; exact headD_drop es _, rfl⟩
      | false => exact ⟨p, us, ds, hp, hP, c1, by rw [if_neg Bool.false_ne_true, ll]; exact headD_drop ds _, rfl⟩
    have lps := hPs.length
    have hlt : (o.take i).count bb < ps.length := by omega
    have ge5 := ge.trans f5
    obtain ⟨d, hd, dv⟩ := (hPs.mono ge5).get (List.getElem?_eq_getElem hlt)
    rw [List.getD_eq_getElem?_getD, hd] at hhd
    replace hhd : (if bb then (fol (o.take i) (begin0 ws ds es)).r.headD .rs else (fol (o.take i) (begin0 ws ds es)).l.headD .rs) = d := hhd
    refine q_asg (v := ps[(o.take i).count bb]) (ev_op (x := .ref pp) (y := .int ((o.take i).count bb : Nat)) (ev_ixNewT (xs := [.ref p, .ref q]) (i := if bb then 1 else 0) (eu_tup (ea_cons (ev_var (v := .ref p) rfl) (ea_cons (ev_var (v := .ref q) rfl) ea_nil)) (by simp)) (ev_var rfl) hatp)
      (ev_countO (o := o.take i) (b := bb) (ev_slO (ev_var (v := .str (oS o)) rfl) eo_none (eo_some (ev_var (v := .int (i : Nat)) rfl)) (by omega)) (ev_op (ev_var (v := .str (oS o)) rfl) (ev_var (v := .int (i : Nat)) rfl) (rv_ixO (by omega) hbb)) rfl) (rv_ixL (ex_l ge5 hps) (atI_nat (List.getElem?_eq_getElem hlt)))) fun H6 f6 => ?_
    have okd : d.ok ws.length := by
      rw [← hhd]
      cases bb with
      | true => exact ok_headD fit.okr
      | false => exact ok_headD fit.okl
    have f56 := f5.trans f6
    have ge6 := ge.trans f56
    generalize ps[(o.take i).count bb] = vd at dv ⊢
    have dv := dv.mono f6
    -- is it a read
    have hS := fit.len
    generalize fol (o.take i) (begin0 ws ds es) = S at *
    rw [← hS] at okd
    obtain ⟨rr, hrr, hat2, hz⟩ : ∃ rr : Addr, H6 rr = some (.lst ((if bb then S.os else S.ss).map wV)) ∧ atI ([.ref s', .ref o'] : List V) (if bb then 1 else 0) = some (.ref rr) ∧ rr = (if bb then o' else s') := by
      cases bb with
      | true => exact ⟨o', f56 _ _ go, rfl, rfl⟩
      | false => exact ⟨s', f56 _ _ gs, rfl, rfl⟩
    have zl : (if bb then S.os else S.ss).length ≤ 100 := by
      cases bb with
      | true => show S.os.length ≤ 100; omega
      | false => show S.ss.length ≤ 100; omega
    have nwr : w' ≠ rr := by rw [hz]; cases bb <;> assumption
    refine q_ro (K := K) (i := 7) (w := w') (rr := rr) (ws := S.ws) (rs := if bb then S.os else S.ss) (te := tOp (rIxT K) (tVar 4) (tVar 6)) (tw := tVar 0) rfl dv (f56 _ _ gw) hrr nwr okd (by omega) (fun H7 f7 => ev_op (ev_var (v := .ref st) rfl) (ev_var (v := .int (if bb then 1 else 0)) rfl) (rv_ixT (SqT.of (f7 _ _ (f56 _ _ gt))) hat2)) (fun H7 f7 => ev_var rfl) fun H7 b7 w7 r7 => ?_
    have dv7 := dv_buts b7 (by simp [hrr]) dv
    refine wr_body (K := K) (i := 7) (j := 0) (p := w') (x := vd) (dd := d) (u := S.ws) rfl rfl dv7 w7 okd fun H8 b8 w8 => ?_
    have r8 := b8 rr _ (by simp [nwr.symm]) r7
    have bb8 : Bt [w', rr] H' H8 := ((Bt.of_ex f56).trans (b7.mono (by simp))).trans (b8.mono (by simp))
    have nstw : st ≠ w' := ne_of gt gw (by intro z; cases z)
    have nsts : st ≠ s' := ne_of gt gs (by intro z; cases z)
    have nsto : st ≠ o' := ne_of gt go (by intro z; cases z)
    have ex8 : Ex H H8 := ((Bt.of_ex ge).trans bb8).ex (by rw [hz]; cases bb <;> simp [nw0, ns0, no0])
    refine ⟨_, _, _, rfl, ?_, ?_, ?_, bb8 _ _ (by rw [hz]; cases bb <;> simp [nstw, nsts, nsto]) gt, ex8⟩
    · rw [tk, w8]
      cases bb with
      | true => show _ = some (HO.lst ((wrl S.ws (S.r.headD .rs)).map wV)); rw [if_pos rfl] at hhd; rw [hhd]
      | false => show _ = some (HO.lst ((wrl S.ws (S.l.headD .rs)).map wV)); rw [if_neg Bool.false_ne_true] at hhd; rw [hhd]
    · rw [tk]
      cases bb with
      | true => show _ = some (HO.lst (S.ss.map wV)); exact bb8 _ _ (by rw [hz]; simp [nws.symm, nso]) gs
      | false =>
        show _ = some (HO.lst ((S.ss ++ rdl S.ws (S.l.headD .rs)).map wV))
        rw [if_neg Bool.false_ne_true] at hhd
        rw [hhd]
        have e : rr = s' := hz
        rw [← e]
        exact r8
    · rw [tk]
      cases bb with
      | true =>
        show _ = some (HO.lst ((S.os ++ rdl S.ws (S.r.headD .rs)).map wV))
        rw [if_pos rfl] at hhd
        rw [hhd]
        have e : rr = o' := hz
        rw [← e]
        exact r8
      | false => show _ = some (HO.lst (S.os.map wV)); exact bb8 _ _ (by rw [hz]; simp [nwo.symm, nso.symm]) go
  · rintro σ' H' ⟨v5, v6, v7, rfl, gw, gs, go, gt, ge⟩
    rw [Int.toNat_natCast, List.take_length] at gw gs go
    refine ⟨_, rfl, st, _, 0, _, rfl, rfl, SqT.of gt, rfl, s', _, rfl, .inl ⟨SqL.of gs, fun a na => ?_⟩⟩
    have g1 := Ex.new (o := .tup ((fol o (begin0 ws ds es)).ss.map wV)) na
    refine ⟨_, rfl, st, _, 1, _, rfl, rfl, SqT.of (g1 _ _ gt), rfl, o', _, rfl, .inl ⟨SqL.of (g1 _ _ go), fun b nb => ?_⟩⟩
    have g2 := Ex.new (o := .tup ((fol o (begin0 ws ds es)).os.map wV)) nb
    refine ⟨_, rfl, w', _, rfl, .inl ⟨SqL.of (g2 _ _ (g1 _ _ gw)), fun c nc => ?_⟩⟩
    have g3 := Ex.new (o := .tup ((fol o (begin0 ws ds es)).ws.map wV)) nc
    refine ⟨by show 3 ≤ sizeLine; decide, fun t nt => ?_⟩
    have g4 := Ex.new (o := .tup [.ref a, .ref b, .ref c]) nt
    exact k _ _ ⟨t, a, b, c, rfl, SqT.of upd_same, SqT.of (g4 _ _ (g3 _ _ (g2 _ _ upd_same))), SqT.of (g4 _ _ (g3 _ _ upd_same)), SqT.of (g4 _ _ upd_same)⟩ ((((ge.trans g1).trans g2).trans g3).trans g4)

/-- all orders of so many deeds, as texts ascend -/
def sp_law_orders (K : PySem.W.Frag) : Nat → Sp
  | 0 => fun _ _ _ _ => False
  | n + 1 => fun vs H Q _ => ∃ (a b : Nat), vs = [.int a, .int b] ∧ a + b ≤ n ∧ a + b ≤ 12 ∧ ∀ (l : Addr) (H' : Hp), H l = none → Ex H H' → H' l = some (.lst ((ordersF n a b).map fun o => V.str (oS o))) → Q (.ref l) H'
theorem d_law_orders (T : Nb mg) (h : Has K mg "_law_orders" s_law_orders) : ∀ n, Dn P w K mg base CX0 "_law_orders" ["_law_one", "_law_other"] (n + 1) (sp_law_orders K n)
  | 0 => by
    refine dn_of h (fun f fd F => F.binds fun _ _ _ _ _ _ us hl => match us, hl with | [_, _], _ => rfl) fun f fd F _ => ⟨fun _ _ _ _ z => z.elim, fun _ _ _ _ _ _ _ _ _ _ _ _ _ z => z.elim⟩
  | n + 1 => by
    have D_law_orders := d_law_orders T h n
    refine dn_of h (fun f fd F => F.binds fun _ _ _ _ _ _ us hl => match us, hl with | [_, _], _ => rfl) fun f fd F _ => F.ok sc_law_orders (fun vs H Q E h => ?_) (fun cdv A outer s H vs Q E hr h => ?_)
    · obtain ⟨_, _, rfl, _⟩ := h
      rfl
    obtain ⟨a, b, rfl, hab, h12, k⟩ := h
    refine ⟨_, (pss_cons (ps_if (PW.pt (pw_or (pt_cmpR op_eq (pv 0) pe_int (nomark _)) (pw_or1 (pt_cmpR op_eq (pv 1) pe_int (nomark _))))) (pss_one (ps_ret (pe_lst (pa_cons (pe_op op_add_str (pe_op Zen.op_mulS pe_str (pv 0)) (pe_op Zen.op_mulS pe_str (pv 1))) pa_nil)))) pss_nil)
    (pss_one (ps_ret (pe_op op_cat (pe_lc (own := [("_law_rest", 2)]) rfl sc_law_orders.nd (pi_list (pe_dn D_law_orders hr (by omega) pass0 (pa_cons (pe_op op_sub (pv 0) pe_int) (pa_cons (pv 1) pa_nil)))) (blkOk_by (own := [("_law_rest", 2)]) (N := ["_law_one", "_law_other", "_law_rest"]) (sc := defScope s_law_orders) (by decide +kernel)) (fun _ _ _ _ _ => (pg_name (i := 2) sc_law_orders.nd rfl (Or.inl rfl))) (fun _ _ _ _ _ => pts_nil) (fun _ _ _ _ _ => (pe_op op_add_str pe_str (pv 2)))) (pe_lc (own := [("_law_rest", 2)]) rfl sc_law_orders.nd (pi_list (pe_dn D_law_orders hr (by omega) pass0 (pa_cons (pv 0) (pa_cons (pe_op op_sub (pv 1) pe_int) pa_nil)))) (blkOk_by (own := [("_law_rest", 2)]) (N := ["_law_one", "_law_other", "_law_rest"]) (sc := defScope s_law_orders) (by decide +kernel)) (fun _ _ _ _ _ => (pg_name (i := 2) sc_law_orders.nd rfl (Or.inl rfl))) (fun _ _ _ _ _ => pts_nil) (fun _ _ _ _ _ => (pe_op op_add_str pe_str (pv 2)))))))), ?_⟩
    refine q_when (b := decide (a = 0 ∨ b = 0)) (et_is (et_or (et_test (ev_op (x := .int (a : Int)) (y := .int 0) (ev_var rfl) ev_c (rv_eq rfl))) (fun _ => et_test (ev_op (x := .int (b : Int)) (y := .int 0) (ev_var rfl) ev_c (rv_eq rfl)))) (by
      rw [← Bool.decide_or]
      refine decide_eq_decide.mpr ?_
      constructor
      · rintro (z | z)
        · exact .inl (by have := V.int.inj z; omega)
        · exact .inr (by have := V.int.inj z; omega)
      · rintro (z | z)
        · exact .inl (by rw [z]; rfl)
        · exact .inr (by rw [z]; rfl))) (fun hb H1 f1 => ?_) (fun hb H1 f1 => ?_)
    · have z : a = 0 ∨ b = 0 := of_decide_eq_true hb
      have e : ordersF n a b = [List.replicate a false ++ List.replicate b true] := by
        cases n with
        | zero => rfl
        | succ n => rw [ordersF, if_pos z]
      rw [e] at k
      have m1 := ev_op (σ := start ["_law_one", "_law_other", "_law_rest"] [.int (a : Int), .int (b : Int)]) (ta := tC (.str "l")) (tb := tVar 0) (H := H1) (x := .str (oS [false])) (y := .int (a : Int)) (by rw [← oS_l]; exact ev_c) (ev_var (i := 0) rfl) (rv_mulS (b := false) (n := a) (by omega))
      have m2 := ev_op (σ := start ["_law_one", "_law_other", "_law_rest"] [.int (a : Int), .int (b : Int)]) (ta := tC (.str "r")) (tb := tVar 1) (H := H1) (x := .str (oS [true])) (y := .int (b : Int)) (by rw [← oS_r]; exact ev_c) (ev_var (i := 1) rfl) (rv_mulS (b := true) (n := b) (by omega))
      refine s_retL (xs := [.str (oS (List.replicate a false ++ List.replicate b true))]) (el_lst (ea_cons (ev_op m1 m2 (fun H3 f3 Q q => ⟨_, _, rfl, rfl, by rw [oS_len, oS_len, List.length_replicate, List.length_replicate, sizeLine_eq]; omega, by rw [oS_app]; exact q H3 (Ex.refl _)⟩)) ea_nil) (by simp)) fun l H2 nl f2 hl => k l H2 (fresh_back f1 nl) (f1.trans f2) hl
    · have z : ¬ (a = 0 ∨ b = 0) := of_decide_eq_false hb
      obtain ⟨m, rfl⟩ : ∃ m, n = m + 1 := ⟨n - 1, by omega⟩
      have e : ordersF (m + 1) a b = (ordersF m (a - 1) b).map (false :: ·) ++ (ordersF m a (b - 1)).map (true :: ·) := by rw [ordersF, if_neg z]
      rw [e] at k
      obtain ⟨s1, s2⟩ := ordersF_size m (a - 1) b
      obtain ⟨s3, s4⟩ := ordersF_size m a (b - 1)
      have p1 : 2 ^ (a - 1 + b) ≤ 2 ^ 12 := Nat.pow_le_pow_right (by decide) (by omega)
      have p2 : 2 ^ (a + (b - 1)) ≤ 2 ^ 12 := Nat.pow_le_pow_right (by decide) (by omega)
      have p3 : (2 : Nat) ^ 12 = 4096 := by decide
      have i1 : (a : Int) - 1 = ((a - 1 : Nat) : Int) := by omega
      have i2 : (b : Int) - 1 = ((b - 1 : Nat) : Int) := by omega
      have c1 : EvL (tCall (sp_law_orders K (m + 1)) [] E0 (tCons (tOp (fun x y H Q => ∃ i j, x = .int i ∧ y = .int j ∧ Q (.int (i - j)) H) (tVar 0) (tC (.int 1))) (tCons (tVar 1) tNil))) (start ["_law_one", "_law_other", "_law_rest"] [.int (a : Int), .int (b : Int)]) H1 ((ordersF m (a - 1) b).map fun o => V.str (oS o)) := fun H2 f2 Q q =>
        ⟨_, rfl, a, 1, rfl, rfl, _, rfl, a - 1, b, by rw [i1]; rfl, by omega, by omega, fun l H3 nl f3 hl => q l H3 nl f3 hl⟩
      have c2 : EvL (tCall (sp_law_orders K (m + 1)) [] E0 (tCons (tVar 0) (tCons (tOp (fun x y H Q => ∃ i j, x = .int i ∧ y = .int j ∧ Q (.int (i - j)) H) (tVar 1) (tC (.int 1))) tNil))) (start ["_law_one", "_law_other", "_law_rest"] [.int (a : Int), .int (b : Int)]) H1 ((ordersF m a (b - 1)).map fun o => V.str (oS o)) := fun H2 f2 Q q =>
        ⟨_, rfl, _, rfl, b, 1, rfl, rfl, a, b - 1, by rw [i2]; rfl, by omega, by omega, fun l H3 nl f3 hl => q l H3 nl f3 hl⟩
      refine s_retL (el_catN (el_doors (K := K) (j := 2) (vs := [2]) false c1 (by omega) (fun _ => rfl) (fun o H2 ho f2 => ev_op (x := .str (oS [false])) (y := .str (oS o)) (by rw [← oS_l]; exact ev_c) (ev_var rfl) (fun H3 f3 Q q => ⟨_, _, rfl, rfl, by have := s2 o ho; rw [oS_len, oS_len, sizeLine_eq]; show 1 + o.length ≤ _; omega, by rw [oS_app]; exact q H3 (Ex.refl _)⟩)))
        (el_doors (K := K) (j := 2) (vs := [2]) true c2 (by omega) (fun _ => rfl) (fun o H2 ho f2 => ev_op (x := .str (oS [true])) (y := .str (oS o)) (by rw [← oS_r]; exact ev_c) (ev_var rfl) (fun H3 f3 Q q => ⟨_, _, rfl, rfl, by have := s4 o ho; rw [oS_len, oS_len, sizeLine_eq]; show 1 + o.length ≤ _; omega, by rw [oS_app]; exact q H3 (Ex.refl _)⟩))) (by simp only [List.length_map]; omega)) fun l H2 nl f2 hl => ?_
      rw [← List.map_append] at hl
      exact k l H2 (fresh_back f1 nl) (f1.trans f2) hl

def sp_law (K : PySem.W.Frag) : Sp := fun vs H Q _ => ∃ (a : Addr) (ns : List Int), vs = [.ref a] ∧ SqL K H a (ns.map V.int) ∧ ns.length ≤ 63 ∧ ∀ H', Q (.bl true) H'
theorem d_law {t6 : Tok} (T : Nb mg) (TS : NbS mg) (D_law_mix : Dn P w K mg base CX0 "_law_mix" ["_law_script", "_law_seed"] 1 (sp_law_mix K)) (D_law_next : Dn P w K mg base CX0 "_law_next" ["_law_h", "_law_many"] 1 sp_law_next) (D_law_memory : Dn P w K mg base CX0 "_law_memory" ["_law_h", "_law_cells"] 2 (sp_law_memory K))
    (D_law_program : Dn P w K mg base CX0 "_law_program" ["_law_h", "_law_cells", "_law_most"] 3 (sp_law_program K)) (D_law_order : Dn P w K mg base CX0 "_law_order" ["_law_memory_here", "_law_left", "_law_right", "_law_order_here"] 1 (sp_law_order K)) (D_law_orders : Dn P w K mg base CX0 "_law_orders" ["_law_one", "_law_other"] 14 (sp_law_orders K 13)) (D_law_alike : Dn P w K mg base CX0 "_law_alike" ["_law_found", "_law_due"] 5 (sp_law_alike K 4))
    (D_ordered : Dn P w K mg base CX0 "ordered" ["memory", "left", "right", "order"] 6 (sp_ordered K)) (D_explained : Dn P w K mg base CX0 "explained" ["memory", "left", "right", "seen", "others", "last"] 6 (sp_explained K)) (D_outcomes : Dn P w K mg base CX0 "outcomes" ["memory", "left", "right"] 6 (sp_outcomes K))
    {f : Addr} {fd : FuncData} (F : Fun K "law" "law" s_law f fd) : FnOk P w K mg base CX0 15 f fd ["_law_script"] (sp_law K) := by
  refine F.ok sc_law (fun vs H Q E h => ?_) (fun cdv A outer s H vs Q E hr h => ?_)
  · obtain ⟨_, _, rfl, _⟩ := h
    rfl
  obtain ⟨a, ns, rfl, hS, hn, k⟩ := h
  refine ⟨_, (pss_cons (ps_set (i := 1) sc_law.nd rfl (Or.inr rfl) (pe_dn D_law_mix hr (by omega) pass0 (pa_cons (pv 0) (pa_cons pe_int pa_nil))))
    (pss_cons (ps_set (i := 2) sc_law.nd rfl (Or.inl rfl) (pe_op op_add pe_int (pe_dn D_law_next hr (by omega) pass0 (pa_cons (pv 1) (pa_cons pe_int pa_nil)))))
    (pss_cons (ps_set (i := 3) sc_law.nd rfl (Or.inl rfl) (pe_dn D_law_memory hr (by omega) pass0 (pa_cons (pv 1) (pa_cons (pv 2) pa_nil))))
    (pss_cons (ps_set (i := 4) sc_law.nd rfl (Or.inl rfl) (pe_ix (ix_listK K) (pe_lst (pa_cons pe_int (pa_cons pe_int (pa_cons pe_int (pa_cons pe_int pa_nil))))) (pe_dn D_law_next hr (by omega) pass0 (pa_cons (pv 1) (pa_cons pe_int pa_nil))) (fun _ _ => rfl)))
    (pss_cons (ps_par (i := 5) (j := 6) rfl sc_law.nd rfl rfl (by decide) rfl rfl (pa_cons (pe_dn D_law_program hr (by omega) pass0 (pa_cons (pv 1) (pa_cons (pv 2) (pa_cons (pv 4) pa_nil)))) (pa_cons (pe_dn D_law_program hr (by omega) pass0 (pa_cons (pv 1) (pa_cons (pv 2) (pa_cons (pv 4) pa_nil)))) pa_nil)) rfl)
    (pss_cons (ps_set (i := 7) sc_law.nd rfl (Or.inl rfl) (pe_dnewNK P w))
    (pss_cons (ps_for PassesOwn.never rfl (pi_list (pe_dn D_law_orders hr (by omega) pass0 (pa_cons (pe_callB (call_len_seqK K) (by rfl) T.n_len PySem.boot_len (pa_cons (pv 5) pa_nil)) (pa_cons (pe_callB (call_len_seqK K) (by rfl) T.n_len PySem.boot_len (pa_cons (pv 6) pa_nil)) pa_nil)))) (pg_name (i := 8) sc_law.nd rfl (Or.inl rfl))
      (pss_cons (ps_set (i := 9) sc_law.nd rfl (Or.inl rfl) (pe_dn D_law_order hr (by omega) pass0 (pa_cons (pv 3) (pa_cons (pv 5) (pa_cons (pv 6) (pa_cons (pv 8) pa_nil))))))
      (pss_cons (ps_expr (pe_dsetNK P w K hr.units (pv 7) (pv 9) (pv 8) ⟨rfl, rfl, rfl, rfl⟩))
      (pss_one (ps_if (PW.pt (pw_and (pt_cmpR op_eq (pe_dn D_law_next hr (by omega) pass0 (pa_cons (pv 1) (pa_cons pe_int pa_nil))) pe_int (nomark _)) (pw_and1 (pt_not (pt_val (pe_dn D_law_alike hr (by omega) pass0 (pa_cons (pe_dn D_ordered hr (by omega) pass0 (pa_cons (pv 3) (pa_cons (pv 5) (pa_cons (pv 6) (pa_cons (pv 8) pa_nil))))) (pa_cons (pv 9) pa_nil)))))))) (pss_one (ps_ret pe_bl)) pss_nil)))))
    (pss_cons (ps_for PassesOwn.never rfl (pi_range1 rfl T.n_range (pa_cons pe_int pa_nil)) (pg_name (i := 10) sc_law.nd rfl (Or.inl rfl))
      (pss_cons (ps_set (i := 11) sc_law.nd rfl (Or.inl rfl) (pe_dn D_outcomes hr (by omega) pass0 (pa_cons (pv 3) (pa_cons (pv 5) (pa_cons (pv 6) pa_nil)))))
      (pss_cons (ps_if (pt_not (pt_val (pe_dn D_law_alike hr (by omega) pass0 (pa_cons (pv 11) (pa_cons (pe_callB (cr_sortedDK P w K rfl hr.units) (by rfl) TS.n_sorted PyProof.Rows.boot_sorted (pa_cons (pv 7) pa_nil)) pa_nil))))) (pss_one (ps_ret pe_bl)) pss_nil)
      (pss_one (ps_expr (pe_bm PySem.F.plainAttrs_list PySem.F.slot_list_append PySem.F.type_list_append mt_append (pv 11) (pa_cons (pe_tup pa_nil) pa_nil)))))))
    (pss_cons (ps_for PassesOwn.never rfl (pi_list (pe_slice sl_list (pe_callB (cr_sortedDK P w K rfl hr.units) (by rfl) TS.n_sorted PyProof.Rows.boot_sorted (pa_cons (pv 7) pa_nil)) po_none (po_some pe_int))) (pg_tup rfl (pgs_cons (pg_name (i := 12) sc_law.nd rfl (Or.inl rfl)) (pgs_cons (pg_name (i := 13) sc_law.nd rfl (Or.inl rfl)) (pgs_cons (pg_name (i := 14) sc_law.nd rfl (Or.inl rfl)) pgs_nil))))
      (pss_cons (ps_set (i := 15) sc_law.nd rfl (Or.inl rfl) (pe_tup (pa_cons (pe_callTy (call_list_ofK K) (by rfl) T.n_list PyProof.Rows.boot_list (pa_cons (pv 12) pa_nil)) (pa_cons (pe_callTy (call_list_ofK K) (by rfl) T.n_list PyProof.Rows.boot_list (pa_cons (pv 13) pa_nil)) pa_nil))))
      (pss_cons (ps_if (pt_not (pt_val (pe_dn D_law_alike hr (by omega) pass0 (pa_cons (pe_dn D_explained hr (by omega) pass0 (pa_cons (pv 3) (pa_cons (pv 5) (pa_cons (pv 6) (pa_cons (pe_ix (ix_tupK K) (pv 15) pe_int (fun _ _ => rfl)) (pa_cons (pe_ix (ix_tupK K) (pv 15) pe_int (fun _ _ => rfl)) (pa_cons (pv 14) pa_nil))))))) (pa_cons (pe_dgetNK P w K hr.units (pv 7) (pe_tup (pa_cons (pv 12) (pa_cons (pv 13) (pa_cons (pv 14) pa_nil)))) (fun _ _ => rfl)) pa_nil))))) (pss_one (ps_ret pe_bl)) pss_nil)
      (pss_cons (ps_if (pt_cmpR (op_neDK K rfl hr.units) (pv 15) (pe_tup (pa_cons (pe_callTy (call_list_ofK K) (by rfl) T.n_list PyProof.Rows.boot_list (pa_cons (pv 12) pa_nil)) (pa_cons (pe_callTy (call_list_ofK K) (by rfl) T.n_list PyProof.Rows.boot_list (pa_cons (pv 13) pa_nil)) pa_nil))) (nomark _)) (pss_one (ps_ret pe_bl)) pss_nil)
      (pss_cons (ps_set (i := 16) sc_law.nd rfl (Or.inl rfl) (pe_lst (pa_cons (pe_tup (pa_cons (pe_op op_catA (pv 12) (pe_tup (pa_cons pe_int pa_nil))) (pa_cons (pv 13) pa_nil))) (pa_cons (pe_tup (pa_cons (pe_slice (sl_tupAK K) (pv 12) (po_some pe_int) po_none) (pa_cons (pv 13) pa_nil))) (pa_cons (pe_tup (pa_cons (pv 12) (pa_cons (pe_callTy call_tuple_of (by rfl) T.n_tuple PyProof.Rows.boot_tuple (pa_cons (pe_lc (own := [("_law_worth", 17)]) rfl sc_law.nd (pi_tup (pv 13)) (blkOk_by (own := [("_law_worth", 17)]) (N := ["_law_script", "_law_h", "_law_cells", "_law_memory_here", "_law_most", "_law_left", "_law_right", "_law_known", "_law_order_here", "_law_told", "_law_again", "_law_found", "_law_seen", "_law_others", "_law_last", "_law_handed", "_law_odd", "_law_worth", "_law_cell"]) (sc := defScope s_law) (by decide +kernel)) (fun _ _ _ _ _ => (pg_name (i := 17) sc_law.nd rfl (Or.inl rfl))) (fun _ _ _ _ _ => pts_nil) (fun _ _ _ _ _ => (pe_op op_sub pe_int (pv 17)))) pa_nil)) pa_nil))) pa_nil)))))
      (pss_cons (ps_set (i := 16) sc_law.nd rfl (Or.inl rfl) (pe_op op_catT (pe_ix (ix_listK K) (pv 16) (pe_dn D_law_next hr (by omega) pass0 (pa_cons (pv 1) (pa_cons pe_int pa_nil))) (fun _ _ => rfl)) (pe_tup (pa_cons (pe_callTy call_tuple_of (by rfl) T.n_tuple PyProof.Rows.boot_tuple (pa_cons (pe_lc (own := [("_law_cell", 18)]) rfl sc_law.nd (pi_tup (pv 14)) (blkOk_by (own := [("_law_cell", 18)]) (N := ["_law_script", "_law_h", "_law_cells", "_law_memory_here", "_law_most", "_law_left", "_law_right", "_law_known", "_law_order_here", "_law_told", "_law_again", "_law_found", "_law_seen", "_law_others", "_law_last", "_law_handed", "_law_odd", "_law_worth", "_law_cell"]) (sc := defScope s_law) (by decide +kernel)) (fun _ _ _ _ _ => (pg_name (i := 18) sc_law.nd rfl (Or.inl rfl))) (fun _ _ _ _ _ => pts_nil) (fun _ _ _ _ _ => (pe_dn D_law_next hr (by omega) pass0 (pa_cons (pv 1) (pa_cons pe_int pa_nil))))) pa_nil)) pa_nil))))
      (pss_one (ps_if (pt_not (pt_val (pe_dn D_law_alike hr (by omega) pass0 (pa_cons (pe_dn D_explained hr (by omega) pass0 (pa_cons (pv 3) (pa_cons (pv 5) (pa_cons (pv 6) (pa_cons (pe_callTy (call_list_ofK K) (by rfl) T.n_list PyProof.Rows.boot_list (pa_cons (pe_ix (ix_tupK K) (pv 16) pe_int (fun _ _ => rfl)) pa_nil)) (pa_cons (pe_callTy (call_list_ofK K) (by rfl) T.n_list PyProof.Rows.boot_list (pa_cons (pe_ix (ix_tupK K) (pv 16) pe_int (fun _ _ => rfl)) pa_nil)) (pa_cons (pe_ix (ix_tupK K) (pv 16) pe_int (fun _ _ => rfl)) pa_nil))))))) (pa_cons (pe_dget1NK P w K hr.units (pv 7) (pv 16) ⟨rfl, rfl, rfl, rfl⟩) pa_nil))))) (pss_one (ps_ret pe_bl)) pss_nil))))))))
    (pss_one (ps_ret pe_bl))))))))))), ?_⟩
  refine ⟨_, rfl, a, 23, ns, rfl, hS, hn, fun h l H1 f1 D1 => ?_⟩
  refine gn ?_
  dsimp only
  -- cells
  refine ⟨_, rfl, h, l, 4, rfl, D1, by decide, by decide, fun c H3 c0 c1 D3 => ⟨1, c, rfl, rfl, ?_⟩⟩
  refine gn ?_
  dsimp only
  obtain ⟨n, hn1⟩ : ∃ n : Nat, 1 + c = (n : Int) := ⟨(1 + c).toNat, by omega⟩
  rw [hn1]
  have hn0 : 0 < n := by omega
  have hn4 : n ≤ 4 := by omega
  -- the memory
  refine ⟨_, rfl, _, rfl, h, l, n, rfl, D3.dr, hn4, fun pm ws H4 nm hm4 hl4 hs4 D4 => ?_⟩
  refine gn ?_
  dsimp only
  -- how many deeds at most
  refine ⟨by show 4 ≤ sizeLine; decide, fun pt nt => ⟨_, rfl, h, l, 4, rfl, (D4.new (o := .lst [.int 4, .int 4, .int 5, .int 6]) nt).dr, by decide, by decide, fun z H5 z0 z1 D5 => ?_⟩⟩
  have hpt : H5 pt = some (.lst [.int 4, .int 4, .int 5, .int 6]) := D5.bt _ _ (D4.dr.out nt) upd_same
  obtain ⟨mo, hmo, hat⟩ : ∃ mo : Nat, mo ≤ 6 ∧ atI ([.int 4, .int 4, .int 5, .int 6] : List V) z = some (.int (mo : Int)) := by
    have hz : z = 0 ∨ z = 1 ∨ z = 2 ∨ z = 3 := by omega
    rcases hz with rfl | rfl | rfl | rfl
    · exact ⟨4, by decide, rfl⟩
    · exact ⟨4, by decide, rfl⟩
    · exact ⟨5, by decide, rfl⟩
    · exact ⟨6, by decide, rfl⟩
  refine ⟨pt, _, z, _, rfl, rfl, SqL.of hpt, hat, ?_⟩
  refine gn ?_
  dsimp only
  have hm5 : SqT K H5 pm (ws.map wV) := (D4.new (o := .lst [.int 4, .int 4, .int 5, .int 6]) nt).dr.t D5.bt (ex_t (Ex.new nt) (SqT.of hm4))
  -- two programs
  refine ⟨_, rfl, _, rfl, _, rfl, h, l, n, mo, rfl, D5.dr, hn0, hn4, by omega, fun p us ds H6 np hp6 hP6 hl6 hok6 D6 => ⟨_, rfl, _, rfl, _, rfl, h, l, n, mo, rfl, D6.dr, hn0, hn4, by omega, fun q xs es H7 nq hq7 hX7 hl7 hok7 D7 => ⟨_, _, rfl, ?_⟩⟩⟩
  dsimp only
  have hp7 : H7 p = some (.lst us) := D7.bt _ _ (D5.dr.out np) hp6
  have hP7 : PV K H7 us ds := D6.dr.pv D7.bt hP6
  have hm7 : SqT K H7 pm (ws.map wV) := D6.dr.t D7.bt (D5.dr.t D6.bt hm5)
  have np0 : ¬ p ∈ [h, l] := D5.dr.out np
  have nq0 : ¬ q ∈ [h, l] := D6.dr.out nq
  have D7 := D7.dr
  clear D6 D5 D4 D3 D1 hp6 hP6 hm5 hm4 hpt
  have okd : ∀ d ∈ ds, d.ok ws.length := by rw [hl4]; exact hok6
  have oke : ∀ d ∈ es, d.ok ws.length := by rw [hl4]; exact hok7
  have w1 : 1 ≤ ws.length := by omega
  have w4 : ws.length ≤ 4 := by omega
  have lu := hP7.length
  have lx := hX7.length
  -- the dict
  refine fun kd nk => gn ?_
  dsimp only
  have nk0 : ¬ kd ∈ [h, l] := D7.out nk
  have D8 := (Drew.refl D7).put (o := DicO P w kd []) D7 nk
  have hk8 := upd_same (H := H7) (a := kd) (o := DicO P w kd [])
  have hp8 := (Ex.new (o := DicO P w kd []) nk) _ _ hp7
  have hq8 := (Ex.new (o := DicO P w kd []) nk) _ _ hq7
  generalize upd H7 kd (DicO P w kd []) = H8 at D8 hk8 hp8 hq8 ⊢
  refine q_forX (R := fun lo H9 => H8 lo = none ∧ Ex H8 H9 ∧ H9 lo = some (.lst ((ordersF 12 us.length xs.length).map fun o => V.str (oS o)))) (fun Q z => ⟨_, rfl, p, us, rfl, .inl (SqL.of hp8), _, rfl, q, xs, rfl, .inl (SqL.of hq8), us.length, xs.length, rfl, by show us.length + xs.length ≤ 12; omega, by omega, fun l H' nl f hl => z l H' ⟨nl, f, hl⟩⟩) fun lo H9 ⟨nlo, f9, hlo⟩ => ?_
  rw [ordersF_eq _ _ (by omega) (by omega), lu, lx] at hlo
  have few := ordersD_few ds.length es.length (by omega) (by omega)
  have good : ∀ o ∈ ordersD ds.length es.length, o.count false = ds.length ∧ o.count true = es.length := fun o ho => ordersD_mem.mp ho
  have hF : ∀ y, firstD ws ds es y = (ordersD ds.length es.length).find? fun o => decide (res ws ds es o = y) := fun _ => rfl
  generalize hos : ordersD ds.length es.length = os at hlo few good hF
  have nlk : lo ≠ kd := (ne_of_none hk8 nlo).symm
  have nlo0 : ¬ lo ∈ [h, l] := D8.dr.out nlo
  refine q_forLn (xs := os.map fun o => V.str (oS o)) ev_c (SqL.of hlo) (fun i σ' H' => ∃ v8 v9 : Option V, σ' = [some (V.ref a), some (.ref h), some (.int (n : Int)), some (.ref pm), some (.int (mo : Int)), some (.ref p), some (.ref q), some (.ref kd), v8, v9, none, none, none, none, none, none, none, none, none] ∧ Drew H7 H' h l ∧ H' lo = some (.lst (os.map fun o => V.str (oS o))) ∧
      ∃ L : DicL, H' kd = some (DicO P w kd L) ∧ (∀ p ∈ L, NT K H' p.1.1 p.1.2) ∧ L.length ≤ i ∧ ∀ y, valD L y = ((os.take i).find? fun o => decide (res ws ds es o = y)).map oS)
    (fun H10 f10 => ⟨_, _, rfl, D8.of_ex (f9.trans f10), f10 _ _ hlo, [], f10 _ _ (f9 _ _ hk8), (fun _ z => nomatch z), Nat.le_refl _, fun y => by rw [List.take_zero]; rfl⟩) (fun i σ' H' _ ⟨_, _, _, _, z, _⟩ => SqL.of z) ?_ ?_
  · rintro i y σ' H' hy ⟨v8, v9, rfl, D', hlo', L, hkd, hL, len, hv⟩
    have hi : i < os.length := by have := (List.getElem?_eq_some_iff.mp hy).1; simpa using this
    obtain ⟨o, ho⟩ : ∃ o, os[i]? = some o := ⟨os[i], List.getElem?_eq_getElem hi⟩
    have ey : y = .str (oS o) := by
      rw [List.getElem?_map, ho] at hy
      exact (Option.some.inj hy).symm
    subst ey
    obtain ⟨c1, c2⟩ := good o (List.mem_of_getElem? ho)
    have hm' := D7.t D'.bt hm7
    have hp' := D'.bt _ _ np0 hp7
    have hq' := D'.bt _ _ nq0 hq7
    have hP' := D7.pv D'.bt hP7
    have hX' := D7.pv D'.bt hX7
    refine ⟨_, rfl, _, rfl, _, rfl, _, rfl, pm, p, q, ws, us, xs, ds, es, o, rfl, hm', hs4, SqL.of hp', hP', by omega, okd, SqL.of hq', hX', by omega, oke, c1, c2, fun v Y tv f => ?_⟩
    refine gn ?_
    dsimp only
    obtain ⟨b, rfl, nt⟩ := NT.of tv
    have nt : NT K Y b (res ws ds es o) := nt
    refine q_dset (i := 7) (j := 9) (k := 8) rfl rfl rfl (f _ _ hkd) (fun p hp => (hL p hp).mono f) nt (by omega) fun L' hv' mem' len' => ?_
    have ro : ResOk ws.length (res ws ds es o) := res_ok hs4 okd oke (by have := cnt_both o; omega)
    have DX : Drew H7 (upd Y kd (DicO P w kd L')) h l := (D'.of_ex f).put D7 nk
    have loX : (upd Y kd (DicO P w kd L')) lo = some (.lst (os.map fun o => V.str (oS o))) := by rw [upd_ne nlk]; exact f _ _ hlo'
    have kdX := upd_same (H := Y) (a := kd) (o := DicO P w kd L')
    have ntX : NT K (upd Y kd (DicO P w kd L')) b (res ws ds es o) := nt.setD (f _ _ hkd)
    have LX : ∀ p ∈ L', NT K (upd Y kd (DicO P w kd L')) p.1.1 p.1.2 := fun p hp => by
      rcases mem' p hp with hp | e
      · exact ((hL p hp).mono f).setD (f _ _ hkd)
      · rw [e]
        exact ntX
    generalize upd Y kd (DicO P w kd L') = X1 at DX loX kdX ntX LX ⊢
    have DX0 := DX.dr
    refine s_whenX (R := fun H2 => Drew X1 H2 h l) (fun Q z => ⟨_, rfl, h, l, 20, rfl, DX0, by decide, by decide, fun c H3 c0 c1' D3 => ⟨rfl, decide (V.int c = V.int 0), rfl, ?_⟩⟩) (fun H2 D2 => ?_)
    · cases hb : decide (V.int c = V.int 0)
      · exact z H3 D3
      · have D3' := DX.trans D3
        have hm3 := D7.t D3'.bt hm7
        have hp3 := D3'.bt _ _ np0 hp7
        have hq3 := D3'.bt _ _ nq0 hq7
        have hP3 := D7.pv D3'.bt hP7
        have hX3 := D7.pv D3'.bt hX7
        have nt3 := ntX.bt DX0 D3.bt
        rw [if_pos rfl]
        refine (et_is (et_not (a := true) (fun H11 f11 Q z => ⟨_, rfl, _, rfl, _, rfl, _, rfl, pm, p, q, ws, us, xs, ds, es, o, rfl, ex_t f11 hm3, w1, w4, hs4, SqL.of (f11 _ _ hp3), hP3.mono f11, by omega, okd, SqL.of (f11 _ _ hq3), hX3.mono f11, by omega, oke, c1, c2, fun v Y2 tv f2 => ⟨_, rfl, ?_⟩⟩)) rfl) H3 (Ex.refl _) Q (fun H4 f4 => z H4 (D3.of_ex f4))
        obtain ⟨bb, rfl, nb⟩ := NT.of tv
        show sp_law_alike K 4 [.ref bb, .ref b] Y2 (fun x H1 => ∃ c, x = V.bl c ∧ Q c H1) E0
        exact sp_law_alike_v (K := K) nb.dp (nt3.mono (f11.trans f2)).dp ((ro.nice w4).mono (by decide : 2 ≤ 3)) Y2 (Ex.refl _) _ (fun H13 f13 => ⟨_, rfl, z H13 (f2.trans f13)⟩) _
    · exact ⟨_, _, rfl, DX.trans D2, D2.bt _ _ nlo0 loX, L', D2.bt _ _ nk0 kdX, (fun p hp => (LX p hp).bt DX0 D2.bt), by omega, first_step ho hv hv'⟩
  rintro σ' H' ⟨v8, v9, rfl, D', hlo', L, hkd, hL, len, hv⟩
  rw [List.length_map] at len hv
  rw [List.take_of_length_le (Nat.le_refl _)] at hv
  have fv : ∀ y, valD L y = (firstD ws ds es y).map oS := fun y => by rw [hv y, hF y]
  have hm := D7.t D'.bt hm7
  have hp := D'.bt _ _ np0 hp7
  have hq := D'.bt _ _ nq0 hq7
  have hP := D7.pv D'.bt hP7
  have hX := D7.pv D'.bt hX7
  have DH := D'.dr
  clear hv D' D8 D7 hm7 hp7 hq7 hP7 hX7 hk8 hp8 hq8 f9 hlo hlo' nlk nlo nlo0 nk
  have rok : ∀ x, (∃ o ∈ os, res ws ds es o = x) → ResOk ws.length x := fun x ⟨o, ho, e⟩ => by
    obtain ⟨c1, c2⟩ := good o ho
    rw [← e]
    exact res_ok hs4 okd oke (by have := cnt_both o; omega)
  have mf : ∀ x, x ∈ (L.map (·.1)).map (·.2) ↔ ∃ o ∈ os, res ws ds es o = x := fun x => by
    rw [mem_valD, fv x, hF x, Ne, Option.map_eq_none_iff, List.find?_eq_none]
    constructor
    · intro z
      apply Classical.byContradiction
      intro y
      exact z fun o ho q => y ⟨o, ho, by simpa using q⟩
    · rintro ⟨o, ho, e⟩ z
      exact z o ho (by simp [e])
  refine q_forR1 (n := 2) (by walk_at "ea") (by decide) (fun _ σ' H'' => ∃ v10 v11 : Option V, σ' = [some (V.ref a), some (.ref h), some (.int (n : Int)), some (.ref pm), some (.int (mo : Int)), some (.ref p), some (.ref q), some (.ref kd), v8, v9, v10, v11, none, none, none, none, none, none, none] ∧ Ex H' H'')
    (fun H10 f10 => ⟨_, _, rfl, f10⟩) ?_ ?_
  · rintro i σ' H10 hi ⟨v10, v11, rfl, f10⟩
    refine ⟨_, rfl, _, rfl, _, rfl, pm, p, q, ws, us, xs, ds, es, rfl, ex_t f10 hm, w1, w4, hs4, SqL.of (f10 _ _ hp), hP.mono f10, by omega, okd, SqL.of (f10 _ _ hq), hX.mono f10, by omega, oke, fun lf M Y nl f hlf hM came srt nd lenM => ?_⟩
    rw [hos] at came
    refine gn ?_
    dsimp only
    have f10Y := f10.trans f
    refine q_when (b := false) (et_is (et_not (a := true) (fun H11 f11 Q z => ⟨_, rfl, _, rfl, kd, L, rfl, (f10Y.trans f11) _ _ hkd, (fun p hp => (hL p hp).mono (f10Y.trans f11)), by omega, fun M2 p2 pm2 srt2 nd2 np2 => ?_⟩)) rfl) (fun z => nomatch z) (fun _ H11 f11 => ?_)
    · have x2 := Ex.new (o := .lst (M2.map fun q => V.ref q.1)) np2
      have same : M.map (·.2) = M2.map (·.2) := srt_same srt srt2 nd nd2 fun x => by rw [came x, ← mf x, (pm2.map (·.2)).mem_iff]
      have nice : Nice 3 (.list ((M.map (·.2)).map enc3)) := .lst (by rw [List.length_map, List.length_map]; omega) fun d hd => by
        obtain ⟨x, hx, rfl⟩ := List.mem_map.mp hd
        exact (rok x ((came x).mp hx)).nice w4
      have hM2 : ∀ q ∈ M2, NT K (upd H11 p2 (.lst (M2.map fun q => V.ref q.1))) q.1 q.2 := fun q hq => by
        obtain ⟨l, hl, e⟩ := List.mem_map.mp (pm2.mem_iff.mp hq)
        rw [← e]
        exact (hL l hl).mono ((f10Y.trans f11).trans x2)
      have dp2 : Dp K (upd H11 p2 (.lst (M2.map fun q => V.ref q.1))) (.ref p2) (.list ((M.map (·.2)).map enc3)) := by
        rw [same]
        exact .lst (SqL.of upd_same) (dpa_M hM2)
      have dp1 : Dp K (upd H11 p2 (.lst (M2.map fun q => V.ref q.1))) (.ref lf) (.list ((M.map (·.2)).map enc3)) := .lst (SqL.of (x2 _ _ (f11 _ _ hlf))) (dpa_M fun q hq => (hM q hq).mono (f11.trans x2))
      show sp_law_alike K 4 [.ref lf, .ref p2] _ (fun x H1 => ∃ c, x = V.bl c ∧ Q c H1) E0
      exact sp_law_alike_v (K := K) dp1 dp2 nice _ (Ex.refl _) _ (fun H13 f13 => ⟨_, rfl, z H13 (x2.trans f13)⟩) _
    · refine s_appQ (xs := []) (f11 _ _ hlf) (ev_var rfl) (eq_U (eu_tup ea_nil (by decide))) (by rw [List.length_map]; omega) fun p3 H12 f12 h3 => ⟨_, _, rfl, ((f10Y.trans f11).trans f12).mut (fresh_back f10 nl)⟩
  rintro σ' H10 ⟨v10, v11, rfl, f10⟩
  refine q_forXg (R := fun l2 H12 => H10 l2 = none ∧ Ex H10 H12 ∧ ∃ M : List (Addr × T3), H12 l2 = some (.lst ((M.map fun q => V.ref q.1).take 12)) ∧ (∀ q ∈ M, NT K H12 q.1 q.2) ∧ ∀ q ∈ M, q.2 ∈ (L.map (·.1)).map (·.2)) (fun Q z => ⟨_, rfl, kd, L, rfl, f10 _ _ hkd, (fun p hp => (hL p hp).mono f10), by omega, fun M2 p2 pm2 srt2 nd2 np2 => ?_⟩) fun l2 H12 ⟨nl2, f12, M, hl2, hM, mem⟩ => ?_
  · have x2 := Ex.new (o := .lst (M2.map fun q => V.ref q.1)) np2
    refine (el_sl (K := K) (σ := []) (te := tC (.ref p2)) (lo := none) (hi := some ((12 : Nat) : Int)) ev_c eo_none (eo_some (ev_c (v := .int 12))) (SqL.of upd_same)) _ (Ex.refl _) Q fun l2 H2 nl2 f2 hl2 => z l2 H2 ⟨fresh_back x2 nl2, x2.trans f2, M2, by rw [hl2, cutV_to], fun q hq => ?_, fun q hq => ?_⟩
    · obtain ⟨l, hl, e⟩ := List.mem_map.mp (pm2.mem_iff.mp hq)
      rw [← e]
      exact (hL l hl).mono ((f10.trans x2).trans f2)
    · exact (pm2.map (·.2)).mem_iff.mp (List.mem_map.mpr ⟨q, hq, rfl⟩)
  have f12' := f10.trans f12
  have nl0 : ¬ l2 ∈ [h, l] := (DH.mono f10).out nl2
  replace hm := ex_t f12' hm
  replace hp := f12' _ _ hp
  replace hq := f12' _ _ hq
  replace hP := hP.mono f12'
  replace hX := hX.mono f12'
  replace DH := DH.mono f12'
  replace hkd := f12' _ _ hkd
  replace hL : ∀ p ∈ L, NT K H12 p.1.1 p.1.2 := fun p hp => (hL p hp).mono f12'
  clear f12' f12 f10
  refine q_forL ev_c (SqL.of hl2) (fun i σ' H'' => ∃ v12 v13 v14 v15 v16 v17 v18 : Option V, σ' = [some (V.ref a), some (.ref h), some (.int (n : Int)), some (.ref pm), some (.int (mo : Int)), some (.ref p), some (.ref q), some (.ref kd), v8, v9, v10, v11, v12, v13, v14, v15, v16, v17, v18] ∧ Drew H12 H'' h l)
    (fun H13 f13 => ⟨_, _, _, _, _, _, _, rfl, (Drew.refl DH).of_ex f13⟩) (fun i σ' H'' _ ⟨_, _, _, _, _, _, _, _, z⟩ => SqL.of (z.bt _ _ nl0 hl2)) ?_ (fun σ' H'' _ => ?_)
  · rintro i x σ' H13 hx ⟨v12, v13, v14, v15, v16, v17, v18, rfl, D13⟩
    obtain ⟨b, x3, hbM, rfl⟩ : ∃ b x3, (b, x3) ∈ M ∧ x = .ref b := by
      have z := List.mem_of_mem_take (List.mem_of_getElem? hx)
      obtain ⟨q, hq, e⟩ := List.mem_map.mp z
      exact ⟨q.1, q.2, hq, e.symm⟩
    obtain ⟨sa, oa, ma, h1, h2, h3, h4⟩ := (hM _ hbM).bt DH D13.bt
    have h1 : SqT K H13 b [.ref sa, .ref oa, .ref ma] := h1
    have h2 : SqT K H13 sa (x3.1.map wV) := h2
    have h3 : SqT K H13 oa (x3.2.1.map wV) := h3
    have h4 : SqT K H13 ma (x3.2.2.map wV) := h4
    have hin : x3 ∈ (L.map (·.1)).map (·.2) := mem _ hbM
    have ro := rok x3 ((mf x3).mp hin)
    obtain ⟨o, ho⟩ : ∃ o, firstD ws ds es x3 = some o := by
      have z := mem_valD.mp hin
      rw [fv x3] at z
      cases e : firstD ws ds es x3 with
      | none => rw [e] at z; exact absurd rfl z
      | some o => exact ⟨o, rfl⟩
    have hval : valD L x3 = some (oS o) := by rw [fv x3, ho]; rfl
    have roa := ro.a
    have rob := ro.b
    have roc := ro.c
    refine ⟨b, _, rfl, h1, rfl, _, _, rfl, _, _, rfl, _, _, rfl, rfl, ?_⟩
    dsimp only
    replace hm := DH.t D13.bt hm
    replace hp := D13.bt _ _ np0 hp
    replace hq := D13.bt _ _ nq0 hq
    replace hP := DH.pv D13.bt hP
    replace hX := DH.pv D13.bt hX
    replace hkd := D13.bt _ _ nk0 hkd
    replace hL : ∀ p ∈ L, NT K H13 p.1.1 p.1.2 := fun p hp => (hL p hp).bt DH D13.bt
    -- handed
    refine ⟨_, rfl, sa, _, rfl, .inr h2, fun l1 n1 => ⟨_, rfl, oa, _, rfl, .inr (ex_t (Ex.new n1) h3), fun l2' n2 => ⟨by show 2 ≤ sizeLine; decide, fun th nth => ?_⟩⟩⟩
    refine gn ?_
    dsimp only
    have x1 := Ex.new (H := H13) (o := .lst (x3.1.map wV)) n1
    have x2 := Ex.new (o := .lst (x3.2.1.map wV)) n2
    have x3' := Ex.new (o := .tup [.ref l1, .ref l2']) nth
    have g14 := (x1.trans x2).trans x3'
    have hl1 := x3' _ _ (x2 _ _ (upd_same (H := H13) (a := l1) (o := .lst (x3.1.map wV))))
    have hl2' := x3' _ _ (upd_same (H := upd H13 l1 (.lst (x3.1.map wV))) (a := l2') (o := .lst (x3.2.1.map wV)))
    have hth := upd_same (H := upd (upd H13 l1 (.lst (x3.1.map wV))) l2' (.lst (x3.2.1.map wV))) (a := th) (o := .tup [.ref l1, .ref l2'])
    generalize upd (upd (upd H13 l1 (.lst (x3.1.map wV))) l2' (.lst (x3.2.1.map wV))) th (.tup [.ref l1, .ref l2']) = H14 at g14 hl1 hl2' hth ⊢
    clear x1 x2 x3' nth n2 n1
    replace h2 := ex_t g14 h2
    replace h3 := ex_t g14 h3
    replace h4 := ex_t g14 h4
    replace hm := ex_t g14 hm
    replace hp := g14 _ _ hp
    replace hq := g14 _ _ hq
    replace hP := hP.mono g14
    replace hX := hX.mono g14
    replace hkd := g14 _ _ hkd
    replace hL : ∀ p ∈ L, NT K H14 p.1.1 p.1.2 := fun p hp => (hL p hp).mono g14
    have D14 := D13.of_ex g14
    -- explained
    refine q_when (b := false) (et_is (et_not (a := true) (fun H15 f15 Q z => ⟨_, rfl, _, rfl, _, rfl, _, rfl, th, _, 0, _, rfl, rfl, SqT.of (f15 _ _ hth), rfl, _, rfl, th, _, 1, _, rfl, rfl, SqT.of (f15 _ _ hth), rfl, _, rfl, pm, p, q, l1, l2', ma, ws, us, xs, ds, es, x3, rfl, ex_t f15 hm, w1, w4, hs4, SqL.of (f15 _ _ hp), hP.mono f15, by omega, okd, SqL.of (f15 _ _ hq), hX.mono f15, by omega, oke,
      SqL.of (f15 _ _ hl1), by omega, ro.a3, SqL.of (f15 _ _ hl2'), by omega, ro.b3, ex_t f15 h4, roc, ro.c3, fun H16 f16 => ?_⟩)) rfl) (fun z => nomatch z) (fun _ H15 f15 => ?_)
    · have f := f15.trans f16
      rw [ho]
      refine ⟨_, rfl, _, rfl, _, rfl, _, rfl, by show 3 ≤ sizeLine; decide, fun kt nkt => ⟨kd, kt, x3, L, oS o, rfl, rfl, Ex.new nkt _ _ (f _ _ hkd), (fun p hp => (hL p hp).mono (f.trans (Ex.new nkt))), ⟨sa, oa, ma, SqT.of upd_same, ex_t (f.trans (Ex.new nkt)) h2, ex_t (f.trans (Ex.new nkt)) h3, ex_t (f.trans (Ex.new nkt)) h4⟩, hval, ?_⟩⟩
      show sp_law_alike K 4 [.str (oS o), .str (oS o)] _ (fun x H1 => ∃ c, x = V.bl c ∧ Q c H1) E0
      exact sp_law_alike_v (K := K) (.str _) (.str _) (.str (strOk_oS o)) _ (Ex.refl _) _ (fun H13 f13 => ⟨_, rfl, z H13 ((f16.trans (Ex.new nkt)).trans f13)⟩) _
    -- what was handed in stays
    have dth : Dp K H15 (.ref th) (.tuple [.list (wD x3.1), .list (wD x3.2.1)]) := .tup (SqT.of (f15 _ _ hth)) (.cons (.lst (SqL.of (f15 _ _ hl1)) (dpa_w _)) (.cons (.lst (SqL.of (f15 _ _ hl2')) (dpa_w _)) .nil))
    have sh2 : Sh 2 (.tuple [.list (wD x3.1), .list (wD x3.2.1)]) := sh_tup fun d hd => by
      simp only [List.mem_cons, List.not_mem_nil, or_false] at hd
      rcases hd with rfl | rfl <;> exact sh_w _
    refine q_when (b := false) (et_neD (ed_ev (ev_var rfl) dth) (fun H16 f16 Q z => ⟨_, rfl, sa, _, rfl, .inr (ex_t (f15.trans f16) h2), fun m1 k1 => ⟨_, rfl, oa, _, rfl, .inr (ex_t ((f15.trans f16).trans (Ex.new k1)) h3), fun m2 k2 => ⟨by show 2 ≤ sizeLine; decide, fun mt kt => z _ _ (((Ex.new k1).trans (Ex.new k2)).trans (Ex.new kt)) ?_⟩⟩⟩) sh2 (by decide)) (fun z => nomatch z) (fun _ H16 f16 => ?_)
    · exact .tup (SqT.of upd_same) (.cons (.lst (SqL.of (Ex.new kt _ _ (Ex.new k2 _ _ upd_same))) (dpa_w _)) (.cons (.lst (SqL.of (Ex.new kt _ _ upd_same)) (dpa_w _)) .nil))
    clear dth sh2 hth hl1 hl2' h1 g14
    have g16 := f15.trans f16
    replace h2 := ex_t g16 h2
    replace h3 := ex_t g16 h3
    replace h4 := ex_t g16 h4
    replace hm := ex_t g16 hm
    replace hp := g16 _ _ hp
    replace hq := g16 _ _ hq
    replace hP := hP.mono g16
    replace hX := hX.mono g16
    replace hkd := g16 _ _ hkd
    replace hL : ∀ p ∈ L, NT K H16 p.1.1 p.1.2 := fun p hp => (hL p hp).mono g16
    have D16 := D14.of_ex g16
    clear D14 f15 f16 g16
    -- told otherwise
    have s1 : EvP K (tTup (tCons (tOp (rCatA K) (tVar 12) (tTup (tCons (tC (.int 1)) tNil))) (tCons (tVar 13) tNil))) [some (V.ref a), some (.ref h), some (.int (n : Int)), some (.ref pm), some (.int (mo : Int)), some (.ref p), some (.ref q), some (.ref kd), v8, v9, v10, v11, some (.ref sa), some (.ref oa), some (.ref ma), some (.ref th), v16, v17, v18] H16 ((x3.1 ++ [1]).map wV) (x3.2.1.map wV) :=
      ep_tup (eq_is (eq_catA (eq_ev (ev_var rfl) h2) (eq_U (eu_tup (ea_cons (ev_c (v := .int 1)) ea_nil) (by simp))) (by rw [List.length_map]; show _ + 1 ≤ 100000; omega)) (by rw [List.map_append]; rfl)) (eq_ev (ev_var rfl) h3)
    have s2 : EvP K (tTup (tCons (tSl (rSlA K) (tVar 12) (tPart (tC (.int 1))) tNoPart) (tCons (tVar 13) tNil))) [some (V.ref a), some (.ref h), some (.int (n : Int)), some (.ref pm), some (.int (mo : Int)), some (.ref p), some (.ref q), some (.ref kd), v8, v9, v10, v11, some (.ref sa), some (.ref oa), some (.ref ma), some (.ref th), v16, v17, v18] H16 ((x3.1.drop 1).map wV) (x3.2.1.map wV) :=
      ep_tup (eq_is (eq_slA (ev_var rfl) (eo_some (ev_c (v := .int 1))) eo_none h2) (by rw [cut_tail, List.map_drop])) (eq_ev (ev_var rfl) h3)
    have s3 : EvP K (tTup (tCons (tVar 12) (tCons (tCB (fun xs H Q => ∃ p ys, xs = [V.ref p] ∧ ((SqL K H p ys ∧ ∀ l, H l = none → Q (.ref l) (upd H l (.tup ys))) ∨ (SqT K H p ys ∧ Q (.ref p) H))) (tCons (tLc (iTup K (tVar 13)) (gName 17) tYes (tOp (fun x y H Q => ∃ i j, x = .int i ∧ y = .int j ∧ Q (.int (i - j)) H) (tC (.int 2)) (tVar 17)) [17]) tNil)) tNil))) [some (V.ref a), some (.ref h), some (.int (n : Int)), some (.ref pm), some (.int (mo : Int)), some (.ref p), some (.ref q), some (.ref kd), v8, v9, v10, v11, some (.ref sa), some (.ref oa), some (.ref ma), some (.ref th), v16, v17, v18] H16 (x3.1.map wV) ((x3.2.1.map (2 - ·)).map wV) :=
      ep_tup (eq_ev (ev_var rfl) h2) (eq_U (eu_tupleOf (el_minus (ev_var rfl) h3 (by omega) (fun _ => rfl) ro.b3 (fun m H1 hm e => ev_op (x := .int 2) (y := .int (m : Int)) ev_c (ev_var rfl) rv_I0))))
    refine q_asg3 s1 s2 s3 fun lo t1 t2 t3 H17 nlo f17 hlo p1 p2 p3 => ?_
    clear s1 s2 s3
    have nlo0 : ¬ lo ∈ [h, l] := D16.dr.out nlo
    have D17 := D16.of_ex f17
    replace h4 := ex_t f17 h4
    replace hm := ex_t f17 hm
    replace hp := f17 _ _ hp
    replace hq := f17 _ _ hq
    replace hP := hP.mono f17
    replace hX := hX.mono f17
    replace hkd := f17 _ _ hkd
    replace hL : ∀ p ∈ L, NT K H17 p.1.1 p.1.2 := fun p hp => (hL p hp).mono f17
    refine ⟨_, rfl, _, rfl, h, l, 3, rfl, D17.dr, by decide, by decide, fun c H18 c0 c1 D18 => ?_⟩
    obtain ⟨t, A3, B3, hat, hpr, la3, lb3, a3, b3⟩ : ∃ (t : Addr) (A B : List Nat), atI ([.ref t1, .ref t2, .ref t3] : List V) c = some (.ref t) ∧ PrT K H18 t A B ∧ A.length ≤ 1000 ∧ B.length ≤ 1000 ∧ (∀ y ∈ A, y < 3) ∧ ∀ y ∈ B, y < 3 := by
      have hc : c = 0 ∨ c = 1 ∨ c = 2 := by omega
      rcases hc with rfl | rfl | rfl
      · exact ⟨t1, _, _, rfl, p1.bt D17.dr D18.bt, by rw [List.length_append]; show _ + 1 ≤ 1000; omega, by omega, (fun y hy => by
          rcases List.mem_append.mp hy with hy | hy
          · exact ro.a3 y hy
          · rw [List.mem_singleton.mp hy]; decide), ro.b3⟩
      · exact ⟨t2, _, _, rfl, p2.bt D17.dr D18.bt, by rw [List.length_drop]; omega, by omega, (fun y hy => ro.a3 y (List.mem_of_mem_drop hy)), ro.b3⟩
      · exact ⟨t3, _, _, rfl, p3.bt D17.dr D18.bt, by omega, by rw [List.length_map]; omega, ro.a3, fun y hy => by
          obtain ⟨u, _, rfl⟩ := List.mem_map.mp hy
          omega⟩
    refine ⟨lo, _, c, _, rfl, rfl, SqL.of (D18.bt _ _ nlo0 hlo), hat, ?_⟩
    replace h4 := D17.dr.t D18.bt h4
    replace hm := D17.dr.t D18.bt hm
    replace hp := D18.bt _ _ np0 hp
    replace hq := D18.bt _ _ nq0 hq
    replace hP := D17.dr.pv D18.bt hP
    replace hX := D17.dr.pv D18.bt hX
    replace hkd := D18.bt _ _ nk0 hkd
    replace hL : ∀ p ∈ L, NT K H18 p.1.1 p.1.2 := fun p hp => (hL p hp).bt D17.dr D18.bt
    have D18' := D17.trans D18
    have DD := D18.dr
    clear p1 p2 p3 hlo nlo0 nlo D17 D18 f17 hat h2 h3
    -- the memory at last, told otherwise
    refine ⟨_, rfl, ma, rfl, ⟨_, h4⟩, fun Dl hD => ?_⟩
    have nD0 : ¬ Dl ∈ [h, l] := DD.out hD
    refine lc_tup (xs := x3.2.2.map wV) (fun i X => ∃ W : List Nat, X Dl = some (.lst (W.map wV)) ∧ W.length = i ∧ (∀ y ∈ W, y < 3) ∧ Drew H18 X h l) ⟨[], upd_same, rfl, (fun _ z => nomatch z), (Drew.refl DD).put DD hD⟩ (fun i X _ ⟨_, _, _, _, z⟩ => DD.t z.bt h4) ?_ ?_
    · rintro i z X hz ⟨W, e1, e2, e3, e4⟩
      have hi : i < x3.2.2.length := by have := (List.getElem?_eq_some_iff.mp hz).1; simpa using this
      refine ⟨rfl, ?_⟩
      refine ⟨_, rfl, h, l, 3, rfl, e4.dr, by decide, by decide, fun r X2 r0 r1 g => ?_⟩
      obtain ⟨r, rfl⟩ : ∃ j : Nat, r = (j : Int) := ⟨r.toNat, by omega⟩
      refine ⟨W.map wV, g.bt _ _ nD0 e1, by rw [List.length_map, sizeLine_eq]; omega, W ++ [r], by rw [upd_same, List.map_append]; rfl, by rw [List.length_append, e2]; rfl, fun y hy => ?_, (e4.trans g).put DD hD⟩
      rcases List.mem_append.mp hy with hy | hy
      · exact e3 y hy
      · rw [List.mem_singleton.mp hy]; omega
    rintro X ⟨W, e1, e2, e3, e4⟩
    rw [List.length_map] at e2
    obtain ⟨a', b', q1, q2, q3⟩ := hpr.bt DD e4.bt
    refine ⟨Dl, _, rfl, .inl ⟨SqL.of e1, fun wt nwt => ⟨by show 1 ≤ sizeLine; decide, fun ut nut => ?_⟩⟩⟩
    have y1 := Ex.new (H := X) (o := .tup (W.map wV)) nwt
    have y2 := Ex.new (o := .tup [.ref wt]) nut
    refine ⟨t, ut, [.ref a', .ref b'], [.ref wt], rfl, rfl, ex_t (y1.trans y2) q1, SqT.of upd_same, (fun z => nomatch z), by show 2 + 1 ≤ sizeLine; decide, (fun z => nomatch z), fun _ t4 nt4 => ?_⟩
    refine gn ?_
    dsimp only
    have y3 := Ex.new (o := .tup ([.ref a', .ref b'] ++ [.ref wt])) nt4
    have f19 := (y1.trans y2).trans y3
    have hwt := y3 _ _ (y2 _ _ (upd_same (H := X) (a := wt) (o := .tup (W.map wV))))
    have ht4 := upd_same (H := upd (upd X wt (.tup (W.map wV))) ut (.tup [.ref wt])) (a := t4) (o := .tup ([.ref a', .ref b'] ++ [.ref wt]))
    generalize upd (upd (upd X wt (.tup (W.map wV))) ut (.tup [.ref wt])) t4 (.tup ([.ref a', .ref b'] ++ [.ref wt])) = H19 at f19 hwt ht4 ⊢
    have ht4 : H19 t4 = some (.tup [.ref a', .ref b', .ref wt]) := ht4
    clear y1 y2 y3 nwt nut nt4
    replace q2 := ex_t f19 q2
    replace q3 := ex_t f19 q3
    have D19 := e4.of_ex f19
    replace hm := DD.t D19.bt hm
    replace hp := D19.bt _ _ np0 hp
    replace hq := D19.bt _ _ nq0 hq
    replace hP := DD.pv D19.bt hP
    replace hX := DD.pv D19.bt hX
    replace hkd := D19.bt _ _ nk0 hkd
    replace hL : ∀ p ∈ L, NT K H19 p.1.1 p.1.2 := fun p hp => (hL p hp).bt DD D19.bt
    have nt4' : NT K H19 t4 (A3, B3, W) := ⟨a', b', wt, SqT.of ht4, q2, q3, SqT.of hwt⟩
    have D20 := D18'.trans D19
    clear e4 D18' D19 DD h4
    refine s_when (b := false) (et_is (et_not (a := true) (fun H20 f20 Q z => ⟨_, rfl, _, rfl, _, rfl, _, rfl, t4, _, 0, _, rfl, rfl, SqT.of (f20 _ _ ht4), rfl, a', _, rfl, .inr (ex_t f20 q2), fun l1 n1 => ?_⟩)) rfl) (fun z => nomatch z) (fun _ H20 f20 => ⟨_, _, _, _, _, _, _, rfl, D20.of_ex f20⟩)
    have g1 := f20.trans (Ex.new (o := .lst (A3.map wV)) n1)
    refine ⟨_, rfl, t4, _, 1, _, rfl, rfl, SqT.of (g1 _ _ ht4), rfl, b', _, rfl, .inr (ex_t g1 q3), fun l2' n2 => ?_⟩
    have x2 := Ex.new (o := .lst (B3.map wV)) n2
    have g2 := g1.trans x2
    refine ⟨_, rfl, t4, _, 2, _, rfl, rfl, SqT.of (g2 _ _ ht4), rfl, pm, p, q, l1, l2', wt, ws, us, xs, ds, es, (A3, B3, W), rfl, ex_t g2 hm, w1, w4, hs4, SqL.of (g2 _ _ hp), hP.mono g2, by omega, okd, SqL.of (g2 _ _ hq), hX.mono g2, by omega, oke,
      SqL.of (x2 _ _ upd_same), la3, a3, SqL.of upd_same, lb3, b3, SqT.of (g2 _ _ hwt), e2.trans roc, e3, fun H21 f21 => ?_⟩
    have g3 := g2.trans f21
    refine ⟨_, rfl, kd, L, rfl, g3 _ _ hkd, _, rfl, t4, (A3, B3, W), L, rfl, g3 _ _ hkd, (fun p hp => (hL p hp).mono g3), nt4'.mono g3, ?_⟩
    have z3 := (Ex.new (H := H20) (o := .lst (A3.map wV)) n1).trans (x2.trans f21)
    rw [fv]
    cases firstD ws ds es (A3, B3, W) with
    | none =>
      show sp_law_alike K 4 [.non, .non] _ (fun x H1 => ∃ c, x = V.bl c ∧ Q c H1) E0
      exact sp_law_alike_v (K := K) .non .non .non _ (Ex.refl _) _ (fun H13 f13 => ⟨_, rfl, z H13 (z3.trans f13)⟩) _
    | some o' =>
      show sp_law_alike K 4 [.str (oS o'), .str (oS o')] _ (fun x H1 => ∃ c, x = V.bl c ∧ Q c H1) E0
      exact sp_law_alike_v (K := K) (.str _) (.str _) (.str (strOk_oS o')) _ (Ex.refl _) _ (fun H13 f13 => ⟨_, rfl, z H13 (z3.trans f13)⟩) _
  · exact k _

theorem all_mk {l : PySem.W.OpenLaw} {w : World} {K : PySem.W.Frag} {h : Heap} {mg : Str → Option Value} {fa f : Addr} {aR aW : Addr} {t4 t40 : Tok} {od an : Option Addr} {sl : Array (Option Value)} {oc kV dc pm cd ct : Value}
    (X : K.In h) (G : h.Ns mainGlobals mg) (hfa : mg "law" = some (.ref fa)) (T : Nb mg) (TP : TxP K mg aR aW t4 t40) {tl tr : Tok} (TO : TxO mg tl tr) {t6 : Tok} (TS : NbS mg) (O6 : TxO6 mg t6)
    (aL : PySem.W.nsIn K mainGlobals "law" = some (some (.ref f))) (lL : K.lookup f = some ⟨oc, od, .func (PySem.W.fnOf "law" "law" (defArgs s_law) (defBody s_law) (defScope s_law) .none kV dc pm an cd ct), sl⟩) (cL : PySem.W.codeIn K cd "law" = true) (kL : PySem.W.keepIn K (.ref f) = true)
    (h_is_whole : Has K mg "is_whole" s_is_whole) (h_is_cell : Has K mg "is_cell" s_is_cell) (h_is_worth : Has K mg "is_worth" s_is_worth) (h_is_deed : Has K mg "is_deed" s_is_deed) (h_check_cells : Has K mg "check_cells" s_check_cells) (h_check_memory : Has K mg "check_memory" s_check_memory) (h_check_program : Has K mg "check_program" s_check_program) (h_check_programs : HasD K mg "check_programs" s_check_programs [.int 40]) (h_read_cell : Has K mg "read_cell" s_read_cell) (h_write_cell : Has K mg "write_cell" s_write_cell) (h_check_order : Has K mg "check_order" s_check_order) (h_check_last : Has K mg "check_last" s_check_last) (h_check_few : Has K mg "check_few" s_check_few) (h_all_orders : Has K mg "all_orders" s_all_orders) (h_do_deed : Has K mg "do_deed" s_do_deed) (h_follow : Has K mg "follow" s_follow) (h_ordered : Has K mg "ordered" s_ordered) (h_explained : Has K mg "explained" s_explained) (h_outcomes : Has K mg "outcomes" s_outcomes) (h_law_mix : Has K mg "_law_mix" s_law_mix) (h_law_next : Has K mg "_law_next" s_law_next) (h_law_alike : Has K mg "_law_alike" s_law_alike) (h_law_deed : Has K mg "_law_deed" s_law_deed) (h_law_program : Has K mg "_law_program" s_law_program) (h_law_memory : Has K mg "_law_memory" s_law_memory) (h_law_order : Has K mg "_law_order" s_law_order) (h_law_orders : Has K mg "_law_orders" s_law_orders) :
    ∃ fd : FuncData, (∀ (s : Shared) (v : Value), BindsTo s fd ⟨[v], []⟩ [("_law_script", v)]) ∧ ∀ base : Heap, K.In base → base.Ns mainGlobals mg → FnOk l.prog w K mg base CX0 15 fa fd ["_law_script"] (sp_law K) := by
  have e := hfa.symm.trans (PySem.W.mg_of X G aL)
  cases e
  have F := fun_mk (st := s_law) lL cL kL
  refine ⟨PySem.W.fnOf "law" "law" (defArgs s_law) (defBody s_law) (defScope s_law) .none kV dc pm an cd ct, fun s v => .of_eq rfl, fun base _ _ => ?_⟩
  · have w1 := d_is_whole (P := l.prog) (w := w) (base := base) T h_is_whole
    have w2 := d_is_cell w1 h_is_cell
    have w3 := d_is_worth TP w1 h_is_worth
    have w4 := d_is_deed T TP w2 w3 h_is_deed
    have w5 := d_check_cells TP w1 h_check_cells
    have w6 := d_check_memory T w5 w3 h_check_memory
    have w7 := d_check_program T TP w4 h_check_program
    have w8 := d_check_programs w7 h_check_programs
    have w10 := d_read_cell (P := l.prog) (w := w) (base := base) h_read_cell
    have w11 := d_write_cell (P := l.prog) (w := w) (base := base) h_write_cell
    have v1 := d_law_mix (P := l.prog) (w := w) (base := base) T h_law_mix
    have v2 := d_law_next (P := l.prog) (w := w) (base := base) T h_law_next
    have v3 := d_law_deed T v2 h_law_deed
    have v4 := d_law_program T v2 v3 h_law_program
    have v5 := d_law_memory T v2 h_law_memory
    have v6 := d_law_alike (P := l.prog) (w := w) (base := base) T h_law_alike 4
    have v7 := d_law_order (P := l.prog) (w := w) (base := base) T h_law_order
    have v8 := d_law_orders (P := l.prog) (w := w) (base := base) T h_law_orders 13
    have x1 := d_check_order (P := l.prog) (w := w) (base := base) T TO h_check_order
    have x2 := d_do_deed w10 w11 h_do_deed
    have x3 := d_follow T TO x2 h_follow
    have x4 := d_ordered T w6 w8 x1 x3 h_ordered
    have x5 := d_check_last T w6 h_check_last
    have x6 := d_check_few (P := l.prog) (w := w) (base := base) T O6 h_check_few
    have x7 := d_all_orders (P := l.prog) (w := w) (base := base) T TO h_all_orders
    have x8 := d_explained (t6 := t6) T TS w6 w8 x5 x6 w3 x7 x3 h_explained
    have x9 := d_outcomes (t6 := t6) T TS w6 w8 x6 x7 x3 h_outcomes
    exact d_law (t6 := t6) T TS v1 v2 v5 v4 v7 v8 v6 x4 x8 x9 F
theorem walk {l : PySem.W.OpenLaw} {q : Program} {loose : List Str} {XP : (Str → Option Value) → Heap → Prop} {YP : World → Heap → Prop} {d : DefRec} {K : Params → PySem.W.Frag} (hn : l.most = some 63) (hdf : d.params.defaults = [])
    (hY : ∀ (w : World) (h : Heap), YP w h → (K w.params).In h)
    (F : ∀ (w : World) (mg : Str → Option Value) (fa : Addr) (h : Heap), (K w.params).In h → h.Ns mainGlobals mg → mg d.name = some (.ref fa) →
      ∃ fd : FuncData, (∀ (s : Shared) (u : Value), BindsTo s fd ⟨[u], []⟩ [("_law_script", u)]) ∧ ∀ base : Heap, (K w.params).In base → base.Ns mainGlobals mg → FnOk l.prog w (K w.params) mg base CX0 15 fa fd ["_law_script"] (sp_law (K w.params))) :
    PySem.W.WalkO q loose XP YP l.row.toRowW d [] (fun f vs => PySem.call f vs) :=
  L2.walk_of (n := 63) (k := 15) (x := "_law_script") (CX := fun _ => CX0) (sp := fun w => sp_law (K w.params)) hn (by decide) hdf ⟨rfl, by decide, by decide⟩ hY F (fun _ _ a ns hl _ hS => ⟨a, ns, rfl, hS, hl, fun _ => rfl⟩) fun _ _ _ _ _ z => z

end
end Db

open PySem PySem.W PyProof.Rows
set_option maxRecDepth 100000 in
set_option maxHeartbeats 0 in
theorem PySem.Challenge.cw_doorbeat_k08_whole_all_that_may_come_holds : PySem.Challenge.rw_doorbeat_k08_whole_all_that_may_come.Holds := by
  w_on; o_law; k_head; (case hw => w_witness2)
  k_fill
  refine Db.walk (l := PySem.Challenge.rw_doorbeat_k08_whole_all_that_may_come) rfl rfl (fun w h Y => PySem.W.kIn_of Y) ?F
  case F =>
    intro w mg fa h KX G hmg
    refine' Db.all_mk KX G hmg ?T ?TP ?TO ?TS ?O6 ?aL ?lL ?cL ?kL ?h_is_whole ?h_is_cell ?h_is_worth ?h_is_deed ?h_check_cells ?h_check_memory ?h_check_program ?h_check_programs ?h_read_cell ?h_write_cell ?h_check_order ?h_check_last ?h_check_few ?h_all_orders ?h_do_deed ?h_follow ?h_ordered ?h_explained ?h_outcomes ?h_law_mix ?h_law_next ?h_law_alike ?h_law_deed ?h_law_program ?h_law_memory ?h_law_order ?h_law_orders
    case T => refine' Db.nb_mk KX G ?b1 ?b2 ?b3 ?b4 ?b5 ?b6 ?b7 ?b8 ?b9 ?b10 ?b11 ?b12 <;> k_is
    case TP => (refine' Db.txp_mk KX G ?a1 ?l1 ?a2 ?l2 ?c4 ?c40; (case a1 => k_is); (case l1 => k_is); (case a2 => k_is); (case l2 => k_is); (case c4 => k_is); (case c40 => k_is))
    case TO => (refine' Db.txo_mk KX G ?a1 ?a2; (case a1 => k_is); (case a2 => k_is))
    (case TS => (refine' Db.nbs_mk KX G ?q0 ?q1; (case q0 => k_is); (case q1 => k_is)))
    (case O6 => (refine' Db.txo6_mk KX G ?q0; (case q0 => k_is)))
    (case aL => k_is)
    (case lL => k_is)
    (case cL => k_is)
    (case kL => k_is)
    case h_is_whole => (refine' Db.has_mk KX G ?a ?l ?c ?k; (case a => k_is); (case l => k_is); (case c => k_is); (case k => k_is))
    case h_is_cell => (refine' Db.has_mk KX G ?a ?l ?c ?k; (case a => k_is); (case l => k_is); (case c => k_is); (case k => k_is))
    case h_is_worth => (refine' Db.has_mk KX G ?a ?l ?c ?k; (case a => k_is); (case l => k_is); (case c => k_is); (case k => k_is))
    case h_is_deed => (refine' Db.has_mk KX G ?a ?l ?c ?k; (case a => k_is); (case l => k_is); (case c => k_is); (case k => k_is))
    case h_check_cells => (refine' Db.has_mk KX G ?a ?l ?c ?k; (case a => k_is); (case l => k_is); (case c => k_is); (case k => k_is))
    case h_check_memory => (refine' Db.has_mk KX G ?a ?l ?c ?k; (case a => k_is); (case l => k_is); (case c => k_is); (case k => k_is))
    case h_check_program => (refine' Db.has_mk KX G ?a ?l ?c ?k; (case a => k_is); (case l => k_is); (case c => k_is); (case k => k_is))
    case h_check_programs => (refine' Db.hasD_mk KX G ?a ?l ?c ?k ?t; (case a => k_is); (case l => k_is); (case c => k_is); (case k => k_is); (case t => k_is))
    case h_read_cell => (refine' Db.has_mk KX G ?a ?l ?c ?k; (case a => k_is); (case l => k_is); (case c => k_is); (case k => k_is))
    case h_write_cell => (refine' Db.has_mk KX G ?a ?l ?c ?k; (case a => k_is); (case l => k_is); (case c => k_is); (case k => k_is))
    case h_check_order => (refine' Db.has_mk KX G ?a ?l ?c ?k; (case a => k_is); (case l => k_is); (case c => k_is); (case k => k_is))
    case h_check_last => (refine' Db.has_mk KX G ?a ?l ?c ?k; (case a => k_is); (case l => k_is); (case c => k_is); (case k => k_is))
    case h_check_few => (refine' Db.has_mk KX G ?a ?l ?c ?k; (case a => k_is); (case l => k_is); (case c => k_is); (case k => k_is))
    case h_all_orders => (refine' Db.has_mk KX G ?a ?l ?c ?k; (case a => k_is); (case l => k_is); (case c => k_is); (case k => k_is))
    case h_do_deed => (refine' Db.has_mk KX G ?a ?l ?c ?k; (case a => k_is); (case l => k_is); (case c => k_is); (case k => k_is))
    case h_follow => (refine' Db.has_mk KX G ?a ?l ?c ?k; (case a => k_is); (case l => k_is); (case c => k_is); (case k => k_is))
    case h_ordered => (refine' Db.has_mk KX G ?a ?l ?c ?k; (case a => k_is); (case l => k_is); (case c => k_is); (case k => k_is))
    case h_explained => (refine' Db.has_mk KX G ?a ?l ?c ?k; (case a => k_is); (case l => k_is); (case c => k_is); (case k => k_is))
    case h_outcomes => (refine' Db.has_mk KX G ?a ?l ?c ?k; (case a => k_is); (case l => k_is); (case c => k_is); (case k => k_is))
    case h_law_mix => (refine' Db.has_mk KX G ?a ?l ?c ?k; (case a => k_is); (case l => k_is); (case c => k_is); (case k => k_is))
    case h_law_next => (refine' Db.has_mk KX G ?a ?l ?c ?k; (case a => k_is); (case l => k_is); (case c => k_is); (case k => k_is))
    case h_law_alike => (refine' Db.has_mk KX G ?a ?l ?c ?k; (case a => k_is); (case l => k_is); (case c => k_is); (case k => k_is))
    case h_law_deed => (refine' Db.has_mk KX G ?a ?l ?c ?k; (case a => k_is); (case l => k_is); (case c => k_is); (case k => k_is))
    case h_law_program => (refine' Db.has_mk KX G ?a ?l ?c ?k; (case a => k_is); (case l => k_is); (case c => k_is); (case k => k_is))
    case h_law_memory => (refine' Db.has_mk KX G ?a ?l ?c ?k; (case a => k_is); (case l => k_is); (case c => k_is); (case k => k_is))
    case h_law_order => (refine' Db.has_mk KX G ?a ?l ?c ?k; (case a => k_is); (case l => k_is); (case c => k_is); (case k => k_is))
    case h_law_orders => (refine' Db.has_mk KX G ?a ?l ?c ?k; (case a => k_is); (case l => k_is); (case c => k_is); (case k => k_is))
