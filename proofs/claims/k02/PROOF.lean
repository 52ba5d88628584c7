import PyProof.Rows.All
import Wide.All
import OpenK.AllK
import Wide.FinOn
import HandS.ForMost
import HandS.Evl
import HandS.Wide
import HandS.IsInst
import HandS.CallLocal
import HandS.Defaults
import HandS.Walk
import HandS.More
import PySem.Challenge.RW_doorbeat_k02_whole_run_by_rules
set_option Elab.async false
set_option linter.all false
set_option maxRecDepth 100000
set_option maxHeartbeats 4000000
namespace Db
open PySem L2 Evl

/-! ### a def of the text by its name -/
structure Has (K : PySem.W.Frag) (mg : Str → Option Value) (x : Str) (st : Stmt) : Prop where
  ex : ∃ f fd, Fun K x x st f fd ∧ mg x = some (.ref f)
structure Dn (P : Program) (w : World) (K : PySem.W.Frag) (mg : Str → Option Value) (base : Heap) (CX : CXT) (x : Str) (ps : List Str) (k : Nat) (sp : Sp) : Prop where
  ex : ∃ f fd, FnOk P w K mg base CX k f fd ps sp ∧ mg x = some (.ref f) ∧ PySem.W.keepIn K (.ref f) = true ∧ Binds K fd ps []
theorem dn_of {P : Program} {w : World} {K : PySem.W.Frag} {mg : Str → Option Value} {base : Heap} {CX : CXT} {x : Str} {ps : List Str} {k : Nat} {sp : Sp} {st : Stmt} (h : Has K mg x st)
    (hb : ∀ f fd, Fun K x x st f fd → Binds K fd ps []) (hf : ∀ f fd, Fun K x x st f fd → mg x = some (.ref f) → FnOk P w K mg base CX k f fd ps sp) : Dn P w K mg base CX x ps k sp := by
  obtain ⟨f, fd, F, hm⟩ := h.ex
  exact ⟨f, fd, hf f fd F hm, hm, F.kp, hb f fd F⟩
theorem has_mk {K : PySem.W.Frag} {h : Heap} {mg : Str → Option Value} {x : Str} {st : Stmt} {f : Addr} {oc : Value} {od an : Option Addr} {osl : Array (Option Value)} {kV doc pm cdv ct : Value} (X : K.In h) (G : h.Ns mainGlobals mg)
    (a : PySem.W.nsIn K mainGlobals x = some (some (.ref f)))
    (l : K.lookup f = some ⟨oc, od, .func (PySem.W.fnOf x x (defArgs st) (defBody st) (defScope st) .none kV doc pm an cdv ct), osl⟩)
    (c : PySem.W.codeIn K cdv x = true) (k : PySem.W.keepIn K (.ref f) = true) : Has K mg x st := ⟨f, _, fun_mk l c k, PySem.W.mg_of X G a⟩
section
variable {X : Cx}
theorem pe_dn {CX : CXT} {x : Str} {ps : List Str} {k j : Nat} {sp : Sp} {E : XK} {e : Expr} {es : List Expr} {t : TA} {p pos : Pos} (h : Dn X.prog X.w X.K X.mg X.base CX x ps k sp) (hr : Room j X.A) (hk : k ≤ j) (hx : Passes CX X E)
    (ha : PA X (e :: es) t) (hg : Gl X x := by rfl) (hdb : (x == ("__debug__" : Str)) = false := by decide) (he : starEach (e :: es) X.env = (false, eval e X.env) :: starEach es X.env := by rfl)
    (hpl : (backTo pos (starEach es X.env)).any (·.1) = false := by rfl) : PE X (.Call (.Name x p) (e :: es) [] pos) (tCall sp [] E t) := by
  obtain ⟨f, fd, F, hm, kp, b⟩ := h.ex
  exact pe_call F (hr.mono hk) hg hm kp b .nil hx ha hdb he hpl
end

/-- names of the built-ins that no def or constant hides -/
structure Nb (mg : Str → Option Value) : Prop where
  n_len : mg "len" = none
  n_isinstance : mg "isinstance" = none
  n_max : mg "max" = none
  n_min : mg "min" = none
  n_range : mg "range" = none
  n_enumerate : mg "enumerate" = none
  n_zip : mg "zip" = none
  n_list : mg "list" = none
  n_tuple : mg "tuple" = none
  n_int : mg "int" = none
  n_bool : mg "bool" = none
  n_str : mg "str" = none
/-! ### a def that only looks: R of the arguments, the heap, the value -/
def spF (n : Nat) (R : List V → Hp → V → Prop) : Sp := fun vs H Q _ => vs.length = n ∧ ∃ v, R vs H v ∧ ∀ H', Ex H H' → Q v H'
theorem spF_v {n : Nat} {R : List V → Hp → V → Prop} {vs : List V} {H : Hp} {v : V} (hl : vs.length = n) (h : ∀ H1, Ex H H1 → R vs H1 v) : SpV (spF n R) vs H v := fun H1 e Q q _ => ⟨hl, v, h H1 e, q⟩

/-! ### deeds -/
inductive Deed where
  | rd (c : Nat) | wr (c w : Nat) | rs
  deriving DecidableEq
def Deed.vals : Deed → List V
  | .rd c => [.str "read", .int (c : Int)]
  | .wr c w => [.str "write", .int (c : Int), .int (w : Int)]
  | .rs => [.str "rest"]
def Deed.ok (n : Nat) : Deed → Prop
  | .rd c => c < n
  | .wr c w => c < n ∧ w < 3
  | .rs => True
def Deed.ok.mono {n m : Nat} (h : n ≤ m) : ∀ {d : Deed}, d.ok n → d.ok m
  | .rd _, x => Nat.lt_of_lt_of_le (show _ < n from x) h
  | .wr _ _, x => ⟨Nat.lt_of_lt_of_le x.1 h, x.2⟩
  | .rs, _ => True.intro
/-- the value v is the deed d -/
def DV (K : PySem.W.Frag) (H : Hp) (v : V) (d : Deed) : Prop := ∃ a, v = .ref a ∧ SqT K H a d.vals
theorem DV.mono {K : PySem.W.Frag} {H H' : Hp} {v : V} {d : Deed} (e : Ex H H') (h : DV K H v d) : DV K H' v d := by
  obtain ⟨a, h1, h2⟩ := h
  exact ⟨a, h1, ex_t e h2⟩
def Deed.dat : Deed → List PyData
  | .rd c => [.str "read", .int (c : Int)]
  | .wr c w => [.str "write", .int (c : Int), .int (w : Int)]
  | .rs => [.str "rest"]
theorem DV.dp {K : PySem.W.Frag} {H : Hp} {v : V} {d : Deed} (h : DV K H v d) : Dp K H v (.tuple d.dat) := by
  obtain ⟨a, rfl, h2⟩ := h
  cases d with
  | rd c => exact .tup h2 (.cons (.str _) (.cons (.int _) .nil))
  | wr c w => exact .tup h2 (.cons (.str _) (.cons (.int _) (.cons (.int _) .nil)))
  | rs => exact .tup h2 (.cons (.str _) .nil)
/-- data of no more than n levels, laid out as the library wants it -/
structure Sh (n : Nat) (d : PyData) : Prop where
  lay : d.canLay0 = true
  dep : d.depth ≤ n
theorem Sh.mono {n m : Nat} {d : PyData} (h : Sh n d) (l : n ≤ m) : Sh m d := ⟨h.lay, Nat.le_trans h.dep l⟩
theorem Sh.shaped {n : Nat} {d : PyData} (h : Sh n d) (l : n ≤ 64) : SeqAt.shaped d = true := by
  unfold SeqAt.shaped
  rw [h.lay, decide_eq_true (Nat.le_trans h.dep l)]
  rfl
theorem sh_int {n : Nat} {i : Int} : Sh n (.int i) := ⟨by simp [PyData.canLay0], by simp [PyData.depth]⟩
theorem sh_bool {n : Nat} {i : Bool} : Sh n (.bool i) := ⟨by simp [PyData.canLay0], by simp [PyData.depth]⟩
theorem sh_none {n : Nat} : Sh n .none := ⟨by simp [PyData.canLay0], by simp [PyData.depth]⟩
theorem sh_str {n : Nat} {x : Str} (h : PyData.strOk x = true) : Sh n (.str x) := ⟨by simpa [PyData.canLay0] using h, by simp [PyData.depth]⟩
theorem sh_all {n : Nat} : ∀ {ds : List PyData}, (∀ d ∈ ds, Sh n d) → PyData.canLayAll0 ds = true ∧ PyData.depthAll ds ≤ n
  | [], _ => ⟨by simp [PyData.canLayAll0], by simp [PyData.depthAll]⟩
  | d :: r, h => by
    have h1 := h d List.mem_cons_self
    have h2 := sh_all (ds := r) fun x hx => h x (List.mem_cons_of_mem _ hx)
    refine ⟨?_, ?_⟩
    · rw [PyData.canLayAll0, h1.lay, h2.1]
      rfl
    · rw [PyData.depthAll]
      exact Nat.max_le.mpr ⟨h1.dep, h2.2⟩
theorem sh_tup {n : Nat} {ds : List PyData} (h : ∀ d ∈ ds, Sh n d) : Sh (n + 1) (.tuple ds) := by
  have q := sh_all h
  refine ⟨?_, ?_⟩
  · rw [PyData.canLay0]
    exact q.1
  · rw [PyData.depth]
    exact Nat.succ_le_succ q.2
theorem sh_lst {n : Nat} {ds : List PyData} (h : ∀ d ∈ ds, Sh n d) : Sh (n + 1) (.list ds) := by
  have q := sh_all h
  refine ⟨?_, ?_⟩
  · rw [PyData.canLay0]
    exact q.1
  · rw [PyData.depth]
    exact Nat.succ_le_succ q.2
theorem sh_ints (ns : List Int) : Sh 1 (.list (ns.map PyData.int)) := sh_lst fun d hd => by
  obtain ⟨n, _, rfl⟩ := List.mem_map.mp hd
  exact sh_int
theorem dpa_ints {K : PySem.W.Frag} {H : Hp} : ∀ ns : List Int, DpAll K H (ns.map V.int) (ns.map PyData.int)
  | [] => .nil
  | n :: r => .cons (.int n) (dpa_ints r)
theorem Sh.eqv {n : Nat} {d : PyData} (h : Sh n d) : PyData.eqv d d = true := SeqAt.eqv_refl d h.lay
theorem sk_read : PyData.strOk "read" = true := by decide +kernel
theorem sk_write : PyData.strOk "write" = true := by decide +kernel
theorem sk_rest : PyData.strOk "rest" = true := by decide +kernel
theorem Deed.sh (d : Deed) : Sh 1 (.tuple d.dat) := by
  cases d with
  | rd c => exact sh_tup (by simp only [Deed.dat, List.mem_cons, List.not_mem_nil, or_false]; rintro d (rfl | rfl) <;> first | exact sh_str sk_read | exact sh_int)
  | wr c w => exact sh_tup (by simp only [Deed.dat, List.mem_cons, List.not_mem_nil, or_false]; rintro d (rfl | rfl | rfl) <;> first | exact sh_str sk_write | exact sh_int)
  | rs => exact sh_tup (by simp only [Deed.dat, List.mem_cons, List.not_mem_nil, or_false]; rintro d rfl; exact sh_str sk_rest)
theorem Deed.eqv_rs (d : Deed) : PyData.eqv (.tuple d.dat) (.tuple Deed.rs.dat) = decide (d = .rs) := by
  cases d with
  | rd c => simp [Deed.dat, PyData.eqv, PyData.eqvAll]
  | wr c w => simp [Deed.dat, PyData.eqv, PyData.eqvAll]
  | rs => simp [Deed.dat, PyData.eqv, PyData.eqvAll]
/-- a program: its values, its deeds -/
def PV (K : PySem.W.Frag) (H : Hp) (vs : List V) (ds : List Deed) : Prop := Paired (DV K H) vs ds

/-! ### evaluation, some more -/
section
variable {K : PySem.W.Frag} {σ : L2.St} {H H' : Hp} {ta tb te tx : TE} {t u : TT} {x y z v : V}
theorem rc_len {p : Addr} {xs : List V} (h : SqL K H p xs ∨ SqT K H p xs) : RC (rLenS K) [.ref p] H (.int (xs.length : Int)) := fun H1 e _ q => ⟨p, xs, rfl, h.imp (ex_l e) (ex_t e), q H1 (Ex.refl H1)⟩
theorem rc_lenL {p : Addr} {xs : List V} (h : SqL K H p xs) : RC (rLenS K) [.ref p] H (.int (xs.length : Int)) := rc_len (.inl h)
theorem rc_lenT {p : Addr} {xs : List V} (h : SqT K H p xs) : RC (rLenS K) [.ref p] H (.int (xs.length : Int)) := rc_len (.inr h)
theorem rc_max {i j : Int} : RC rMax2 [.int i, .int j] H (.int (if j > i then j else i)) := fun H1 _ _ q => ⟨i, j, rfl, q H1 (Ex.refl H1)⟩
/-- a value's type that stays -/
def TyS (K : PySem.W.Frag) (H : Hp) (x : V) (t : Value) : Prop := ∀ H1, Ex H H1 → TyX K H1 x t
theorem tys_int {i : Int} : TyS K H (.int i) (.type "int") := fun _ _ => .base (.int i)
theorem tys_str {i : Str} : TyS K H (.str i) (.type "str") := fun _ _ => .base (.str i)
theorem tys_bl {i : Bool} : TyS K H (.bl i) (.type "bool") := fun _ _ => .base (.bl i)
theorem tys_non : TyS K H .non (.type "NoneType") := fun _ _ => .base .non
theorem tys_tup {a : Addr} {xs : List V} (h : SqT K H a xs) : TyS K H (.ref a) (.type "tuple") := fun H1 e => by
  rcases ex_t e h with (h | ⟨o, h⟩) | ⟨o, its, n, h, c, _⟩
  · exact .base (.tup h)
  · exact .fTuple h
  · exact .kTuple h c
theorem tys_lst {a : Addr} {xs : List V} (h : SqL K H a xs) : TyS K H (.ref a) (.type "list") := fun H1 e => by
  rcases ex_l e h with (h | ⟨o, h⟩) | ⟨o, its, n, h, c, _⟩
  · exact .base (.lst h)
  · exact .base (.frz h)
  · exact .kList h c
theorem rc_isi {c : String} {t : Value} {b : Bool} (h : TyS K H x t) (k : PySem.W.kitOne K t (.type c) = some b) : RC (rIsi K) [x, .ty c] H (.bl b) := fun H1 e _ q => ⟨x, .ty c, t, .type c, b, rfl, .ty c, h H1 e, k, q H1 (Ex.refl H1)⟩
theorem rc_isiB {c d : String} {b : Bool} (h : TyS K H x (.type d)) (k : kitB d c = some b) : RC (rIsi K) [x, .ty c] H (.bl b) := rc_isi h (kit_ty k)
/-- isinstance(x, (c, d)) -/
theorem ev_isi2 {c d f : String} {b1 b2 : Bool} (hx : Ev te σ H x) (h : TyS K H x (.type f)) (k1 : kitB f c = some b1) (k2 : kitB f d = some b2) :
    Ev (tCB (rIsiT K) (tCons te (tCons (tTup (tCons (tC (.ty c)) (tCons (tC (.ty d)) tNil))) tNil))) σ H (.bl (b1 || b2)) := fun H1 e Q q =>
  hx H1 e _ fun H2 e2 => ⟨by show 2 ≤ sizeLine; decide, fun p hp => ⟨x, p, [.ty c, .ty d], .type f, [.type c, .type d], b1 || b2, rfl, upd_same, .cons (.ty c) (.cons (.ty d) .nil), h _ ((e.trans e2).trans (Ex.new hp)),
    kitAny_cons (kit_ty k1) (fun h1 => kitAny_cons (kit_ty k2) (fun h2 => by rw [h1, h2]; exact kitAny_nil) (fun h2 => by rw [h2]; cases b1 <;> rfl)) (fun h1 => by rw [h1]; rfl), q _ (e2.trans (Ex.new hp))⟩⟩
/-! == and != of data -/
mutual
theorem dp_mono (e : Ex H H') : ∀ (d : PyData) (v : V), Dp K H v d → Dp K H' v d
  | .none, _, h => by cases h; exact .non
  | .bool b, _, h => by cases h; exact .bl b
  | .int i, _, h => by cases h; exact .int i
  | .str x, _, h => by cases h; exact .str x
  | .list ds, _, h => by
    cases h with
    | lst q r => exact .lst (ex_l e q) (dpAll_mono e ds _ r)
  | .tuple ds, _, h => by
    cases h with
    | tup q r => exact .tup (ex_t e q) (dpAll_mono e ds _ r)
  | .dict kvs, _, h => by cases h
theorem dpAll_mono (e : Ex H H') : ∀ (ds : List PyData) (vs : List V), DpAll K H vs ds → DpAll K H' vs ds
  | [], _, h => by cases h; exact .nil
  | d :: ds, _, h => by
    cases h with
    | cons a b => exact .cons (dp_mono e d _ a) (dpAll_mono e ds _ b)
end
theorem rv_eqD {d e : PyData} {n m : Nat} (hx : Dp K H x d) (hy : Dp K H y e) (hd : Sh n d) (he : Sh m e) (hn : n ≤ 64) (hm : m ≤ 64) : RV (rEqD K) x y H (.bl (PyData.eqv d e)) := fun H1 a _ q =>
  ⟨d, e, dp_mono a d x hx, dp_mono a e y hy, hd.shaped hn, he.shaped hm, q H1 (Ex.refl H1)⟩
theorem rv_neD {d e : PyData} {n m : Nat} (hx : Dp K H x d) (hy : Dp K H y e) (hd : Sh n d) (he : Sh m e) (hn : n ≤ 64) (hm : m ≤ 64) : RV (rNeD K) x y H (.bl (!PyData.eqv d e)) := fun H1 a _ q =>
  ⟨d, e, dp_mono a d x hx, dp_mono a e y hy, hd.shaped hn, he.shaped hm, q H1 (Ex.refl H1)⟩
theorem rv_is {r : R2} {w : V} (h : RV r x y H z) (e : z = w) : RV r x y H w := by
  rw [← e]
  exact h
/-- an if of one kind or the other, the value known -/
theorem ev_ifT (h : EvT t σ H true) (h1 : Ev ta σ H v) : Ev (tIf t ta tb) σ H v := ev_if h (fun _ => h1) (fun z => nomatch z)
theorem ev_ifF (h : EvT t σ H false) (h1 : Ev tb σ H v) : Ev (tIf t ta tb) σ H v := ev_if h (fun z => nomatch z) (fun _ => h1)
/-- a < b < c -/
theorem ev_chain {r r' : R2} {tc : TE} {w : V} {a b : Bool} (h1 : Ev ta σ H x) (h2 : Ev tb σ H y) (hr : RV r x y H (.bl a)) (h3 : a = true → Ev tc σ H w) (hr' : a = true → RV r' y w H (.bl b)) : Ev (tChain r r' ta tb tc) σ H (.bl (a && b)) := fun H1 e Q q =>
  h1 H1 e _ fun H2 e2 => h2 H2 (e.trans e2) _ fun H3 e3 => hr H3 ((e.trans e2).trans e3) _ fun H4 e4 => ⟨a, rfl, by
    have e04 := ((e.trans e2).trans e3).trans e4
    cases a with
    | false =>
      show Q (.bl false) H4
      exact q H4 ((e2.trans e3).trans e4)
    | true =>
      show tc σ H4 _
      exact h3 rfl H4 e04 _ fun H5 e5 => hr' rfl H5 (e04.trans e5) _ fun H6 e6 => q H6 ((((e2.trans e3).trans e4).trans e5).trans e6)⟩
end

/-! ### data of any kind, two of them alike -/
/-- an item of a list or a tuple -/
def rIxA (K : PySem.W.Frag) : R2 := fun x y H Q => rIxL K x y H Q ∨ rIxT K x y H Q
theorem ix_any {X : Cx} : IxR X (rIxA X.K) := fun value slice pins s σ H x y v u Q I rx ry q hs => by
  rcases q with q | q
  · exact ix_list value slice pins s σ H x y v u Q I rx ry q hs
  · exact ix_tup value slice pins s σ H x y v u Q I rx ry q hs
/-! rules that name the written part by itself (for a comprehension's block) -/
section
variable {X : Cx} (K : PySem.W.Frag) (e : X.K = K := by rfl)
include e
theorem ix_anyK : IxR X (rIxA K) := by subst e; exact ix_any
theorem ix_listK : IxR X (rIxL K) := by subst e; exact ix_list
theorem ix_tupK : IxR X (rIxT K) := by subst e; exact ix_tup
theorem call_len_seqK : CallR X (.builtin "len") (rLenS K) := by subst e; exact call_len_seq
theorem call_isiK2 : CallR X (.builtin "isinstance") (rIsi K) := by subst e; exact call_isi
theorem call_isiTK : CallR X (.builtin "isinstance") (rIsiT K) := by subst e; exact call_isiT
theorem op_eqDK (hu : X.A.units + 64 < cLine) : OpR X (compareOp .Eq) (rEqD K) := by subst e; exact op_eqD hu
theorem op_neDK (hu : X.A.units + 64 < cLine) : OpR X (compareOp .NotEq) (rNeD K) := by subst e; exact op_neD hu
theorem op_in_seqK : OpR X (compareOp .In) (rIn K false) := by subst e; exact op_in_seq
theorem op_notIn_seqK : OpR X (compareOp .NotIn) (rIn K true) := by subst e; exact op_notIn_seq
theorem call_list_ofK : CallR X (.type "list") (rListS K) := by subst e; exact call_list_of
end
def SqA (K : PySem.W.Frag) (H : Hp) (p : Addr) (xs : List V) : Prop := SqL K H p xs ∨ SqT K H p xs
theorem ex_a {K : PySem.W.Frag} {H H' : Hp} {p : Addr} {xs : List V} (e : Ex H H') (h : SqA K H p xs) : SqA K H' p xs := h.imp (ex_l e) (ex_t e)
theorem rv_ixA {K : PySem.W.Frag} {H : Hp} {p : Addr} {xs : List V} {i : Int} {v : V} (h : SqA K H p xs) (ha : atI xs i = some v) : RV (rIxA K) (.ref p) (.int i) H v := fun H1 e _ q => by
  rcases ex_a e h with h | h
  · exact .inl ⟨p, xs, i, v, rfl, rfl, h, ha, q H1 (Ex.refl H1)⟩
  · exact .inr ⟨p, xs, i, v, rfl, rfl, h, ha, q H1 (Ex.refl H1)⟩
/-- data of up to n levels, each list of up to a thousand -/
inductive Nice : Nat → PyData → Prop where
  | non {n : Nat} : Nice n .none
  | bl {n : Nat} (b : Bool) : Nice n (.bool b)
  | int {n : Nat} (i : Int) : Nice n (.int i)
  | str {n : Nat} {x : Str} : PyData.strOk x = true → Nice n (.str x)
  | lst {n : Nat} {ds : List PyData} : ds.length ≤ 1000 → (∀ d ∈ ds, Nice n d) → Nice (n + 1) (.list ds)
  | tup {n : Nat} {ds : List PyData} : ds.length ≤ 1000 → (∀ d ∈ ds, Nice n d) → Nice (n + 1) (.tuple ds)
theorem Nice.sh : ∀ {n : Nat} {d : PyData}, Nice n d → Sh n d
  | _, _, .non => sh_none
  | _, _, .bl _ => sh_bool
  | _, _, .int _ => sh_int
  | _, _, .str h => sh_str h
  | _, _, .lst _ h => sh_lst fun d hd => Nice.sh (h d hd)
  | _, _, .tup _ h => sh_tup fun d hd => Nice.sh (h d hd)
theorem Nice.mono {n : Nat} {d : PyData} (h : Nice n d) : ∀ {m : Nat}, n ≤ m → Nice m d := by
  induction h with
  | non => intro m _; exact .non
  | bl b => intro m _; exact .bl b
  | int i => intro m _; exact .int i
  | str h => intro m _; exact .str h
  | lst hl _ ih =>
    intro m hm
    obtain ⟨k, rfl⟩ : ∃ k, m = k + 1 := ⟨m - 1, by omega⟩
    exact .lst hl fun d hd => ih d hd (by omega)
  | tup hl _ ih =>
    intro m hm
    obtain ⟨k, rfl⟩ : ∃ k, m = k + 1 := ⟨m - 1, by omega⟩
    exact .tup hl fun d hd => ih d hd (by omega)
theorem dpa_len {K : PySem.W.Frag} {H : Hp} : ∀ {vs : List V} {ds : List PyData}, DpAll K H vs ds → vs.length = ds.length
  | _, _, .nil => rfl
  | _, _, .cons _ h => congrArg (· + 1) (dpa_len h)
theorem dpa_get {K : PySem.W.Frag} {H : Hp} : ∀ {vs : List V} {ds : List PyData} {i : Nat} {d : PyData}, DpAll K H vs ds → ds[i]? = some d → ∃ v, vs[i]? = some v ∧ Dp K H v d
  | _, _, _, _, .nil, e => by simp at e
  | _, _, 0, _, .cons r _, e => by simp at e; subst e; exact ⟨_, rfl, r⟩
  | _, _, i + 1, x, .cons _ t, e => by
    obtain ⟨u, h1, h2⟩ := dpa_get (i := i) (d := x) t (by simpa using e)
    exact ⟨u, by simpa using h1, h2⟩
theorem dpa_of {K : PySem.W.Frag} {H : Hp} {vs : List V} {ds : List Deed} (h : Paired (DV K H) vs ds) : DpAll K H vs (ds.map fun d => .tuple d.dat) := by
  induction h with
  | nil => exact .nil
  | cons a _ ih => exact .cons a.dp ih
section
variable {K : PySem.W.Frag} {σ : L2.St} {H : Hp} {te : TE} {t : TT}
/-- a comprehension over a new tuple, over a tuple -/
theorem el_lcNT {xs : List V} {tl : TE} {j : Nat} {vs : List Nat} (f : Nat → Bool) (v : Nat → V) (h : EvU tl σ H xs) (hz : xs.length ≤ 40000) (hw : ∀ x, wipe ((wipe σ vs).set j (some x)) vs = wipe σ vs)
    (ht : ∀ (i : Nat) (x : V) H1, Ex H H1 → xs[i]? = some x → EvT t ((wipe σ vs).set j (some x)) H1 (f i)) (he : ∀ (i : Nat) (x : V) H1, Ex H H1 → xs[i]? = some x → f i = true → Ev te ((wipe σ vs).set j (some x)) H1 (v i)) :
    EvL (tLc (iTup K tl) (gName j) t te vs) σ H (given xs.length f v) := fun H0 e Q q => h H0 e _ fun a H1 ha e1 hx => ⟨a, rfl, ⟨xs, st_of hx⟩, fun Dl hD =>
  lc_tup (xs := xs) (Cw H1 f v Dl) ⟨hD, Ex.new hD, upd_same⟩ (fun i H' _ p => st_of (p.2.1 a _ hx)) (fun i x H' hi p => ⟨hw x, cw_turn p (by have := (List.getElem?_eq_some_iff.mp hi).1; omega) (ht i x H1 (e.trans e1) hi) (fun hf => he i x H1 (e.trans e1) hi hf)⟩)
    (fun H' p => q Dl H' (fresh_back e1 p.1) (e1.trans p.2.1) p.2.2)⟩
theorem el_lcT {a : Addr} {xs : List V} {tl : TE} {j : Nat} {vs : List Nat} (f : Nat → Bool) (v : Nat → V) (h : Ev tl σ H (.ref a)) (hx : SqT K H a xs) (hz : xs.length ≤ 40000) (hw : ∀ x, wipe ((wipe σ vs).set j (some x)) vs = wipe σ vs)
    (ht : ∀ (i : Nat) (x : V) H1, Ex H H1 → xs[i]? = some x → EvT t ((wipe σ vs).set j (some x)) H1 (f i)) (he : ∀ (i : Nat) (x : V) H1, Ex H H1 → xs[i]? = some x → f i = true → Ev te ((wipe σ vs).set j (some x)) H1 (v i)) :
    EvL (tLc (iTup K tl) (gName j) t te vs) σ H (given xs.length f v) := fun H0 e Q q => h H0 e _ fun H1 e1 => ⟨a, rfl, ⟨xs, ex_t (e.trans e1) hx⟩, fun Dl hD =>
  lc_tup (xs := xs) (Cw H1 f v Dl) ⟨hD, Ex.new hD, upd_same⟩ (fun i H' _ p => ex_t ((e.trans e1).trans p.2.1) hx) (fun i x H' hi p => ⟨hw x, cw_turn p (by have := (List.getElem?_eq_some_iff.mp hi).1; omega) (ht i x H1 (e.trans e1) hi) (fun hf => he i x H1 (e.trans e1) hi hf)⟩)
    (fun H' p => q Dl H' (fresh_back e1 p.1) (e1.trans p.2.1) p.2.2)⟩
end
theorem given_two (f : Nat → Bool) (v : Nat → V) : given 2 f v = (if f 0 then [v 0] else []) ++ (if f 1 then [v 1] else []) := by
  have e : given 2 f v = (([0, 1] : List Nat).filter f).map v := rfl
  rw [e]
  cases h0 : f 0 <;> cases h1 : f 1 <;> simp [List.filter, h0, h1]
def Deed.tag : Deed → Str
  | .rd _ => "read"
  | .wr _ _ => "write"
  | .rs => "rest"
def Deed.cell : Deed → Option Nat
  | .rd c => some c
  | .wr c _ => some c
  | .rs => none
def Deed.isW : Deed → Bool
  | .wr _ _ => true
  | _ => false
/-- whether both are at one cell, and one writes -/
def clashD (d e : Deed) : Bool := match d.cell, e.cell with
  | some a, some b => decide (a = b) && (d.isW || e.isW)
  | _, _ => false
theorem DV.tag {K : PySem.W.Frag} {H : Hp} {a : Addr} {d : Deed} (h : SqT K H a d.vals) : RV (rIxT K) (.ref a) (.int 0) H (.str d.tag) := rv_ixT h (by cases d <;> rfl)
theorem in_ww : inV (.str "write") [.str "write", .str "write"] = true := by decide +kernel
theorem in_wr : inV (.str "write") [.str "write", .str "read"] = true := by decide +kernel
theorem in_rw : inV (.str "write") [.str "read", .str "write"] = true := by decide +kernel
theorem in_rr : inV (.str "write") [.str "read", .str "read"] = false := by decide +kernel
theorem tag_rest (d : Deed) : (!decide (V.str d.tag = V.str "rest")) = !decide (d = .rs) := by
  cases d with
  | rd c =>
    have h : decide (V.str (Deed.rd c).tag = V.str "rest") = false := (show decide (V.str "read" = V.str "rest") = false by decide +kernel)
    rw [h]
    simp
  | wr c w =>
    have h : decide (V.str (Deed.wr c w).tag = V.str "rest") = false := (show decide (V.str "write" = V.str "rest") = false by decide +kernel)
    rw [h]
    simp
  | rs => simp [Deed.tag]
theorem cut_at (us : List V) (i : Nat) : cutV us (some (i : Int)) (some ((i : Int) + 1)) = (us.drop i).take 1 := by
  unfold cutV
  have e1 : HT.sIx us.length 0 (some (i : Int)) = min i us.length := HT.sIx_nat _ _ _
  have e2 : HT.sIx us.length us.length (some ((i : Int) + 1)) = min (i + 1) us.length := HT.sIx_nat us.length us.length (i + 1)
  rw [e1, e2]
  by_cases h : i < us.length
  · have h1 : min i us.length = i := by omega
    have h2 : min (i + 1) us.length = i + 1 := by omega
    rw [h1, h2]
    have h3 : i + 1 - i = 1 := by omega
    rw [h3]
  · have h1 : min i us.length = us.length := by omega
    rw [h1, List.drop_of_length_le (Nat.le_refl _), List.drop_of_length_le (by omega)]
    simp
theorem cut_tail (us : List V) : cutV us (some 1) none = us.drop 1 := by
  unfold cutV
  have e1 : HT.sIx us.length 0 (some ((1 : Nat) : Int)) = min 1 us.length := HT.sIx_nat _ _ _
  have e2 : HT.sIx us.length us.length none = us.length := HT.sIx_none _ _
  have e3 : (some (1 : Int)) = some ((1 : Nat) : Int) := rfl
  rw [e3, e1, e2]
  cases us with
  | nil => rfl
  | cons a r =>
    have h1 : min 1 (a :: r).length = 1 := by simp
    rw [h1]
    simp
theorem PV.drop {K : PySem.W.Frag} {H : Hp} : ∀ {vs : List V} {ds : List Deed} (n : Nat), PV K H vs ds → PV K H (vs.drop n) (ds.drop n)
  | _, _, 0, h => h
  | _, _, n + 1, .nil => .nil
  | _, _, n + 1, .cons _ t => PV.drop n t
theorem sqt_K {K : PySem.W.Frag} {a : Addr} {d : Option Addr} {its : Array Value} {n : Nat} {sl : Array (Option Value)} {xs : List V} (l : K.lookup a = some ⟨.type "tuple", d, .seq its n, sl⟩) (hz : its.size ≤ sizeLine) (r : Vals xs its.toList) (H : Hp) : SqT K H a xs :=
  .inr ⟨_, its, n, l, rfl, rfl, hz, r⟩
/-- the written things of the program's first files -/
structure TxP (K : PySem.W.Frag) (mg : Str → Option Value) (aREST aWORTHS : Addr) (t4 t40 : Tok) : Prop where
  g_REST : mg "REST" = some (.ref aREST)
  REST : ∀ H, SqT K H aREST Deed.rs.vals
  g_WORTHS : mg "WORTHS" = some (.ref aWORTHS)
  WORTHS : ∀ H, SqT K H aWORTHS [.int 0, .int 1, .int 2]
  g_MOST_CELLS : mg "MOST_CELLS" = some (.int 4 t4)
  g_MOST_DEEDS : mg "MOST_DEEDS" = some (.int 40 t40)
theorem in_worths (i : Int) : inV (.int i) [.int 0, .int 1, .int 2] = decide (0 ≤ i ∧ i < 3) := by
  rw [Bool.eq_iff_iff]
  simp only [inV, eqV, List.any_cons, List.any_nil, Bool.or_false, Bool.or_eq_true, beq_iff_eq, decide_eq_true_eq]
  omega
theorem given_none (n : Nat) (v : Nat → V) : given n (fun _ => false) v = [] := by
  unfold given
  rw [List.filter_eq_nil_iff.mpr (fun _ _ => by decide)]
  rfl

/-! ### what is kept but at some places -/
def Bt (S : List Addr) (H H' : Hp) : Prop := ∀ b o, ¬ b ∈ S → H b = some o → H' b = some o
theorem Bt.refl {S : List Addr} (H : Hp) : Bt S H H := fun _ _ _ h => h
theorem Bt.trans {S : List Addr} {H H1 H2 : Hp} (a : Bt S H H1) (b : Bt S H1 H2) : Bt S H H2 := fun c o n h => b c o n (a c o n h)
theorem Bt.of_ex {S : List Addr} {H H' : Hp} (e : Ex H H') : Bt S H H' := fun c o _ h => e c o h
theorem Bt.ex {S : List Addr} {H H' : Hp} (a : Bt S H H') (h : ∀ b ∈ S, ∀ o, H b = some o → H' b = some o) : Ex H H' := fun c o q => by
  by_cases hc : c ∈ S
  · exact h c hc o q
  · exact a c o hc q
theorem Bt.mono {S T : List Addr} {H H' : Hp} (a : Bt S H H') (h : ∀ b ∈ S, b ∈ T) : Bt T H H' := fun c o n q => a c o (fun z => n (h c z)) q
theorem Bt.upd {S : List Addr} {H H' : Hp} {p : Addr} {o : HO} (a : Bt S H H') (hp : p ∈ S ∨ H p = none) : Bt S H (upd H' p o) := fun c u n q => by
  have hc : c ≠ p := by
    rintro rfl
    rcases hp with hp | hp
    · exact n hp
    · rw [hp] at q
      cases q
  rw [upd_ne hc]
  exact a c u n q
theorem Bt.free {S : List Addr} {H H' : Hp} {p : Addr} (a : Bt S H H') (hp : ¬ p ∈ S) (h : H' p = none) : H p = none := by
  cases q : H p with
  | none => rfl
  | some o =>
    rw [a p o hp q] at h
    cases h

/-! ### the draws: a list at h of a number, a list at l, a number -/
structure Draw (H : Hp) (h l : Addr) : Prop where
  st : ∃ (a p : Int) (ns : List Int), H h = some (.lst [.int a, .ref l, .int p]) ∧ H l = some (.lst (ns.map V.int)) ∧ ns.length ≤ 63
theorem Draw.ne {H : Hp} {h l : Addr} (D : Draw H h l) : h ≠ l := by
  obtain ⟨a, p, ns, h1, h2, _⟩ := D.st
  refine ne_of h1 h2 fun z => ?_
  injection z with z
  cases ns with
  | nil => cases z
  | cons n r =>
    cases r with
    | nil => cases z
    | cons m r =>
      injection z with _ z
      injection z with z _
      cases z
theorem Draw.mono {H H' : Hp} {h l : Addr} (e : Ex H H') (D : Draw H h l) : Draw H' h l := by
  obtain ⟨a, p, ns, h1, h2, h3⟩ := D.st
  exact ⟨a, p, ns, e _ _ h1, e _ _ h2, h3⟩
/-- a tuple stays through draws -/
theorem Draw.t {K : PySem.W.Frag} {H H' : Hp} {h l a : Addr} {xs : List V} (D : Draw H h l) (e : Bt [h, l] H H') (q : SqT K H a xs) : SqT K H' a xs := by
  obtain ⟨_, _, _, h1, h2, _⟩ := D.st
  rcases q with (q | ⟨o, q⟩) | q
  · refine .inl (.inl (e a _ ?_ q))
    simp only [List.mem_cons, List.not_mem_nil, or_false]
    rintro (rfl | rfl)
    · rw [h1] at q; cases q
    · rw [h2] at q; cases q
  · refine .inl (.inr ⟨o, e a _ ?_ q⟩)
    simp only [List.mem_cons, List.not_mem_nil, or_false]
    rintro (rfl | rfl)
    · rw [h1] at q; cases q
    · rw [h2] at q; cases q
  · exact .inr q
theorem Draw.dv {K : PySem.W.Frag} {H H' : Hp} {h l : Addr} {v : V} {d : Deed} (D : Draw H h l) (e : Bt [h, l] H H') (q : DV K H v d) : DV K H' v d := by
  obtain ⟨a, h1, h2⟩ := q
  exact ⟨a, h1, D.t e h2⟩
theorem pv_map {K : PySem.W.Frag} {H H' : Hp} {vs : List V} {ds : List Deed} (f : ∀ v d, DV K H v d → DV K H' v d) (q : PV K H vs ds) : PV K H' vs ds := L2.Paired.mapP q f
theorem Draw.pv {K : PySem.W.Frag} {H H' : Hp} {h l : Addr} {vs : List V} {ds : List Deed} (D : Draw H h l) (e : Bt [h, l] H H') (q : PV K H vs ds) : PV K H' vs ds := pv_map (fun _ _ => D.dv e) q
theorem PV.mono {K : PySem.W.Frag} {H H' : Hp} {vs : List V} {ds : List Deed} (e : Ex H H') (q : PV K H vs ds) : PV K H' vs ds := pv_map (fun _ _ => DV.mono e) q
theorem PV.length {K : PySem.W.Frag} {H : Hp} {vs : List V} {ds : List Deed} (q : PV K H vs ds) : vs.length = ds.length := Paired.length q
theorem PV.get {K : PySem.W.Frag} {H : Hp} : ∀ {vs : List V} {ds : List Deed} {i : Nat} {v : V}, PV K H vs ds → vs[i]? = some v → ∃ d, ds[i]? = some d ∧ DV K H v d
  | _, _, _, _, .nil, e => by simp at e
  | _, _, 0, _, .cons r _, e => by simp at e; subst e; exact ⟨_, rfl, r⟩
  | _, _, i + 1, x, .cons _ t, e => by
    obtain ⟨u, h1, h2⟩ := PV.get (i := i) (v := x) t (by simpa using e)
    exact ⟨u, by simpa using h1, h2⟩
theorem PV.snoc {K : PySem.W.Frag} {H : Hp} {v : V} {d : Deed} (r : DV K H v d) : ∀ {vs : List V} {ds : List Deed}, PV K H vs ds → PV K H (vs ++ [v]) (ds ++ [d])
  | _, _, .nil => .cons r .nil
  | _, _, .cons q t => .cons q (PV.snoc r t)
/-- a deed stays where a list is changed -/
theorem dv_but {K : PySem.W.Frag} {H H' : Hp} {p : Addr} {us : List V} {v : V} {d : Deed} (b : Bt [p] H H') (hp : H p = some (.lst us)) (q : DV K H v d) : DV K H' v d := by
  obtain ⟨a, h1, h2⟩ := q
  refine ⟨a, h1, ?_⟩
  have ne : ∀ o, H a = some o → (∀ xs, o ≠ .lst xs) → ¬ a ∈ [p] := by
    intro o ho no hm
    rw [List.mem_singleton.mp hm, hp] at ho
    exact no us (Option.some.inj ho).symm
  rcases h2 with (h2 | ⟨o, h2⟩) | h2
  · exact .inl (.inl (b a _ (ne _ h2 (fun _ z => by cases z)) h2))
  · exact .inl (.inr ⟨o, b a _ (ne _ h2 (fun _ z => by cases z)) h2⟩)
  · exact .inr h2
/-- a worth -/
def wV (n : Nat) : V := .int (n : Int)
/-- what a drawer promises of the heap -/
structure Drew (H H' : Hp) (h l : Addr) : Prop where
  dr : Draw H' h l
  bt : Bt [h, l] H H'
theorem Drew.refl {H : Hp} {h l : Addr} (D : Draw H h l) : Drew H H h l := ⟨D, Bt.refl H⟩
theorem Drew.trans {H H1 H2 : Hp} {h l : Addr} (a : Drew H H1 h l) (b : Drew H1 H2 h l) : Drew H H2 h l := ⟨b.dr, a.bt.trans b.bt⟩
theorem Drew.of_ex {H H1 H2 : Hp} {h l : Addr} (a : Drew H H1 h l) (e : Ex H1 H2) : Drew H H2 h l := ⟨a.dr.mono e, a.bt.trans (Bt.of_ex e)⟩
theorem Drew.new {H H1 : Hp} {h l p : Addr} {o : HO} (a : Drew H H1 h l) (hp : H1 p = none) : Drew H (upd H1 p o) h l := a.of_ex (Ex.new hp)

/-! ### a def with a default -/
structure HasD (K : PySem.W.Frag) (mg : Str → Option Value) (x : Str) (st : Stmt) (dvs : List V) : Prop where
  ex : ∃ f fd, FunD K x x (defArgs st) (defBody st) (defScope st) dvs [] f fd ∧ mg x = some (.ref f)
/-- called so that these fill up its last parameters -/
structure Dq (P : Program) (w : World) (K : PySem.W.Frag) (mg : Str → Option Value) (base : Heap) (CX : CXT) (x : Str) (ps : List Str) (dvs : List V) (k : Nat) (sp : Sp) : Prop where
  ex : ∃ f fd ds, FnOk P w K mg base CX k f fd ps sp ∧ mg x = some (.ref f) ∧ PySem.W.keepIn K (.ref f) = true ∧ Binds K fd ps ds ∧ Vals dvs ds
section
variable {P : Program} {w : World} {K : PySem.W.Frag} {mg : Str → Option Value} {base : Heap} {x : Str} {st : Stmt} {dvs : List V}
theorem FunD.ok0 {qual : Str} {f : Addr} {fd : FuncData} {N ps : List Str} {k : Nat} {sp : Sp} (F : FunD K x qual (defArgs st) (defBody st) (defScope st) dvs [] f fd) (S : FnScope N ps (defScope st)) (len : ∀ vs H Q E, sp vs H Q E → vs.length = ps.length)
    (hbody : ∀ (cdv : Value) (A : Around) (outer : List Env) (s : Shared) (H : Hp) (vs : List V) (Q : VK) (E : XK), Room k (A.deeper (PyProof.Rows.envOfC qual (defScope st) s.heap.objs.size f cdv)) → sp vs H Q E →
      ∃ t, PSs (cxOf CX0 P w K mg base N qual (defScope st) f cdv A outer s H E).nox (defBody st) t ∧ t { nx := fun _ H' => Q .non H', rt := Q } (start N vs) H) : FnOk P w K mg base CX0 (k + 1) f fd ps sp :=
  F.ok S len fun cdv A outer s H vs Q E hr hsp => by
    obtain ⟨t, h, q⟩ := hbody cdv A outer s H vs Q E hr hsp
    exact ⟨t, h.nox, q⟩
theorem dq_of {CX : CXT} {ps : List Str} {k : Nat} {sp : Sp} (n j : Nat) (h : HasD K mg x st dvs) (hd : dvs ≠ []) (hn : n + (dvs.length - j) = ps.length)
    (hb : ∀ (T : Addr) (kV doc pm : Value) (an : Option Addr) (cdv ct : Value) (us its : List Value), us.length = n → its.length = dvs.length →
      ∃ k, bindArgs (PySem.W.fnOf x x (defArgs st) (defBody st) (defScope st) (.ref T) kV doc pm an cdv ct) ⟨us, []⟩ = seqItems? (.ref T) >>= k ∧ k (some its.toArray) = pure (ps.zip (us ++ its.drop j)))
    (hf : ∀ f fd, FunD K x x (defArgs st) (defBody st) (defScope st) dvs [] f fd → FnOk P w K mg base CX k f fd ps sp) : Dq P w K mg base CX x ps (dvs.drop j) k sp := by
  obtain ⟨f, fd, F, hm⟩ := h.ex
  obtain ⟨ds, r, b⟩ := F.binds1 n j hd hn hb
  exact ⟨f, fd, ds, hf f fd F, hm, F.kp, b, r⟩
theorem hasD_mk {h : Heap} {f T : Addr} {oc cT : Value} {od an dT : Option Addr} {osl slT : Array (Option Value)} {kV doc pm cdv ct : Value} {i : Int} {tk : Tok} {n : Nat} (X : K.In h) (G : h.Ns mainGlobals mg)
    (a : PySem.W.nsIn K mainGlobals x = some (some (.ref f)))
    (l : K.lookup f = some ⟨oc, od, .func (PySem.W.fnOf x x (defArgs st) (defBody st) (defScope st) (.ref T) kV doc pm an cdv ct), osl⟩)
    (c : PySem.W.codeIn K cdv x = true) (k : PySem.W.keepIn K (.ref f) = true) (lT : K.lookup T = some ⟨cT, dT, .seq #[.int i tk] n, slT⟩) : HasD K mg x st [.int i] :=
  ⟨f, _, ⟨⟨oc, od, .ref T, kV, doc, pm, an, cdv, ct, osl, rfl, l, c, .inr ⟨by simp, T, _, [.int i tk], n, rfl, lT, rfl, .cons ⟨_, rfl⟩ .nil⟩, .inl rfl⟩, k⟩, PySem.W.mg_of X G a⟩
end
section
variable {X : Cx}
theorem pe_dq {CX : CXT} {x : Str} {ps : List Str} {dvs : List V} {k j : Nat} {sp : Sp} {E : XK} {e : Expr} {es : List Expr} {t : TA} {p pos : Pos} (h : Dq X.prog X.w X.K X.mg X.base CX x ps dvs k sp) (hr : Room j X.A) (hk : k ≤ j) (hx : Passes CX X E)
    (ha : PA X (e :: es) t) (hg : Gl X x := by rfl) (hdb : (x == ("__debug__" : Str)) = false := by decide) (he : starEach (e :: es) X.env = (false, eval e X.env) :: starEach es X.env := by rfl)
    (hpl : (backTo pos (starEach es X.env)).any (·.1) = false := by rfl) : PE X (.Call (.Name x p) (e :: es) [] pos) (tCall sp dvs E t) := by
  obtain ⟨f, fd, ds, F, hm, kp, b, r⟩ := h.ex
  exact pe_call F (hr.mono hk) hg hm kp b r hx ha hdb he hpl
end
end Db

namespace Db
open PySem L2 Evl
/-! ### the five rules, beat by beat -/
inductive Rule where
  | old | new | left | right | wait
  deriving DecidableEq
def Rule.name : Rule → Str
  | .old => "old" | .new => "new" | .left => "left" | .right => "right" | .wait => "wait"
def rdl (ws : List Nat) : Deed → List Nat
  | .rd c => [ws.getD c 0]
  | _ => []
def wrl (ws : List Nat) : Deed → List Nat
  | .wr c x => ws.set c x
  | _ => ws
theorem wrl_length (ws : List Nat) (d : Deed) : (wrl ws d).length = ws.length := by
  cases d <;> simp [wrl]
theorem rdl_length (ws : List Nat) (d : Deed) : (rdl ws d).length ≤ 1 := by
  cases d <;> simp [rdl]
theorem wrl_small {ws : List Nat} {d : Deed} {n : Nat} (h : ∀ x ∈ ws, x < 3) (hd : d.ok n) : ∀ x ∈ wrl ws d, x < 3 := by
  intro x hx
  cases d with
  | rd c => exact h x hx
  | rs => exact h x hx
  | wr c y =>
    rcases List.mem_or_eq_of_mem_set hx with hx | rfl
    · exact h x hx
    · exact hd.2
/-- what is told of a beat: the worths behind it, what is read at each door -/
def beat : Rule → List Nat → Deed → Deed → List Nat × List Nat × List Nat
  | .old, ws, d, e => (wrl (wrl ws e) d, rdl ws d, rdl ws e)
  | .new, ws, d, e => (wrl (wrl ws e) d, rdl (wrl (wrl ws e) d) d, rdl (wrl (wrl ws e) d) e)
  | .right, ws, d, e => (wrl (wrl ws e) d, rdl (wrl ws e) d, rdl ws e)
  | _, ws, d, e => (wrl (wrl ws d) e, rdl ws d, rdl (wrl ws d) e)
theorem beat_length (r : Rule) (ws : List Nat) (d e : Deed) : (beat r ws d e).1.length = ws.length := by
  cases r <;> simp [beat, wrl_length]
theorem beat_seen (r : Rule) (ws : List Nat) (d e : Deed) : (beat r ws d e).2.1.length ≤ 1 := by
  cases r <;> exact rdl_length _ _
theorem beat_others (r : Rule) (ws : List Nat) (d e : Deed) : (beat r ws d e).2.2.length ≤ 1 := by
  cases r <;> exact rdl_length _ _
theorem beat_small {r : Rule} {ws : List Nat} {d e : Deed} {n : Nat} (h : ∀ x ∈ ws, x < 3) (hd : d.ok n) (he : e.ok n) : ∀ x ∈ (beat r ws d e).1, x < 3 := by
  cases r
  case old => exact wrl_small (wrl_small h he) hd
  case new => exact wrl_small (wrl_small h he) hd
  case left => exact wrl_small (wrl_small h hd) he
  case right => exact wrl_small (wrl_small h he) hd
  case wait => exact wrl_small (wrl_small h hd) he
structure Sts where
  ws : List Nat
  l : List Deed
  r : List Deed
  ss : List Nat
  os : List Nat
  n : Nat
def Sts.done (S : Sts) : Prop := S.l = [] ∧ S.r = []
instance (S : Sts) : Decidable S.done := inferInstanceAs (Decidable (_ ∧ _))
/-- whether the right door waits -/
def waits (r : Rule) (S : Sts) : Bool := decide (r = .wait) && clashD (S.l.headD .rs) (S.r.headD .rs)
def after (S : Sts) (b : List Nat × List Nat × List Nat) (w : Bool) : Sts := { ws := b.1, l := S.l.tail, r := if w then S.r else S.r.tail, ss := S.ss ++ b.2.1, os := S.os ++ b.2.2, n := S.n + 1 }
def one (r : Rule) (S : Sts) : Sts := if waits r S = true then after S (beat .left S.ws (S.l.headD .rs) .rs) true else after S (beat r S.ws (S.l.headD .rs) (S.r.headD .rs)) false
def stepS (r : Rule) (S : Sts) : Sts := if S.done then S else one r S
def Sts.meas (S : Sts) : Nat := S.l.length + S.r.length
theorem waits_l {r : Rule} {S : Sts} (h : waits r S = true) : S.l ≠ [] := by
  intro z
  unfold waits at h
  rw [z] at h
  have e : clashD (([] : List Deed).headD .rs) (S.r.headD .rs) = false := rfl
  rw [e, Bool.and_false] at h
  cases h
theorem one_less {r : Rule} {S : Sts} (h : ¬ S.done) : (one r S).meas < S.meas := by
  unfold one
  by_cases hw : waits r S = true
  · rw [if_pos hw]
    have hl := waits_l hw
    unfold Sts.meas after
    cases hS : S.l with
    | nil => exact absurd hS hl
    | cons d t => simp
  · rw [if_neg hw]
    unfold Sts.meas after
    cases hl : S.l with
    | nil =>
      cases hr : S.r with
      | nil => exact absurd ⟨hl, hr⟩ h
      | cons e t => simp
    | cons d t =>
      cases hr : S.r with
      | nil => simp
      | cons e u => simp; omega
theorem stepS_of {r : Rule} {S : Sts} (h : ¬ S.done) : stepS r S = one r S := if_neg h
theorem stepS_done {r : Rule} {S : Sts} (h : S.done) : stepS r S = S := if_pos h
def runF (r : Rule) : Nat → Sts → Sts
  | 0, S => S
  | n + 1, S => runF r n (stepS r S)
theorem runF_done {r : Rule} {S : Sts} (h : S.done) : ∀ n, runF r n S = S
  | 0 => rfl
  | n + 1 => by
    rw [runF, stepS_done h]
    exact runF_done h n
theorem runF_more {r : Rule} : ∀ (n : Nat) (S : Sts), S.meas ≤ n → runF r n S = runF r S.meas S
  | 0, S, h => by rw [show S.meas = 0 by omega]
  | n + 1, S, h => by
    by_cases hd : S.done
    · rw [runF_done hd, runF_done hd]
    · have hl := one_less (r := r) hd
      obtain ⟨m, hm⟩ : ∃ m, S.meas = m + 1 := ⟨S.meas - 1, by omega⟩
      rw [hm, runF, runF, stepS_of hd, runF_more n _ (by omega)]
      by_cases e : m = n
      · rw [e, runF_more n _ (by omega)]
      · exact (runF_more m _ (by omega)).symm
  termination_by n => n
/-- what stands when all is done -/
def out (r : Rule) (S : Sts) : Sts := runF r S.meas S
theorem out_done {r : Rule} {S : Sts} (h : S.done) : out r S = S := runF_done h _
theorem out_one {r : Rule} {S : Sts} (h : ¬ S.done) : out r (one r S) = out r S := by
  unfold out
  have hl := one_less (r := r) h
  obtain ⟨m, hm⟩ : ∃ m, S.meas = m + 1 := ⟨S.meas - 1, by omega⟩
  rw [hm, runF, stepS_of h, runF_more m _ (by omega)]
def begin0 (ws : List Nat) (l r : List Deed) : Sts := ⟨ws, l, r, [], [], 0⟩
/-- what stays of a state through all beats: sizes, worths, deeds -/
structure Fit (c : Nat) (m : Nat) (S : Sts) : Prop where
  len : S.ws.length = c
  small : ∀ x ∈ S.ws, x < 3
  okl : ∀ d ∈ S.l, d.ok c
  okr : ∀ d ∈ S.r, d.ok c
  ss : S.ss.length + S.meas ≤ m
  os : S.os.length + S.meas ≤ m
  n : S.n + S.meas ≤ m
theorem ok_headD {c : Nat} {l : List Deed} (h : ∀ d ∈ l, d.ok c) : (l.headD .rs).ok c := by
  cases l with
  | nil => exact True.intro
  | cons d t => exact h d List.mem_cons_self
theorem mem_tail {l : List Deed} {d : Deed} (h : d ∈ l.tail) : d ∈ l := by
  cases l with
  | nil => exact h
  | cons e t => exact List.mem_cons_of_mem _ h
theorem Fit.one {c m : Nat} {S : Sts} {r : Rule} (F : Fit c m S) (h : ¬ S.done) : Fit c m (one r S) := by
  have hl := one_less (r := r) h
  have h1 := ok_headD F.okl
  have h2 := ok_headD F.okr
  by_cases hw : waits r S = true
  · have e : Db.one r S = after S (beat .left S.ws (S.l.headD .rs) .rs) true := if_pos hw
    rw [e] at hl ⊢
    have a1 := beat_seen .left S.ws (S.l.headD .rs) .rs
    have a2 := beat_others .left S.ws (S.l.headD .rs) .rs
    refine ⟨(beat_length _ _ _ _).trans F.len, beat_small F.small h1 (e := .rs) (n := c) True.intro, fun d hd => F.okl d (mem_tail hd), fun d hd => F.okr d hd, ?_, ?_, ?_⟩
    · have := F.ss
      show (S.ss ++ _).length + _ ≤ m
      rw [List.length_append]; omega
    · have := F.os
      show (S.os ++ _).length + _ ≤ m
      rw [List.length_append]; omega
    · have := F.n
      show S.n + 1 + _ ≤ m
      omega
  · have e : Db.one r S = after S (beat r S.ws (S.l.headD .rs) (S.r.headD .rs)) false := if_neg hw
    rw [e] at hl ⊢
    have a1 := beat_seen r S.ws (S.l.headD .rs) (S.r.headD .rs)
    have a2 := beat_others r S.ws (S.l.headD .rs) (S.r.headD .rs)
    refine ⟨(beat_length _ _ _ _).trans F.len, beat_small F.small h1 h2, fun d hd => F.okl d (mem_tail hd), fun d hd => F.okr d (mem_tail hd), ?_, ?_, ?_⟩
    · have := F.ss
      show (S.ss ++ _).length + _ ≤ m
      rw [List.length_append]; omega
    · have := F.os
      show (S.os ++ _).length + _ ≤ m
      rw [List.length_append]; omega
    · have := F.n
      show S.n + 1 + _ ≤ m
      omega
theorem Fit.begin0 {c : Nat} {ws : List Nat} {l r : List Deed} (h1 : ws.length = c) (h2 : ∀ x ∈ ws, x < 3) (h3 : ∀ d ∈ l, d.ok c) (h4 : ∀ d ∈ r, d.ok c) : Fit c (l.length + r.length) (begin0 ws l r) :=
  ⟨h1, h2, h3, h4, by show 0 + _ ≤ _; unfold Sts.meas; simp [Db.begin0], by show 0 + _ ≤ _; unfold Sts.meas; simp [Db.begin0], by show 0 + _ ≤ _; unfold Sts.meas; simp [Db.begin0]⟩
theorem fit_runF {c m : Nat} {r : Rule} : ∀ (n : Nat) (S : Sts), Fit c m S → Fit c m (runF r n S)
  | 0, _, F => F
  | n + 1, S, F => by
    rw [runF]
    refine fit_runF n _ ?_
    by_cases h : S.done
    · rw [stepS_done h]; exact F
    · rw [stepS_of h]; exact F.one h
theorem fit_out {c m : Nat} {r : Rule} {S : Sts} (F : Fit c m S) : Fit c m (out r S) := fit_runF _ _ F

/-! ### deeds through changes of lists -/
theorem t_but {K : PySem.W.Frag} {H H' : Hp} {S : List Addr} {a : Addr} {xs : List V} (b : Bt S H H') (hp : ∀ p ∈ S, ∃ us, H p = some (.lst us)) (q : SqT K H a xs) : SqT K H' a xs := by
  have ne : ∀ o, H a = some o → (∀ xs, o ≠ .lst xs) → ¬ a ∈ S := by
    intro o ho no hm
    obtain ⟨us, h⟩ := hp a hm
    rw [h] at ho
    exact no us (Option.some.inj ho).symm
  rcases q with (h2 | ⟨o, h2⟩) | h2
  · exact .inl (.inl (b a _ (ne _ h2 (fun _ z => by cases z)) h2))
  · exact .inl (.inr ⟨o, b a _ (ne _ h2 (fun _ z => by cases z)) h2⟩)
  · exact .inr h2
theorem dv_buts {K : PySem.W.Frag} {H H' : Hp} {S : List Addr} {v : V} {d : Deed} (b : Bt S H H') (hp : ∀ p ∈ S, ∃ us, H p = some (.lst us)) (q : DV K H v d) : DV K H' v d := by
  obtain ⟨a, h1, h2⟩ := q
  exact ⟨a, h1, t_but b hp h2⟩
theorem pv_buts {K : PySem.W.Frag} {H H' : Hp} {S : List Addr} {vs : List V} {ds : List Deed} (b : Bt S H H') (hp : ∀ p ∈ S, ∃ us, H p = some (.lst us)) (q : PV K H vs ds) : PV K H' vs ds := pv_map (fun _ _ => dv_buts b hp) q
theorem Bt.set {S : List Addr} {H H' : Hp} {p : Addr} {o : HO} (a : Bt S H H') (hp : p ∈ S) : Bt S H (L2.upd H' p o) := a.upd (.inl hp)
/-- a name is set: on with what follows -/
theorem gn {i : Nat} {v : V} {σ : L2.St} {H : Hp} {Q : L2.St → Hp → Prop} (h : Q (σ.set i (some v)) H) : gName i v σ H Q := h
theorem headD_drop : ∀ (ds : List Deed) (i : Nat), (ds.drop i).headD .rs = ds.getD i .rs
  | [], i => by simp
  | d :: r, 0 => rfl
  | d :: r, i + 1 => by
    have h := headD_drop r i
    simpa using h
theorem Dn.up {P : Program} {w : World} {K : PySem.W.Frag} {mg : Str → Option Value} {base : Heap} {CX : CXT} {x : Str} {ps : List Str} {j k : Nat} {sp : Sp} (h : Dn P w K mg base CX x ps j sp) (hk : j ≤ k) : Dn P w K mg base CX x ps k sp := by
  obtain ⟨f, fd, F, a, b, c⟩ := h.ex
  exact ⟨f, fd, F.mono hk, a, b, c⟩
/-- an extension of what stood ahead, if the places were new -/
theorem Bt.ex_back {S : List Addr} {H H1 H2 : Hp} (b : Bt S H H1) (f : Ex H1 H2) (h : ∀ p ∈ S, H p = none) : Ex H H2 := fun a o q => by
  refine f _ _ (b a o (fun hm => ?_) q)
  rw [h a hm] at q
  cases q
def ruleNames : List V := [.str "old", .str "new", .str "left", .str "right", .str "wait"]
/-! ### more of evaluation -/
section
variable {K : PySem.W.Frag} {σ : L2.St} {H : Hp} {ta tb te : TE} {t : TT} {D : Ends}
theorem el_if {b : Bool} {xs : List V} (h : EvT t σ H b) (h1 : b = true → EvL ta σ H xs) (h2 : b = false → EvL tb σ H xs) : EvL (tIf t ta tb) σ H xs := fun H1 e Q q => h H1 e _ fun H2 e2 => by
  cases b with
  | true =>
    show ta σ H2 Q
    exact h1 rfl H2 (e.trans e2) Q fun p H3 hp e3 h3 => q p H3 (fresh_back e2 hp) (e2.trans e3) h3
  | false =>
    show tb σ H2 Q
    exact h2 rfl H2 (e.trans e2) Q fun p H3 hp e3 h3 => q p H3 (fresh_back e2 hp) (e2.trans e3) h3
theorem el_cat {a b : Addr} {xs ys : List V} (ha : Ev ta σ H (.ref a)) (hb : Ev tb σ H (.ref b)) (h1 : H a = some (.lst xs)) (h2 : H b = some (.lst ys)) (hz : xs.length + ys.length ≤ 100000) : EvL (tOp rCat ta tb) σ H (xs ++ ys) := fun H1 e Q q =>
  ha H1 e _ fun H2 e2 => hb H2 (e.trans e2) _ fun H3 e3 => ⟨a, b, xs, ys, rfl, rfl, ((e.trans e2).trans e3) _ _ h1, ((e.trans e2).trans e3) _ _ h2, sz_of hz, fun p hp => q p _ (fresh_back (e2.trans e3) hp) ((e2.trans e3).trans (Ex.new hp)) upd_same⟩
theorem el_listA {p : Addr} {xs : List V} (ha : Ev ta σ H (.ref p)) (h : SqA K H p xs) : EvL (tCB (rListS K) (tCons ta tNil)) σ H xs := fun H1 e Q q =>
  ha H1 e _ fun H2 e2 => ⟨p, xs, rfl, ex_a (e.trans e2) h, fun l hl => q l _ (fresh_back e2 hl) (e2.trans (Ex.new hl)) upd_same⟩
/-- if the deed in a slot is a write, it is done at the list in another -/
theorem wr_body {i j : Nat} {p : Addr} {x : V} {dd : Deed} {u : List Nat} (hx : σ[i]? = some (some x)) (hp : σ[j]? = some (some (.ref p))) (dv : DV K H x dd) (h : H p = some (.lst (u.map wV))) (ho : dd.ok u.length)
    (k : ∀ H', Bt [p] H H' → H' p = some (.lst ((wrl u dd).map wV)) → D.nx σ H') :
    tIfS (tTest (tOp rEq (tOp (rIxT K) (tVar i) (tC (.int 0))) (tC (.str "write")))) (tAsg (tOp (rIxT K) (tVar i) (tC (.int 2))) (gSub (tVar j) (tOp (rIxT K) (tVar i) (tC (.int 1))) rSetL)) tNext D σ H := by
  obtain ⟨a, rfl, h1⟩ := dv
  refine s_when (b := decide (V.str dd.tag = V.str "write")) (et_test (ev_op (ev_op (ev_var hx) ev_c (DV.tag h1)) ev_c (rv_eq rfl))) (fun hb H1 f1 => ?_) (fun hb H1 f1 => ?_)
  · cases dd with
    | rd c => exact absurd hb (by show ¬ decide (V.str "read" = V.str "write") = true; decide +kernel)
    | rs => exact absurd hb (by show ¬ decide (V.str "rest" = V.str "write") = true; decide +kernel)
    | wr c y =>
      have g1 := ex_t f1 h1
      obtain ⟨hc, hy⟩ : c < u.length ∧ y < 3 := ho
      refine s_setL (l := p) (v := wV y) (j := c) (f1 _ _ h) (ev_op (ev_var hx) ev_c (rv_ixT g1 rfl)) (ev_var hp) (ev_op (ev_var hx) ev_c (rv_ixT g1 rfl)) (by rw [List.length_map]; exact hc) fun H2 f2 => ?_
      refine k _ ((Bt.of_ex (f1.trans f2)).upd (.inl (by simp))) ?_
      rw [upd_same, wrl, List.map_set]
  · refine k _ (Bt.of_ex f1) ?_
    cases dd with
    | wr c y => exact absurd hb (by show ¬ decide (V.str "write" = V.str "write") = false; decide +kernel)
    | rd c => exact f1 _ _ h
    | rs => exact f1 _ _ h
end
section
variable {K : PySem.W.Frag} {σ : L2.St} {H : Hp} {ta tb te : TE} {t : TT} {D : Ends} {tz : TS}
/-- xs.extend(ys), two lists -/
theorem s_ext {l b : Addr} {xs zs : List V} (hl : H l = some (.lst xs)) (hb : H b = some (.lst zs)) (ha : Ev ta σ H (.ref l)) (h : Ev te σ H (.ref b)) (hz : xs.length + zs.length ≤ 100000) (k : ∀ H1, Ex H H1 → D.nx σ (upd H1 l (.lst (xs ++ zs)))) :
    tDrop (tBM K "list" rExtend ta (tCons te tNil)) D σ H := ha H (Ex.refl H) _ fun H1 e1 =>
  ⟨Or.inl ⟨rfl, xs, sq_of (e1 l _ hl)⟩, h H1 e1 _ fun H2 e2 => ⟨l, b, xs, zs, rfl, rfl, e2 l _ (e1 l _ hl), e2 b _ (e1 b _ hb), sz_of hz, k H2 (e1.trans e2)⟩⟩
theorem q_ext {l b : Addr} {xs zs : List V} (hl : H l = some (.lst xs)) (hb : H b = some (.lst zs)) (ha : Ev ta σ H (.ref l)) (h : Ev te σ H (.ref b)) (hz : xs.length + zs.length ≤ 100000) (k : ∀ H1, Ex H H1 → tz D σ (upd H1 l (.lst (xs ++ zs)))) :
    tSeq (tDrop (tBM K "list" rExtend ta (tCons te tNil))) tz D σ H := s_ext (D := { D with nx := tz D }) hl hb ha h hz k
/-- xs.clear() -/
theorem s_clear {l : Addr} {xs : List V} (hl : H l = some (.lst xs)) (ha : Ev ta σ H (.ref l)) (k : ∀ H1, Ex H H1 → D.nx σ (upd H1 l (.lst []))) : tDrop (tBM0 K "list" rClear ta) D σ H := ha H (Ex.refl H) _ fun H1 e1 =>
  ⟨Or.inl ⟨rfl, xs, sq_of (e1 l _ hl)⟩, ⟨l, xs, rfl, rfl, e1 l _ hl, k H1 e1⟩⟩
end
theorem PV.append {K : PySem.W.Frag} {H : Hp} : ∀ {us vs : List V} {ds es : List Deed}, PV K H us ds → PV K H vs es → PV K H (us ++ vs) (ds ++ es)
  | _, _, _, _, .nil, h => h
  | _, _, _, _, .cons a t, h => .cons a (PV.append t h)
theorem sh_deeds (ds : List Deed) : Sh 2 (.list (ds.map fun d => .tuple d.dat)) := sh_lst fun x hx => by
  obtain ⟨d, _, rfl⟩ := List.mem_map.mp hx
  exact d.sh
theorem sh_two (ds es : List Deed) : Sh 3 (.tuple [.list (ds.map fun d => .tuple d.dat), .list (es.map fun d => .tuple d.dat)]) := sh_tup fun x hx => by
  simp only [List.mem_cons, List.not_mem_nil, or_false] at hx
  rcases hx with rfl | rfl
  · exact sh_deeds _
  · exact sh_deeds _
theorem PV.dp {K : PySem.W.Frag} {H : Hp} {p : Addr} {us : List V} {ds : List Deed} (h : SqL K H p us) (q : PV K H us ds) : Dp K H (.ref p) (.list (ds.map fun d => .tuple d.dat)) := .lst h (dpa_of q)
theorem eqv_deeds_nil (ds : List Deed) : PyData.eqv (.list (ds.map fun d => .tuple d.dat)) (.list []) = decide (ds = []) := by
  cases ds with
  | nil => simp [PyData.eqv, PyData.eqvAll]
  | cons d r => simp [PyData.eqv, PyData.eqvAll]
theorem getD_zero (ds : List Deed) : ds.getD 0 .rs = ds.headD .rs := by cases ds <;> rfl
/-- the rule that a beat is done by -/
def rule2 (r : Rule) : Rule := if r = .wait then .left else r
theorem rule2_ne (r : Rule) : rule2 r ≠ .wait := by cases r <;> decide
theorem one_eq (r : Rule) (S : Sts) : one r S = after S (beat (rule2 r) S.ws (S.l.headD .rs) (if waits r S = true then .rs else S.r.headD .rs)) (waits r S) := by
  unfold one
  by_cases h : waits r S = true
  · have hr : r = .wait := by
      unfold waits at h
      rw [Bool.and_eq_true] at h
      exact of_decide_eq_true h.1
    rw [if_pos h, if_pos h, h, hr]
    rfl
  · have h2 : waits r S = false := by
      cases q : waits r S with
      | true => exact absurd q h
      | false => rfl
    rw [if_neg h, if_neg h, h2]
    cases r <;> rfl
theorem Draw.out {H : Hp} {h l p : Addr} (D : Draw H h l) (hp : H p = none) : ¬ p ∈ [h, l] := by
  obtain ⟨_, _, _, q1, q2, _⟩ := D.st
  simp only [List.mem_cons, List.not_mem_nil, or_false]
  rintro (rfl | rfl)
  · rw [hp] at q1; cases q1
  · rw [hp] at q2; cases q2
theorem rule_at {i : Nat} {x : V} (h : ruleNames[i]? = some x) : ∃ r : Rule, x = .str r.name := by
  match i, h with
  | 0, h => exact ⟨.old, (Option.some.inj h).symm⟩
  | 1, h => exact ⟨.new, (Option.some.inj h).symm⟩
  | 2, h => exact ⟨.left, (Option.some.inj h).symm⟩
  | 3, h => exact ⟨.right, (Option.some.inj h).symm⟩
  | 4, h => exact ⟨.wait, (Option.some.inj h).symm⟩
  | i + 5, h => simp [ruleNames] at h
/-- worths as data -/
def wD (ws : List Nat) : List PyData := ws.map fun (n : Nat) => PyData.int (n : Int)
theorem dpa_w {K : PySem.W.Frag} {H : Hp} : ∀ ws : List Nat, DpAll K H (ws.map wV) (wD ws)
  | [] => .nil
  | n :: r => .cons (.int (n : Int)) (dpa_w r)
theorem nice_w {ws : List Nat} {n : Nat} (h : ws.length ≤ 1000) : Nice (n + 1) (.list (wD ws)) := .lst (by unfold wD; rw [List.length_map]; exact h) fun d hd => by
  obtain ⟨x, _, rfl⟩ := List.mem_map.mp hd
  exact .int _
theorem nice_wT {ws : List Nat} {n : Nat} (h : ws.length ≤ 1000) : Nice (n + 1) (.tuple (wD ws)) := .tup (by unfold wD; rw [List.length_map]; exact h) fun d hd => by
  obtain ⟨x, _, rfl⟩ := List.mem_map.mp hd
  exact .int _
theorem rdl_wrl (u : List Nat) (d : Deed) : rdl (wrl u d) d = rdl u d := by cases d <;> rfl
def looksK (a b c d : V) : List (Key × V) := [(.inr "old", a), (.inr "new", b), (.inr "left", c), (.inr "right", d)]
def lookOf (r : Rule) (a b c d : V) : V := match r with
  | .old => a | .new => b | .left => c | .right => d | .wait => c
theorem looks_at (r : Rule) (hr : r ≠ .wait) (a b c d : V) : valV (mergeK [] (looksK a b c d)) (.inr r.name) = some (lookOf r a b c d) := by
  cases r with
  | old => rfl
  | new => rfl
  | left => rfl
  | right => rfl
  | wait => exact absurd rfl hr
/-- the written things of the rules' file: the text of the rules, their defs -/
def Rule.step : Rule → Str
  | .old => "step_old" | .new => "step_new" | .left => "step_left" | .right => "step_right" | .wait => "step_left"
theorem in_rules (r : Rule) : inV (.str r.name) ruleNames = true := by cases r <;> decide +kernel
structure TxR (K : PySem.W.Frag) (mg : Str → Option Value) (w : World) (aRULES aSTEPS : Addr) : Prop where
  g_RULES : mg "RULES" = some (.ref aRULES)
  RULES : ∀ H, SqT K H aRULES ruleNames
  g_STEPS : mg "STEPS" = some (.ref aSTEPS)
  STEPS : ∀ r : Rule, ∃ f, mg r.step = some (.ref f) ∧ KDct K w aSTEPS r.name (.ref f)
/-- the beats in which two programs clash -/
def clashesD (ds es : List Deed) : List Nat := (List.range (min ds.length es.length)).filter fun i => clashD (ds.getD i .rs) (es.getD i .rs)
theorem clashD_comm (d e : Deed) : clashD d e = clashD e d := by
  unfold clashD
  cases d.cell with
  | none => cases e.cell <;> rfl
  | some a =>
    cases e.cell with
    | none => rfl
    | some b =>
      show (decide (a = b) && (d.isW || e.isW)) = (decide (b = a) && (e.isW || d.isW))
      rw [Bool.or_comm, show decide (a = b) = decide (b = a) from decide_eq_decide.mpr eq_comm]
theorem clashesD_comm (ds es : List Deed) : clashesD ds es = clashesD es ds := by
  unfold clashesD
  rw [Nat.min_comm]
  congr 1
  funext i
  exact clashD_comm _ _
/-- those ahead of a beat -/
def clashesTo (ds es : List Deed) (n : Nat) : List Nat := (List.range n).filter fun i => clashD (ds.getD i .rs) (es.getD i .rs)
theorem clashesTo_succ (ds es : List Deed) (n : Nat) : clashesTo ds es (n + 1) = if clashD (ds.getD n .rs) (es.getD n .rs) = true then clashesTo ds es n ++ [n] else clashesTo ds es n := by
  unfold clashesTo
  rw [List.range_succ, List.filter_append, List.filter_cons, List.filter_nil]
  split
  · rfl
  · rw [List.append_nil]
theorem clashesTo_length (ds es : List Deed) (n : Nat) : (clashesTo ds es n).length ≤ n := by
  have h := List.length_filter_le (fun i => clashD (ds.getD i .rs) (es.getD i .rs)) (List.range n)
  rw [List.length_range] at h
  exact h
theorem rc_min {H : Hp} {i j : Int} : RC (fun xs H Q => ∃ i j, xs = [V.int i, V.int j] ∧ Q (.int (if j < i then j else i)) H) [.int i, .int j] H (.int (if j < i then j else i)) := fun H1 _ _ q => ⟨i, j, rfl, q H1 (Ex.refl H1)⟩
/-! ### what the top has written -/
theorem txp_mk {K : PySem.W.Frag} {h : Heap} {mg : Str → Option Value} {aR aW : Addr} {t4 t40 t1 u0 u1 u2 : Tok} {d1 d2 : Option Addr} {n1 n2 : Nat} {sl1 sl2 : Array (Option Value)} (X : K.In h) (G : h.Ns mainGlobals mg)
    (a1 : PySem.W.nsIn K mainGlobals "REST" = some (some (.ref aR))) (l1 : K.lookup aR = some ⟨.type "tuple", d1, .seq #[.str "rest" t1] n1, sl1⟩)
    (a2 : PySem.W.nsIn K mainGlobals "WORTHS" = some (some (.ref aW))) (l2 : K.lookup aW = some ⟨.type "tuple", d2, .seq #[.int 0 u0, .int 1 u1, .int 2 u2] n2, sl2⟩)
    (c4 : PySem.W.nsIn K mainGlobals "MOST_CELLS" = some (some (.int 4 t4))) (c40 : PySem.W.nsIn K mainGlobals "MOST_DEEDS" = some (some (.int 40 t40))) : TxP K mg aR aW t4 t40 :=
  ⟨PySem.W.mg_of X G a1, sqt_K l1 (by show 1 ≤ sizeLine; decide) (.cons ⟨_, rfl⟩ .nil), PySem.W.mg_of X G a2, sqt_K l2 (by show 3 ≤ sizeLine; decide) (.cons ⟨_, rfl⟩ (.cons ⟨_, rfl⟩ (.cons ⟨_, rfl⟩ .nil))), PySem.W.mg_of X G c4, PySem.W.mg_of X G c40⟩
theorem txr_mk {K : PySem.W.Frag} {h : Heap} {mg : Str → Option Value} {w : World} {aR aS : Addr} {t1 t2 t3 t4 t5 : Tok} {d1 : Option Addr} {n1 n : Nat} {sl1 : Array (Option Value)} {es : Array DictEntry} {f1 f2 f3 f4 : Addr} (X : K.In h) (G : h.Ns mainGlobals mg)
    (a1 : PySem.W.nsIn K mainGlobals "RULES" = some (some (.ref aR))) (l1 : K.lookup aR = some ⟨.type "tuple", d1, .seq #[.str "old" t1, .str "new" t2, .str "left" t3, .str "right" t4, .str "wait" t5] n1, sl1⟩)
    (a2 : PySem.W.nsIn K mainGlobals "STEPS" = some (some (.ref aS))) (l2 : K.lookup aS = some ⟨.type "dict", none, .dict es n, #[]⟩) (kl : PySem.W.KeysLit w.params es.toList)
    (g1 : PySem.W.nsIn K mainGlobals "step_old" = some (some (.ref f1))) (g2 : PySem.W.nsIn K mainGlobals "step_new" = some (some (.ref f2))) (g3 : PySem.W.nsIn K mainGlobals "step_left" = some (some (.ref f3))) (g4 : PySem.W.nsIn K mainGlobals "step_right" = some (some (.ref f4)))
    (k1 : PySem.W.nsIn K aS "old" = some (some (.ref f1))) (k2 : PySem.W.nsIn K aS "new" = some (some (.ref f2))) (k3 : PySem.W.nsIn K aS "left" = some (some (.ref f3))) (k4 : PySem.W.nsIn K aS "right" = some (some (.ref f4))) (k5 : PySem.W.nsIn K aS "wait" = some (some (.ref f3))) : TxR K mg w aR aS := by
  refine ⟨PySem.W.mg_of X G a1, sqt_K l1 (by show 5 ≤ sizeLine; decide) (.cons ⟨_, rfl⟩ (.cons ⟨_, rfl⟩ (.cons ⟨_, rfl⟩ (.cons ⟨_, rfl⟩ (.cons ⟨_, rfl⟩ .nil))))), PySem.W.mg_of X G a2, fun r => ?_⟩
  cases r with
  | old => exact ⟨f1, PySem.W.mg_of X G g1, es, n, _, l2, kl, k1, rfl⟩
  | new => exact ⟨f2, PySem.W.mg_of X G g2, es, n, _, l2, kl, k2, rfl⟩
  | left => exact ⟨f3, PySem.W.mg_of X G g3, es, n, _, l2, kl, k3, rfl⟩
  | right => exact ⟨f4, PySem.W.mg_of X G g4, es, n, _, l2, kl, k4, rfl⟩
  | wait => exact ⟨f3, PySem.W.mg_of X G g3, es, n, _, l2, kl, k5, rfl⟩
theorem nb_mk {K : PySem.W.Frag} {h : Heap} {mg : Str → Option Value} (X : K.In h) (G : h.Ns mainGlobals mg)
    (h1 : PySem.W.nsIn K mainGlobals "len" = some none) (h2 : PySem.W.nsIn K mainGlobals "isinstance" = some none) (h3 : PySem.W.nsIn K mainGlobals "max" = some none) (h4 : PySem.W.nsIn K mainGlobals "min" = some none)
    (h5 : PySem.W.nsIn K mainGlobals "range" = some none) (h6 : PySem.W.nsIn K mainGlobals "enumerate" = some none) (h7 : PySem.W.nsIn K mainGlobals "zip" = some none) (h8 : PySem.W.nsIn K mainGlobals "list" = some none)
    (h9 : PySem.W.nsIn K mainGlobals "tuple" = some none) (h10 : PySem.W.nsIn K mainGlobals "int" = some none) (h11 : PySem.W.nsIn K mainGlobals "bool" = some none) (h12 : PySem.W.nsIn K mainGlobals "str" = some none) : Nb mg :=
  ⟨PySem.W.mg_none_of X G h1, PySem.W.mg_none_of X G h2, PySem.W.mg_none_of X G h3, PySem.W.mg_none_of X G h4, PySem.W.mg_none_of X G h5, PySem.W.mg_none_of X G h6, PySem.W.mg_none_of X G h7, PySem.W.mg_none_of X G h8, PySem.W.mg_none_of X G h9, PySem.W.mg_none_of X G h10, PySem.W.mg_none_of X G h11, PySem.W.mg_none_of X G h12⟩
end Db

namespace Db
open PySem L2 Evl
def top (i : Nat) : Stmt := PySem.Challenge.pw_doorbeat_k02_whole_run_by_rules.main.body.getD i (.Pass ⟨0, 0, 0, 0⟩)
abbrev s_is_whole : Stmt := top 10
theorem sc_is_whole : FnScope ["value"] ["value"] (defScope s_is_whole) := ⟨rfl, rfl, rfl, by decide +kernel, rfl, by decide +kernel, by decide +kernel⟩
abbrev s_is_cell : Stmt := top 11
theorem sc_is_cell : FnScope ["value", "cells"] ["value", "cells"] (defScope s_is_cell) := ⟨rfl, rfl, rfl, by decide +kernel, rfl, by decide +kernel, by decide +kernel⟩
abbrev s_is_worth : Stmt := top 12
theorem sc_is_worth : FnScope ["value"] ["value"] (defScope s_is_worth) := ⟨rfl, rfl, rfl, by decide +kernel, rfl, by decide +kernel, by decide +kernel⟩
abbrev s_is_deed : Stmt := top 13
theorem sc_is_deed : FnScope ["deed", "cells"] ["deed", "cells"] (defScope s_is_deed) := ⟨rfl, rfl, rfl, by decide +kernel, rfl, by decide +kernel, by decide +kernel⟩
abbrev s_check_cells : Stmt := top 14
theorem sc_check_cells : FnScope ["cells"] ["cells"] (defScope s_check_cells) := ⟨rfl, rfl, rfl, by decide +kernel, rfl, by decide +kernel, by decide +kernel⟩
abbrev s_check_memory : Stmt := top 15
theorem sc_check_memory : FnScope ["memory", "worth"] ["memory"] (defScope s_check_memory) := ⟨rfl, rfl, rfl, by decide +kernel, rfl, by decide +kernel, by decide +kernel⟩
abbrev s_check_program : Stmt := top 16
theorem sc_check_program : FnScope ["door", "program", "cells", "most", "place", "deed"] ["door", "program", "cells", "most"] (defScope s_check_program) := ⟨rfl, rfl, rfl, by decide +kernel, rfl, by decide +kernel, by decide +kernel⟩
abbrev s_check_programs : Stmt := top 17
theorem sc_check_programs : FnScope ["left", "right", "cells", "most"] ["left", "right", "cells", "most"] (defScope s_check_programs) := ⟨rfl, rfl, rfl, by decide +kernel, rfl, by decide +kernel, by decide +kernel⟩
abbrev s_clash : Stmt := top 18
theorem sc_clash : FnScope ["deed", "other"] ["deed", "other"] (defScope s_clash) := ⟨rfl, rfl, rfl, by decide +kernel, rfl, by decide +kernel, by decide +kernel⟩
abbrev s_read_cell : Stmt := top 20
theorem sc_read_cell : FnScope ["worths", "deed", "seen"] ["worths", "deed", "seen"] (defScope s_read_cell) := ⟨rfl, rfl, rfl, by decide +kernel, rfl, by decide +kernel, by decide +kernel⟩
abbrev s_write_cell : Stmt := top 21
theorem sc_write_cell : FnScope ["worths", "deed"] ["worths", "deed"] (defScope s_write_cell) := ⟨rfl, rfl, rfl, by decide +kernel, rfl, by decide +kernel, by decide +kernel⟩
abbrev s_write_both : Stmt := top 22
theorem sc_write_both : FnScope ["worths", "deed", "other"] ["worths", "deed", "other"] (defScope s_write_both) := ⟨rfl, rfl, rfl, by decide +kernel, rfl, by decide +kernel, by decide +kernel⟩
abbrev s_step_old : Stmt := top 23
theorem sc_step_old : FnScope ["worths", "deed", "other", "seen", "others"] ["worths", "deed", "other", "seen", "others"] (defScope s_step_old) := ⟨rfl, rfl, rfl, by decide +kernel, rfl, by decide +kernel, by decide +kernel⟩
abbrev s_step_new : Stmt := top 24
theorem sc_step_new : FnScope ["worths", "deed", "other", "seen", "others"] ["worths", "deed", "other", "seen", "others"] (defScope s_step_new) := ⟨rfl, rfl, rfl, by decide +kernel, rfl, by decide +kernel, by decide +kernel⟩
abbrev s_step_left : Stmt := top 25
theorem sc_step_left : FnScope ["worths", "deed", "other", "seen", "others"] ["worths", "deed", "other", "seen", "others"] (defScope s_step_left) := ⟨rfl, rfl, rfl, by decide +kernel, rfl, by decide +kernel, by decide +kernel⟩
abbrev s_step_right : Stmt := top 26
theorem sc_step_right : FnScope ["worths", "deed", "other", "seen", "others"] ["worths", "deed", "other", "seen", "others"] (defScope s_step_right) := ⟨rfl, rfl, rfl, by decide +kernel, rfl, by decide +kernel, by decide +kernel⟩
abbrev s_check_rule : Stmt := top 29
theorem sc_check_rule : FnScope ["rule"] ["rule"] (defScope s_check_rule) := ⟨rfl, rfl, rfl, by decide +kernel, rfl, by decide +kernel, by decide +kernel⟩
abbrev s_due : Stmt := top 30
theorem sc_due : FnScope ["program", "place"] ["program", "place"] (defScope s_due) := ⟨rfl, rfl, rfl, by decide +kernel, rfl, by decide +kernel, by decide +kernel⟩
abbrev s_play : Stmt := top 31
theorem sc_play : FnScope ["rule", "memory", "left", "right", "step", "worths", "seen", "others", "beats", "place", "deed", "other"] ["rule", "memory", "left", "right"] (defScope s_play) := ⟨rfl, rfl, rfl, by decide +kernel, rfl, by decide +kernel, by decide +kernel⟩
abbrev s_run : Stmt := top 32
theorem sc_run : FnScope ["rule", "memory", "left", "right"] ["rule", "memory", "left", "right"] (defScope s_run) := ⟨rfl, rfl, rfl, by decide +kernel, rfl, by decide +kernel, by decide +kernel⟩
abbrev s_law_mix : Stmt := top 34
theorem sc_law_mix : FnScope ["_law_script", "_law_seed", "_law_mixed", "_law_cell"] ["_law_script", "_law_seed"] (defScope s_law_mix) := ⟨rfl, rfl, rfl, by decide +kernel, rfl, by decide +kernel, by decide +kernel⟩
abbrev s_law_next : Stmt := top 35
theorem sc_law_next : FnScope ["_law_h", "_law_many", "_law_at_here", "_law_cell"] ["_law_h", "_law_many"] (defScope s_law_next) := ⟨rfl, rfl, rfl, by decide +kernel, rfl, by decide +kernel, by decide +kernel⟩
abbrev s_law_alike : Stmt := top 36
theorem sc_law_alike : FnScope ["_law_found", "_law_due", "_law_k"] ["_law_found", "_law_due"] (defScope s_law_alike) := ⟨rfl, rfl, rfl, by decide +kernel, rfl, by decide +kernel, by decide +kernel⟩
abbrev s_law_deed : Stmt := top 37
theorem sc_law_deed : FnScope ["_law_h", "_law_cells", "_law_cell"] ["_law_h", "_law_cells"] (defScope s_law_deed) := ⟨rfl, rfl, rfl, by decide +kernel, rfl, by decide +kernel, by decide +kernel⟩
abbrev s_law_program : Stmt := top 38
theorem sc_law_program : FnScope ["_law_h", "_law_cells", "_law_most", "_law_k"] ["_law_h", "_law_cells", "_law_most"] (defScope s_law_program) := ⟨rfl, rfl, rfl, by decide +kernel, rfl, by decide +kernel, by decide +kernel⟩
abbrev s_law_memory : Stmt := top 39
theorem sc_law_memory : FnScope ["_law_h", "_law_cells", "_law_k"] ["_law_h", "_law_cells"] (defScope s_law_memory) := ⟨rfl, rfl, rfl, by decide +kernel, rfl, by decide +kernel, by decide +kernel⟩
abbrev s_law_meet : Stmt := top 40
theorem sc_law_meet : FnScope ["_law_one", "_law_other", "_law_some", "_law_deed_here"] ["_law_one", "_law_other"] (defScope s_law_meet) := ⟨rfl, rfl, rfl, by decide +kernel, rfl, by decide +kernel, by decide +kernel⟩
abbrev s_law_at : Stmt := top 41
theorem sc_law_at : FnScope ["_law_program_here", "_law_beat_here"] ["_law_program_here", "_law_beat_here"] (defScope s_law_at) := ⟨rfl, rfl, rfl, by decide +kernel, rfl, by decide +kernel, by decide +kernel⟩
abbrev s_law_beat : Stmt := top 42
theorem sc_law_beat : FnScope ["_law_rule", "_law_memory_here", "_law_one", "_law_other", "_law_ahead", "_law_behind", "_law_deed_here", "_law_found", "_law_looks", "_law_k"] ["_law_rule", "_law_memory_here", "_law_one", "_law_other"] (defScope s_law_beat) := ⟨rfl, rfl, rfl, by decide +kernel, rfl, by decide +kernel, by decide +kernel⟩
abbrev s_law_run : Stmt := top 43
theorem sc_law_run : FnScope ["_law_rule", "_law_memory_here", "_law_left", "_law_right", "_law_seen", "_law_beats", "_law_one", "_law_other", "_law_waits", "_law_told"] ["_law_rule", "_law_memory_here", "_law_left", "_law_right"] (defScope s_law_run) := ⟨rfl, rfl, rfl, by decide +kernel, rfl, by decide +kernel, by decide +kernel⟩
abbrev s_law : Stmt := top 44
theorem sc_law : FnScope ["_law_script", "_law_h", "_law_turn", "_law_cells", "_law_memory_here", "_law_most", "_law_left", "_law_right", "_law_handed", "_law_rule", "_law_due", "_law_again", "_law_found"] ["_law_script"] (defScope s_law) := ⟨rfl, rfl, rfl, by decide +kernel, rfl, by decide +kernel, by decide +kernel⟩
local macro_rules | `(tactic| walk_at "sq") => `(tactic| first | assumption | exact SqL.of (by assumption) | exact SqT.of (by assumption))
local macro_rules | `(tactic| walk_at "at") => `(tactic| first | assumption | exact rfl | exact atI_nat (by assumption))
local macro_rules | `(tactic| walk_at "ea") => `(tactic| first
  | (with_reducible exact ea_nil)
  | ((with_reducible apply ea_cons); (· walk_at "ev"); (· walk_at "ea"))
  | assumption)
local macro_rules | `(tactic| walk_at "rc") => `(tactic| first
  | assumption
  | ((apply rc_lenL); (· walk_at "sq"))
  | ((apply rc_lenT); (· walk_at "sq"))
  | ((with_reducible apply rc_isiB); (· first | exact tys_int | exact tys_str | exact tys_bl | exact tys_non | exact tys_tup (by walk_at "sq") | exact tys_lst (by walk_at "sq") | assumption); (· decide +kernel))
  | (exact rc_max))
local macro_rules | `(tactic| walk_at "rv") => `(tactic| first
  | assumption
  | (with_reducible exact rv_I0)
  | ((with_reducible apply rv_eq); (· exact rfl))
  | ((with_reducible apply rv_ne); (· exact rfl))
  | ((with_reducible apply rv_ixT); (· walk_at "sq"); (· walk_at "at"))
  | ((with_reducible apply rv_ixL); (· walk_at "sq"); (· walk_at "at"))
  | ((with_reducible apply rv_I); (· first | assumption | decide | omega | exact Or.inr ⟨by decide, by decide⟩ | exact Or.inl ⟨by decide, by decide⟩ | exact ⟨by decide, by decide, by decide⟩ | exact ⟨by omega, by omega⟩ | exact Or.inl ⟨by omega, by omega⟩ | exact Or.inr ⟨by omega, by omega⟩)))
local macro_rules | `(tactic| walk_at "ev") => `(tactic| first
  | (with_reducible exact ev_c)
  | ((with_reducible apply ev_var); (· exact rfl))
  | assumption
  | ((with_reducible apply ev_op); (· walk_at "ev"); (· walk_at "ev"); (· walk_at "rv"))
  | ((with_reducible apply ev_cb); (· walk_at "ea"); (· walk_at "rc"))
  | ((with_reducible apply ev_call); (· walk_at "ea"); (· assumption))
  | exact ev_c)

section
variable {P : Program} {w : World} {K : PySem.W.Frag} {mg : Str → Option Value} {base : Heap}
def sp_is_whole : Sp := spF 1 fun vs _ v => ∃ i : Int, vs = [.int i] ∧ v = .bl true
theorem sp_is_whole_v {H : Hp} {i : Int} : SpV sp_is_whole [.int i] H (.bl true) := spF_v rfl fun _ _ => ⟨i, rfl, rfl⟩
theorem d_is_whole (T : Nb mg) (h : Has K mg "is_whole" s_is_whole) : Dn P w K mg base CX0 "is_whole" ["value"] 1 sp_is_whole := by
  refine dn_of h (fun f fd F => F.binds fun _ _ _ _ _ _ us hl => match us, hl with | [_], _ => rfl) fun f fd F _ => F.ok sc_is_whole (fun vs H Q E h => h.1) (fun cdv A outer s H vs Q E hr h => ?_)
  obtain ⟨_, v, ⟨i, rfl, rfl⟩, k⟩ := h
  refine ⟨_, (pss_one (ps_ret (pe_and (pe_callB (call_isiK2 K) (by rfl) T.n_isinstance PyProof.Rows.boot_isinstance (pa_cons (pv 0) (pa_cons (pe_bltn (v := .ty "int") rfl T.n_int PyProof.Rows.boot_int rfl) pa_nil))) (pe_one (pe_not (pe_callB (call_isiK2 K) (by rfl) T.n_isinstance PyProof.Rows.boot_isinstance (pa_cons (pv 0) (pa_cons (pe_bltn (v := .ty "bool") rfl T.n_bool PyProof.Rows.boot_bool rfl) pa_nil)))))))), ?_⟩
  exact s_ret (v := .bl true) (ev_is (ev_andV (a := true) (b := true) (by walk_at "ev") (fun _ => ev_is (ev_notV (a := false) (by walk_at "ev")) rfl)) rfl) fun H1 f1 => k H1 f1

def sp_is_cell : Sp := spF 2 fun vs _ v => ∃ i n : Int, vs = [.int i, .int n] ∧ v = .bl (decide (0 ≤ i ∧ i < n))
theorem sp_is_cell_v {H : Hp} {i n : Int} : SpV sp_is_cell [.int i, .int n] H (.bl (decide (0 ≤ i ∧ i < n))) := spF_v rfl fun _ _ => ⟨i, n, rfl, rfl⟩
theorem d_is_cell (D_is_whole : Dn P w K mg base CX0 "is_whole" ["value"] 1 sp_is_whole) (h : Has K mg "is_cell" s_is_cell) : Dn P w K mg base CX0 "is_cell" ["value", "cells"] 2 sp_is_cell := by
  refine dn_of h (fun f fd F => F.binds fun _ _ _ _ _ _ us hl => match us, hl with | [_, _], _ => rfl) fun f fd F _ => F.ok sc_is_cell (fun vs H Q E h => h.1) (fun cdv A outer s H vs Q E hr h => ?_)
  obtain ⟨_, v, ⟨i, n, rfl, rfl⟩, k⟩ := h
  refine ⟨_, (pss_one (ps_ret (pe_and (pe_dn D_is_whole hr (by omega) pass0 (pa_cons (pv 0) pa_nil)) (pe_one (pe_chain op_le op_lt pe_int (pv 0) (pv 1)))))), ?_⟩
  have c := @sp_is_whole_v H i
  exact s_ret (v := .bl (decide (0 ≤ i ∧ i < n))) (ev_is (ev_andV (a := true) (b := decide (0 ≤ i) && decide (i < n)) (by walk_at "ev") (fun _ => ev_chain (by walk_at "ev") (by walk_at "ev") rv_I0 (fun _ => by walk_at "ev") (fun _ => rv_I0))) (by rw [Bool.true_and, ← Bool.decide_and])) fun H1 f1 => k H1 f1

def sp_is_worth : Sp := spF 1 fun vs _ v => ∃ i : Int, vs = [.int i] ∧ v = .bl (decide (0 ≤ i ∧ i < 3))
theorem sp_is_worth_v {H : Hp} {i : Int} : SpV sp_is_worth [.int i] H (.bl (decide (0 ≤ i ∧ i < 3))) := spF_v rfl fun _ _ => ⟨i, rfl, rfl⟩
theorem d_is_worth {aREST aWORTHS : Addr} {t4 t40 : Tok} (G : TxP K mg aREST aWORTHS t4 t40) (D_is_whole : Dn P w K mg base CX0 "is_whole" ["value"] 1 sp_is_whole) (h : Has K mg "is_worth" s_is_worth) : Dn P w K mg base CX0 "is_worth" ["value"] 2 sp_is_worth := by
  refine dn_of h (fun f fd F => F.binds fun _ _ _ _ _ _ us hl => match us, hl with | [_], _ => rfl) fun f fd F _ => F.ok sc_is_worth (fun vs H Q E h => h.1) (fun cdv A outer s H vs Q E hr h => ?_)
  obtain ⟨_, v, ⟨i, rfl, rfl⟩, k⟩ := h
  refine ⟨_, (pss_one (ps_ret (pe_and (pe_dn D_is_whole hr (by omega) pass0 (pa_cons (pv 0) pa_nil)) (pe_one (pe_cmpR (op_in_seqK K) (pv 0) (pe_glob (v := .ref aWORTHS) rfl G.g_WORTHS rfl) (by rfl)))))), ?_⟩
  have c := @sp_is_whole_v H i
  exact s_ret (v := .bl (decide (0 ≤ i ∧ i < 3))) (ev_is (ev_andV (a := true) (b := inV (.int i) [.int 0, .int 1, .int 2]) (by walk_at "ev") (fun _ => ev_op (by walk_at "ev") (by walk_at "ev") (rv_isT (G.WORTHS H) rfl rfl))) (by rw [Bool.true_and, in_worths])) fun H1 f1 => k H1 f1

def sp_is_deed (K : PySem.W.Frag) : Sp := spF 2 fun vs H v => ∃ (a : V) (d : Deed) (n : Nat), vs = [a, .int n] ∧ DV K H a d ∧ d.ok n ∧ v = .bl true
theorem sp_is_deed_v {H : Hp} {a : V} {d : Deed} {n : Nat} (h : DV K H a d) (ho : d.ok n) : SpV (sp_is_deed K) [a, .int n] H (.bl true) := spF_v rfl fun _ f => ⟨a, d, n, rfl, h.mono f, ho, rfl⟩
theorem d_is_deed {aREST aWORTHS : Addr} {t4 t40 : Tok} (T : Nb mg) (G : TxP K mg aREST aWORTHS t4 t40) (D_is_cell : Dn P w K mg base CX0 "is_cell" ["value", "cells"] 2 sp_is_cell) (D_is_worth : Dn P w K mg base CX0 "is_worth" ["value"] 2 sp_is_worth)
    (h : Has K mg "is_deed" s_is_deed) : Dn P w K mg base CX0 "is_deed" ["deed", "cells"] 3 (sp_is_deed K) := by
  refine dn_of h (fun f fd F => F.binds fun _ _ _ _ _ _ us hl => match us, hl with | [_, _], _ => rfl) fun f fd F _ => F.ok sc_is_deed (fun vs H Q E h => h.1) (fun cdv A outer s H vs Q E hr h => ?_)
  obtain ⟨_, v, ⟨_, d, n, rfl, ⟨a, rfl, h1⟩, ho, rfl⟩, k⟩ := h
  refine ⟨_, (pss_cons (ps_if (PW.pt (pw_or (pt_not (pt_val (pe_callB (call_isiK2 K) (by rfl) T.n_isinstance PyProof.Rows.boot_isinstance (pa_cons (pv 0) (pa_cons (pe_bltn (v := .ty "tuple") rfl T.n_tuple PyProof.Rows.boot_tuple rfl) pa_nil))))) (pw_or1 (pt_cmpR op_eq (pe_callB (call_len_seqK K) (by rfl) T.n_len PySem.boot_len (pa_cons (pv 0) pa_nil)) pe_int (nomark _))))) (pss_one (ps_ret pe_bl)) pss_nil)
    (pss_cons (ps_if (pt_cmpR op_eq (pe_ix (ix_tupK K) (pv 0) pe_int (fun _ _ => rfl)) pe_str (nomark _)) (pss_one (ps_ret (pe_and (pe_cmpR op_eq (pe_callB (call_len_seqK K) (by rfl) T.n_len PySem.boot_len (pa_cons (pv 0) pa_nil)) pe_int (nomark _)) (pe_one (pe_dn D_is_cell hr (by omega) pass0 (pa_cons (pe_ix (ix_tupK K) (pv 0) pe_int (fun _ _ => rfl)) (pa_cons (pv 1) pa_nil))))))) pss_nil)
    (pss_cons (ps_if (pt_cmpR op_eq (pe_ix (ix_tupK K) (pv 0) pe_int (fun _ _ => rfl)) pe_str (nomark _)) (pss_one (ps_ret (pe_and (pe_cmpR op_eq (pe_callB (call_len_seqK K) (by rfl) T.n_len PySem.boot_len (pa_cons (pv 0) pa_nil)) pe_int (nomark _)) (pe_and (pe_dn D_is_cell hr (by omega) pass0 (pa_cons (pe_ix (ix_tupK K) (pv 0) pe_int (fun _ _ => rfl)) (pa_cons (pv 1) pa_nil))) (pe_one (pe_dn D_is_worth hr (by omega) pass0 (pa_cons (pe_ix (ix_tupK K) (pv 0) pe_int (fun _ _ => rfl)) pa_nil))))))) pss_nil)
    (pss_one (ps_ret (pe_cmpR (op_eqDK K rfl hr.units) (pv 0) (pe_glob (v := .ref aREST) rfl G.g_REST rfl) (nomark _))))))), ?_⟩
  have hlen : d.vals.length ≠ 0 := by cases d <;> simp [Deed.vals]
  refine q_when (b := false) (et_is (et_or (a := false) (b := decide (V.int (d.vals.length : Int) = V.int 0)) (et_not (a := true) (et_B (by walk_at "ev"))) (fun _ => et_test (ev_op (by walk_at "ev") (by walk_at "ev") (rv_eq rfl))))
    (by rw [Bool.false_or]; exact decide_eq_false fun z => hlen (by have := V.int.inj z; omega))) (fun z => nomatch z) (fun _ H1 f1 => ?_)
  have g1 := ex_t f1 h1
  refine q_when (b := decide (V.str d.tag = V.str "read")) (et_test (ev_op (ev_op (by walk_at "ev") (by walk_at "ev") (DV.tag g1)) (by walk_at "ev") (rv_eq rfl))) (fun hb H2 f2 => ?_) (fun hb H2 f2 => ?_)
  · cases d with
    | wr c w => exact absurd hb (by show ¬ decide (V.str "write" = V.str "read") = true; decide +kernel)
    | rs => exact absurd hb (by show ¬ decide (V.str "rest" = V.str "read") = true; decide +kernel)
    | rd c =>
      have g2 := ex_t f2 g1
      have hc : c < n := ho
      have q := @sp_is_cell_v H2 c n
      exact s_ret (v := .bl true) (ev_is (ev_andV (a := true) (b := decide (0 ≤ (c : Int) ∧ (c : Int) < (n : Int))) (ev_is (ev_op (ev_cb (by walk_at "ea") (rc_lenT g2)) (by walk_at "ev") (rv_eq rfl)) rfl) (fun _ => ev_call (ea_cons (ev_op (by walk_at "ev") (by walk_at "ev") (rv_ixT g2 rfl)) (ea_cons (by walk_at "ev") ea_nil)) q))
        (by rw [decide_eq_true (show 0 ≤ (c : Int) ∧ (c : Int) < (n : Int) by omega)]; rfl)) fun H3 f3 => k H3 ((f1.trans f2).trans f3)
  · have g2 := ex_t f2 g1
    refine q_when (b := decide (V.str d.tag = V.str "write")) (et_test (ev_op (ev_op (by walk_at "ev") (by walk_at "ev") (DV.tag g2)) (by walk_at "ev") (rv_eq rfl))) (fun hb2 H3 f3 => ?_) (fun hb2 H3 f3 => ?_)
    · cases d with
      | rd c => exact absurd hb (by show ¬ decide (V.str "read" = V.str "read") = false; decide +kernel)
      | rs => exact absurd hb2 (by show ¬ decide (V.str "rest" = V.str "write") = true; decide +kernel)
      | wr c w =>
        have g3 := ex_t f3 g2
        obtain ⟨hc, hw⟩ : c < n ∧ w < 3 := ho
        have q := @sp_is_cell_v H3 c n
        have q2 := @sp_is_worth_v H3 w
        exact s_ret (v := .bl true) (ev_is (ev_andV (a := true) (b := decide (0 ≤ (c : Int) ∧ (c : Int) < (n : Int)) && decide (0 ≤ (w : Int) ∧ (w : Int) < 3)) (ev_is (ev_op (ev_cb (by walk_at "ea") (rc_lenT g3)) (by walk_at "ev") (rv_eq rfl)) rfl) (fun _ => ev_andV (ev_call (ea_cons (ev_op (by walk_at "ev") (by walk_at "ev") (rv_ixT g3 rfl)) (ea_cons (by walk_at "ev") ea_nil)) q) (fun _ => ev_call (ea_cons (ev_op (by walk_at "ev") (by walk_at "ev") (rv_ixT g3 rfl)) ea_nil) q2)))
          (by rw [decide_eq_true (show 0 ≤ (c : Int) ∧ (c : Int) < (n : Int) by omega), decide_eq_true (show 0 ≤ (w : Int) ∧ (w : Int) < 3 by omega)]; rfl)) fun H4 f4 => k H4 (((f1.trans f2).trans f3).trans f4)
    · cases d with
      | rd c => exact absurd hb (by show ¬ decide (V.str "read" = V.str "read") = false; decide +kernel)
      | wr c w => exact absurd hb2 (by show ¬ decide (V.str "write" = V.str "write") = false; decide +kernel)
      | rs =>
        have g3 := ex_t f3 g2
        exact s_ret (v := .bl true) (ev_is (ev_op (by walk_at "ev") (by walk_at "ev") (rv_eqD (n := 1) (m := 1) (DV.dp ⟨a, rfl, g3⟩) (DV.dp (d := .rs) ⟨_, rfl, G.REST _⟩) (Deed.sh _) (Deed.sh _) (by decide) (by decide))) (by rw [Deed.eqv_rs]; rfl)) fun H4 f4 => k H4 (((f1.trans f2).trans f3).trans f4)

def sp_check_cells : Sp := spF 1 fun vs _ v => ∃ n : Int, vs = [.int n] ∧ 1 ≤ n ∧ n ≤ 4 ∧ v = .non
theorem sp_check_cells_v {H : Hp} {n : Int} (h1 : 1 ≤ n) (h4 : n ≤ 4) : SpV sp_check_cells [.int n] H .non := spF_v rfl fun _ _ => ⟨n, rfl, h1, h4, rfl⟩
theorem d_check_cells {aREST aWORTHS : Addr} {t4 t40 : Tok} (G : TxP K mg aREST aWORTHS t4 t40) (D_is_whole : Dn P w K mg base CX0 "is_whole" ["value"] 1 sp_is_whole) (h : Has K mg "check_cells" s_check_cells) : Dn P w K mg base CX0 "check_cells" ["cells"] 2 sp_check_cells := by
  refine dn_of h (fun f fd F => F.binds fun _ _ _ _ _ _ us hl => match us, hl with | [_], _ => rfl) fun f fd F _ => F.ok sc_check_cells (fun vs H Q E h => h.1) (fun cdv A outer s H vs Q E hr h => ?_)
  obtain ⟨_, v, ⟨n, rfl, h1, h4, rfl⟩, k⟩ := h
  refine ⟨_, (pss_one (ps_if (PW.pt (pw_or (pt_not (pt_val (pe_dn D_is_whole hr (by omega) pass0 (pa_cons (pv 0) pa_nil)))) (pw_or1 (pt_not (pt_chain op_le op_le pe_int (pv 0) (pe_glob (v := .int 4) rfl G.g_MOST_CELLS ⟨_, rfl⟩)))))) pss_never pss_nil)), ?_⟩
  have c := @sp_is_whole_v H n
  refine s_if (b := false) (et_is (et_or (a := false) (b := false) (et_not (a := true) (et_B (by walk_at "ev"))) (fun _ => et_is (et_not (et_test (ev_chain (a := decide (1 ≤ n)) (b := decide (n ≤ 4)) (by walk_at "ev") (by walk_at "ev") rv_I0 (fun _ => by walk_at "ev") (fun _ => rv_I0)))) (by rw [decide_eq_true h1, decide_eq_true h4]; rfl))) rfl) (fun z => nomatch z) (fun _ H1 f1 => k H1 f1)

def sp_check_memory (K : PySem.W.Frag) : Sp := spF 1 fun vs H v => ∃ (p : Addr) (ws : List Nat), vs = [.ref p] ∧ SqT K H p (ws.map wV) ∧ 1 ≤ ws.length ∧ ws.length ≤ 4 ∧ (∀ x ∈ ws, x < 3) ∧ v = .non
theorem sp_check_memory_v {H : Hp} {p : Addr} {ws : List Nat} (h : SqT K H p (ws.map wV)) (h1 : 1 ≤ ws.length) (h4 : ws.length ≤ 4) (h3 : ∀ x ∈ ws, x < 3) : SpV (sp_check_memory K) [.ref p] H .non := spF_v rfl fun _ f => ⟨p, ws, rfl, ex_t f h, h1, h4, h3, rfl⟩
theorem d_check_memory (T : Nb mg) (D_check_cells : Dn P w K mg base CX0 "check_cells" ["cells"] 2 sp_check_cells) (D_is_worth : Dn P w K mg base CX0 "is_worth" ["value"] 2 sp_is_worth) (h : Has K mg "check_memory" s_check_memory) :
    Dn P w K mg base CX0 "check_memory" ["memory"] 3 (sp_check_memory K) := by
  refine dn_of h (fun f fd F => F.binds fun _ _ _ _ _ _ us hl => match us, hl with | [_], _ => rfl) fun f fd F _ => F.ok sc_check_memory (fun vs H Q E h => h.1) (fun cdv A outer s H vs Q E hr h => ?_)
  obtain ⟨_, v, ⟨p, ws, rfl, h0, h1, h4, h3, rfl⟩, k⟩ := h
  refine ⟨_, (pss_cons (ps_if (pt_not (pt_val (pe_callB (call_isiK2 K) (by rfl) T.n_isinstance PyProof.Rows.boot_isinstance (pa_cons (pv 0) (pa_cons (pe_bltn (v := .ty "tuple") rfl T.n_tuple PyProof.Rows.boot_tuple rfl) pa_nil))))) pss_never pss_nil)
    (pss_cons (ps_expr (pe_dn D_check_cells hr (by omega) pass0 (pa_cons (pe_callB (call_len_seqK K) (by rfl) T.n_len PySem.boot_len (pa_cons (pv 0) pa_nil)) pa_nil)))
    (pss_one (ps_for PassesOwn.never rfl (pi_tup (pv 0)) (pg_name (i := 1) sc_check_memory.nd rfl (Or.inl rfl))
      (pss_one (ps_if (pt_not (pt_val (pe_dn D_is_worth hr (by omega) pass0 (pa_cons (pv 1) pa_nil)))) pss_never pss_nil)))))), ?_⟩
  refine q_when (b := false) (et_is (et_not (a := true) (et_B (by walk_at "ev"))) rfl) (fun z => nomatch z) (fun _ H1 f1 => ?_)
  have g1 := ex_t f1 h0
  have c := @sp_check_cells_v H1 ((ws.map wV).length : Int) (by rw [List.length_map]; omega) (by rw [List.length_map]; omega)
  refine q_drop (v := .non) (by walk_at "ev") fun H2 f2 => ?_
  refine s_forT (a := p) (xs := ws.map wV) (by walk_at "ev") (ex_t f2 g1) (fun _ σ' H' => ∃ v, σ' = [some (.ref p), v] ∧ Ex H H') (fun H3 f3 => ⟨none, rfl, (f1.trans f2).trans f3⟩) (fun i σ' H' _ ⟨_, _, e⟩ => ex_t e h0) ?_ ?_
  · rintro i x σ' H' hi ⟨v, rfl, e⟩
    obtain ⟨n, hn, rfl⟩ : ∃ n, ws[i]? = some n ∧ x = wV n := by
      rw [List.getElem?_map] at hi
      cases q : ws[i]? with
      | none => rw [q] at hi; cases hi
      | some n => rw [q] at hi; exact ⟨n, rfl, (Option.some.inj hi).symm⟩
    have hs := h3 n (List.mem_of_getElem? hn)
    have c := @sp_is_worth_v H' (n : Int)
    refine s_when (b := false) (et_is (et_not (et_B (ev_call (ea_cons (ev_var (v := .int (n : Int)) rfl) ea_nil) c))) (by rw [decide_eq_true (show 0 ≤ (n : Int) ∧ (n : Int) < 3 by omega)]; rfl)) (fun z => nomatch z) (fun _ H3 f3 => ⟨_, rfl, e.trans f3⟩)
  · rintro σ' H' ⟨v, rfl, e⟩
    exact k H' e

def sp_check_program (K : PySem.W.Frag) : Sp := spF 4 fun vs H v => ∃ (door : V) (p : Addr) (n m : Nat) (us : List V) (ds : List Deed), vs = [door, .ref p, .int n, .int m] ∧ SqL K H p us ∧ PV K H us ds ∧ ds.length ≤ m ∧ (∀ d ∈ ds, d.ok n) ∧ v = .non
theorem sp_check_program_v {H : Hp} {door : V} {p : Addr} {n m : Nat} {us : List V} {ds : List Deed} (h1 : SqL K H p us) (h2 : PV K H us ds) (h3 : ds.length ≤ m) (h4 : ∀ d ∈ ds, d.ok n) : SpV (sp_check_program K) [door, .ref p, .int n, .int m] H .non :=
  spF_v rfl fun _ f => ⟨door, p, n, m, us, ds, rfl, ex_l f h1, h2.mono f, h3, h4, rfl⟩
theorem d_check_program {aREST aWORTHS : Addr} {t4 t40 : Tok} (T : Nb mg) (G : TxP K mg aREST aWORTHS t4 t40) (D_is_deed : Dn P w K mg base CX0 "is_deed" ["deed", "cells"] 3 (sp_is_deed K)) (h : Has K mg "check_program" s_check_program) :
    Dn P w K mg base CX0 "check_program" ["door", "program", "cells", "most"] 4 (sp_check_program K) := by
  refine dn_of h (fun f fd F => F.binds fun _ _ _ _ _ _ us hl => match us, hl with | [_, _, _, _], _ => rfl) fun f fd F _ => F.ok sc_check_program (fun vs H Q E h => h.1) (fun cdv A outer s H vs Q E hr h => ?_)
  obtain ⟨_, v, ⟨door, p, n, m, us, ds, rfl, h1, h2, h3, h4, rfl⟩, k⟩ := h
  refine ⟨_, (pss_cons (ps_if (pt_not (pt_val (pe_callB (call_isiK2 K) (by rfl) T.n_isinstance PyProof.Rows.boot_isinstance (pa_cons (pv 1) (pa_cons (pe_bltn (v := .ty "list") rfl T.n_list PyProof.Rows.boot_list rfl) pa_nil))))) pss_never pss_nil)
    (pss_one (ps_for PassesOwn.never rfl (pi_enum (by rfl) T.n_enumerate (pa_cons (pv 1) pa_nil)) (pg_tup rfl (pgs_cons (pg_name (i := 4) sc_check_program.nd rfl (Or.inl rfl)) (pgs_cons (pg_name (i := 5) sc_check_program.nd rfl (Or.inl rfl)) pgs_nil)))
      (pss_one (ps_if (PW.pt (pw_or (pt_cmpR op_eq (pv 4) (pv 3) (nomark _)) (pw_or1 (pt_not (pt_val (pe_dn D_is_deed hr (by omega) pass0 (pa_cons (pv 5) (pa_cons (pv 2) pa_nil)))))))) pss_never pss_nil))))), ?_⟩
  refine q_when (b := false) (et_is (et_not (a := true) (et_B (by walk_at "ev"))) rfl) (fun z => nomatch z) (fun _ H1 f1 => ?_)
  have g1 := ex_l f1 h1
  refine ⟨_, rfl, p, us, rfl, g1, for_it walk_enum (fun _ σ' H' => ∃ v w, σ' = [some door, some (.ref p), some (.int n), some (.int m), v, w] ∧ Ex H H') ⟨none, none, rfl, f1⟩ (fun i σ' H' _ ⟨_, _, _, e⟩ => ex_l e h1) ?_ ?_⟩
  · rintro i x σ' H' H2 hi ⟨v, w, rfl, e⟩ ⟨q, a, b, rfl, hq, rfl, ha, hb⟩
    cases ha
    obtain ⟨d, hd, dv⟩ := h2.get hb
    have e2 := e.trans (Ex.new (o := .tup [.int (i : Int), b]) hq)
    refine ⟨q, _, rfl, SqT.of upd_same, rfl, _, _, rfl, _, _, rfl, rfl, ?_⟩
    have c := sp_is_deed_v (dv.mono e2) (h4 d (List.mem_of_getElem? hd))
    refine s_when (b := false) (et_is (et_or (a := false) (b := false) (et_is (et_test (ev_op (ev_var (v := .int (i : Int)) rfl) (ev_var (v := .int (m : Int)) rfl) (rv_eq rfl))) (decide_eq_false fun z => ?_)) (fun _ => et_is (et_not (et_B (ev_call (ea_cons (ev_var (v := b) rfl) (ea_cons (by walk_at "ev") ea_nil)) c))) rfl)) rfl) (fun z => nomatch z) (fun _ H3 f3 => ⟨_, _, rfl, e2.trans f3⟩)
    have := V.int.inj z
    have := h2.length
    omega
  · rintro σ' H' ⟨v, w, rfl, e⟩
    exact k H' e

def sp_check_programs (K : PySem.W.Frag) : Sp := spF 4 fun vs H v => ∃ (p q : Addr) (n m : Nat) (us ws : List V) (ds es : List Deed), vs = [.ref p, .ref q, .int n, .int m] ∧ SqL K H p us ∧ PV K H us ds ∧ ds.length ≤ m ∧ (∀ d ∈ ds, d.ok n) ∧
  SqL K H q ws ∧ PV K H ws es ∧ es.length ≤ m ∧ (∀ d ∈ es, d.ok n) ∧ v = .non
theorem sp_check_programs_v {H : Hp} {p q : Addr} {n m : Nat} {us ws : List V} {ds es : List Deed} (h1 : SqL K H p us) (h2 : PV K H us ds) (h3 : ds.length ≤ m) (h4 : ∀ d ∈ ds, d.ok n) (h5 : SqL K H q ws) (h6 : PV K H ws es) (h7 : es.length ≤ m) (h8 : ∀ d ∈ es, d.ok n) :
    SpV (sp_check_programs K) [.ref p, .ref q, .int n, .int m] H .non := spF_v rfl fun _ f => ⟨p, q, n, m, us, ws, ds, es, rfl, ex_l f h1, h2.mono f, h3, h4, ex_l f h5, h6.mono f, h7, h8, rfl⟩
theorem o_check_programs (D_check_program : Dn P w K mg base CX0 "check_program" ["door", "program", "cells", "most"] 4 (sp_check_program K)) {f : Addr} {fd : FuncData} (F : FunD K "check_programs" "check_programs" (defArgs s_check_programs) (defBody s_check_programs) (defScope s_check_programs) [.int 40] [] f fd) :
    FnOk P w K mg base CX0 5 f fd ["left", "right", "cells", "most"] (sp_check_programs K) := by
  refine FunD.ok0 F sc_check_programs (fun vs H Q E h => h.1) (fun cdv A outer s H vs Q E hr h => ?_)
  obtain ⟨_, v, ⟨p, q, n, m, us, ws, ds, es, rfl, h1, h2, h3, h4, h5, h6, h7, h8, rfl⟩, k⟩ := h
  refine ⟨_, (pss_cons (ps_expr (pe_dn D_check_program hr (by omega) pass0 (pa_cons pe_int (pa_cons (pv 0) (pa_cons (pv 2) (pa_cons (pv 3) pa_nil))))))
    (pss_one (ps_expr (pe_dn D_check_program hr (by omega) pass0 (pa_cons pe_int (pa_cons (pv 1) (pa_cons (pv 2) (pa_cons (pv 3) pa_nil)))))))), ?_⟩
  have c := sp_check_program_v (door := .int 0) h1 h2 h3 h4
  refine q_drop (v := .non) (by walk_at "ev") fun H1 f1 => ?_
  have c := sp_check_program_v (door := .int 1) (ex_l f1 h5) (h6.mono f1) h7 h8
  exact s_drop (v := .non) (by walk_at "ev") fun H2 f2 => k H2 (f1.trans f2)
/-- with at most forty deeds, not written -/
theorem d_check_programs (D_check_program : Dn P w K mg base CX0 "check_program" ["door", "program", "cells", "most"] 4 (sp_check_program K)) (h : HasD K mg "check_programs" s_check_programs [.int 40]) : Dq P w K mg base CX0 "check_programs" ["left", "right", "cells", "most"] [.int 40] 5 (sp_check_programs K) :=
  dq_of (dvs := [.int 40]) 3 0 h (by simp) rfl (fun T kV doc pm an cdv ct us its h1 h2 => match us, h1, its, h2 with | [_, _, _], _, [_], _ => ⟨_, rfl, rfl⟩) fun f fd F => o_check_programs D_check_program F
/-- with so many deeds, written -/
theorem d_check_programs4 (D_check_program : Dn P w K mg base CX0 "check_program" ["door", "program", "cells", "most"] 4 (sp_check_program K)) (h : HasD K mg "check_programs" s_check_programs [.int 40]) : Dq P w K mg base CX0 "check_programs" ["left", "right", "cells", "most"] [] 5 (sp_check_programs K) :=
  dq_of (dvs := [.int 40]) 4 1 h (by simp) rfl (fun T kV doc pm an cdv ct us its h1 h2 => match us, h1, its, h2 with | [_, _, _, _], _, [_], _ => ⟨_, rfl, rfl⟩) fun f fd F => o_check_programs D_check_program F

def sp_clash (K : PySem.W.Frag) : Sp := spF 2 fun vs H v => ∃ a b d e, vs = [a, b] ∧ DV K H a d ∧ DV K H b e ∧ v = .bl (clashD d e)
theorem sp_clash_v {H : Hp} {a b : V} {d e : Deed} (h1 : DV K H a d) (h2 : DV K H b e) : SpV (sp_clash K) [a, b] H (.bl (clashD d e)) := spF_v rfl fun _ f => ⟨a, b, d, e, rfl, h1.mono f, h2.mono f, rfl⟩
theorem d_clash {aREST aWORTHS : Addr} {t4 t40 : Tok} (G : TxP K mg aREST aWORTHS t4 t40) (h : Has K mg "clash" s_clash) : Dn P w K mg base CX0 "clash" ["deed", "other"] 1 (sp_clash K) := by
  refine dn_of h (fun f fd F => F.binds fun _ _ _ _ _ _ us hl => match us, hl with | [_, _], _ => rfl) fun f fd F _ => F.ok sc_clash (fun vs H Q E h => h.1) (fun cdv A outer s H vs Q E hr h => ?_)
  obtain ⟨_, v, ⟨_, _, d, e, rfl, ⟨a, rfl, h1⟩, ⟨b, rfl, h2⟩, rfl⟩, k⟩ := h
  refine ⟨_, (pss_cons (ps_if (PW.pt (pw_or (pt_cmpR (op_eqDK K rfl hr.units) (pv 0) (pe_glob (v := .ref aREST) rfl G.g_REST rfl) (nomark _)) (pw_or1 (pt_cmpR (op_eqDK K rfl hr.units) (pv 1) (pe_glob (v := .ref aREST) rfl G.g_REST rfl) (nomark _))))) (pss_one (ps_ret pe_bl)) pss_nil)
    (pss_one (ps_ret (pe_and (pe_cmpR op_eq (pe_ix (ix_tupK K) (pv 0) pe_int (fun _ _ => rfl)) (pe_ix (ix_tupK K) (pv 1) pe_int (fun _ _ => rfl)) (nomark _)) (pe_one (pe_or (pe_cmpR op_eq (pe_ix (ix_tupK K) (pv 0) pe_int (fun _ _ => rfl)) pe_str (nomark _)) (pe_one (pe_cmpR op_eq (pe_ix (ix_tupK K) (pv 1) pe_int (fun _ _ => rfl)) pe_str (nomark _))))))))), ?_⟩
  refine q_when (b := decide (d = .rs) || decide (e = .rs)) (et_or (et_is (et_test (ev_op (by walk_at "ev") (by walk_at "ev") (rv_eqD (n := 1) (m := 1) (DV.dp ⟨a, rfl, h1⟩) (DV.dp (d := .rs) ⟨_, rfl, G.REST _⟩) (Deed.sh _) (Deed.sh _) (by decide) (by decide)))) (Deed.eqv_rs d))
    (fun _ => et_is (et_test (ev_op (by walk_at "ev") (by walk_at "ev") (rv_eqD (n := 1) (m := 1) (DV.dp ⟨b, rfl, h2⟩) (DV.dp (d := .rs) ⟨_, rfl, G.REST _⟩) (Deed.sh _) (Deed.sh _) (by decide) (by decide)))) (Deed.eqv_rs e))) (fun hb H1 f1 => ?_) (fun hb H1 f1 => ?_)
  · have hc : clashD d e = false := by
      cases d <;> cases e <;> first | rfl | (simp at hb)
    exact s_ret (v := .bl (clashD d e)) (by rw [hc]; exact ev_c) fun H2 f2 => k H2 (f1.trans f2)
  · obtain ⟨hd, he⟩ : d ≠ .rs ∧ e ≠ .rs := by
      rw [Bool.or_eq_false_iff] at hb
      exact ⟨of_decide_eq_false hb.1, of_decide_eq_false hb.2⟩
    have g1 := ex_t f1 h1
    have g2 := ex_t f1 h2
    obtain ⟨c1, hc1⟩ : ∃ c, d.cell = some c := by cases d <;> first | exact ⟨_, rfl⟩ | exact absurd rfl hd
    obtain ⟨c2, hc2⟩ : ∃ c, e.cell = some c := by cases e <;> first | exact ⟨_, rfl⟩ | exact absurd rfl he
    have i1 : atI d.vals 1 = some (.int (c1 : Int)) := by cases d <;> cases hc1 <;> rfl
    have i2 : atI e.vals 1 = some (.int (c2 : Int)) := by cases e <;> cases hc2 <;> rfl
    have i4 : clashD d e = (decide (c1 = c2) && (d.isW || e.isW)) := by unfold clashD; rw [hc1, hc2]
    have w1 : decide (V.str d.tag = V.str "write") = d.isW := by
      cases d with
      | rs => exact absurd rfl hd
      | rd c => show decide (V.str "read" = V.str "write") = false; decide +kernel
      | wr c w => show decide (V.str "write" = V.str "write") = true; decide +kernel
    have w2 : decide (V.str e.tag = V.str "write") = e.isW := by
      cases e with
      | rs => exact absurd rfl he
      | rd c => show decide (V.str "read" = V.str "write") = false; decide +kernel
      | wr c w => show decide (V.str "write" = V.str "write") = true; decide +kernel
    have q : decide (V.int (c1 : Int) = V.int (c2 : Int)) = decide (c1 = c2) := decide_eq_decide.mpr ⟨fun z => by have := V.int.inj z; omega, fun z => by rw [z]⟩
    exact s_ret (v := .bl (clashD d e)) (ev_is (ev_andV (a := decide (V.int (c1 : Int) = V.int (c2 : Int))) (b := decide (V.str d.tag = V.str "write") || decide (V.str e.tag = V.str "write")) (ev_op (ev_op (by walk_at "ev") (by walk_at "ev") (rv_ixT g1 i1)) (ev_op (by walk_at "ev") (by walk_at "ev") (rv_ixT g2 i2)) (rv_eq rfl))
      (fun _ => ev_orV (ev_op (ev_op (by walk_at "ev") (by walk_at "ev") (DV.tag g1)) (by walk_at "ev") (rv_eq rfl)) (fun _ => ev_op (ev_op (by walk_at "ev") (by walk_at "ev") (DV.tag g2)) (by walk_at "ev") (rv_eq rfl)))) (by rw [i4, w1, w2, q])) fun H2 f2 => k H2 (f1.trans f2)

def sp_read_cell (K : PySem.W.Frag) : Sp := fun vs H Q _ => ∃ (w s : Addr) (a : V) (ws ss : List Nat) (d : Deed), vs = [.ref w, a, .ref s] ∧ H w = some (.lst (ws.map wV)) ∧ H s = some (.lst (ss.map wV)) ∧ DV K H a d ∧ d.ok ws.length ∧ ss.length ≤ 1000 ∧
  ∀ H', Bt [s] H H' → H' s = some (.lst ((ss ++ rdl ws d).map wV)) → Q .non H'
theorem d_read_cell (h : Has K mg "read_cell" s_read_cell) : Dn P w K mg base CX0 "read_cell" ["worths", "deed", "seen"] 1 (sp_read_cell K) := by
  refine dn_of h (fun f fd F => F.binds fun _ _ _ _ _ _ us hl => match us, hl with | [_, _, _], _ => rfl) fun f fd F _ => F.ok sc_read_cell (fun vs H Q E h => ?_) (fun cdv A outer s H vs Q E hr h => ?_)
  · obtain ⟨_, _, _, _, _, _, rfl, _⟩ := h
    rfl
  obtain ⟨w, s, _, ws, ss, d, rfl, hw, hs, ⟨a, rfl, h1⟩, ho, hz, k⟩ := h
  refine ⟨_, (pss_one (ps_if (pt_cmpR op_eq (pe_ix (ix_tupK K) (pv 1) pe_int (fun _ _ => rfl)) pe_str (nomark _)) (pss_one (ps_expr (pe_bm PySem.F.plainAttrs_list PySem.F.slot_list_append PySem.F.type_list_append mt_append (pv 2) (pa_cons (pe_ix (ix_listK K) (pv 0) (pe_ix (ix_tupK K) (pv 1) pe_int (fun _ _ => rfl)) (fun _ _ => rfl)) pa_nil)))) pss_nil)), ?_⟩
  refine s_when (b := decide (V.str d.tag = V.str "read")) (et_test (ev_op (ev_op (by walk_at "ev") (by walk_at "ev") (DV.tag h1)) (by walk_at "ev") (rv_eq rfl))) (fun hb H1 f1 => ?_) (fun hb H1 f1 => ?_)
  · cases d with
    | wr c x => exact absurd hb (by show ¬ decide (V.str "write" = V.str "read") = true; decide +kernel)
    | rs => exact absurd hb (by show ¬ decide (V.str "rest" = V.str "read") = true; decide +kernel)
    | rd c =>
      have g1 := ex_t f1 h1
      have gw := f1 _ _ hw
      have gs := f1 _ _ hs
      have hc : c < ws.length := ho
      have hx : (ws.map wV)[c]? = some (wV (ws.getD c 0)) := by rw [List.getElem?_map, List.getD_eq_getElem?_getD, List.getElem?_eq_getElem hc]; rfl
      refine s_app (l := s) (v := wV (ws.getD c 0)) gs (by walk_at "ev") (ev_op (by walk_at "ev") (ev_op (by walk_at "ev") (by walk_at "ev") (rv_ixT g1 rfl)) (rv_ixL (SqL.of gw) (atI_nat hx))) (by rw [List.length_map]; omega) fun H2 f2 => ?_
      refine k _ ((Bt.of_ex (f1.trans f2)).upd (.inl (by simp))) ?_
      rw [upd_same, List.map_append]
      rfl
  · refine k _ (Bt.of_ex f1) ?_
    cases d with
    | rd c => exact absurd hb (by show ¬ decide (V.str "read" = V.str "read") = false; decide +kernel)
    | wr c x => show H1 s = some (.lst ((ss ++ []).map wV)); rw [List.append_nil]; exact f1 _ _ hs
    | rs => show H1 s = some (.lst ((ss ++ []).map wV)); rw [List.append_nil]; exact f1 _ _ hs

def sp_write_cell (K : PySem.W.Frag) : Sp := fun vs H Q _ => ∃ (w : Addr) (a : V) (ws : List Nat) (d : Deed), vs = [.ref w, a] ∧ H w = some (.lst (ws.map wV)) ∧ DV K H a d ∧ d.ok ws.length ∧
  ∀ H', Bt [w] H H' → H' w = some (.lst ((wrl ws d).map wV)) → Q .non H'
theorem d_write_cell (h : Has K mg "write_cell" s_write_cell) : Dn P w K mg base CX0 "write_cell" ["worths", "deed"] 1 (sp_write_cell K) := by
  refine dn_of h (fun f fd F => F.binds fun _ _ _ _ _ _ us hl => match us, hl with | [_, _], _ => rfl) fun f fd F _ => F.ok sc_write_cell (fun vs H Q E h => ?_) (fun cdv A outer s H vs Q E hr h => ?_)
  · obtain ⟨_, _, _, _, rfl, _⟩ := h
    rfl
  obtain ⟨w, _, ws, d, rfl, hw, ⟨a, rfl, h1⟩, ho, k⟩ := h
  refine ⟨_, (pss_one (ps_if (pt_cmpR op_eq (pe_ix (ix_tupK K) (pv 1) pe_int (fun _ _ => rfl)) pe_str (nomark _)) (pss_one (ps_asg (pe_ix (ix_tupK K) (pv 1) pe_int (fun _ _ => rfl)) (pg_sub (pv 0) (pe_ix (ix_tupK K) (pv 1) pe_int (fun _ _ => rfl)) set_list))) pss_nil)), ?_⟩
  refine s_when (b := decide (V.str d.tag = V.str "write")) (et_test (ev_op (ev_op (by walk_at "ev") (by walk_at "ev") (DV.tag h1)) (by walk_at "ev") (rv_eq rfl))) (fun hb H1 f1 => ?_) (fun hb H1 f1 => ?_)
  · cases d with
    | rd c => exact absurd hb (by show ¬ decide (V.str "read" = V.str "write") = true; decide +kernel)
    | rs => exact absurd hb (by show ¬ decide (V.str "rest" = V.str "write") = true; decide +kernel)
    | wr c x =>
      have g1 := ex_t f1 h1
      have gw := f1 _ _ hw
      obtain ⟨hc, hx⟩ : c < ws.length ∧ x < 3 := ho
      refine s_setL (l := w) (v := wV x) (j := c) gw (ev_op (by walk_at "ev") (by walk_at "ev") (rv_ixT g1 rfl)) (by walk_at "ev") (ev_op (by walk_at "ev") (by walk_at "ev") (rv_ixT g1 rfl)) (by rw [List.length_map]; exact hc) fun H2 f2 => ?_
      refine k _ ((Bt.of_ex (f1.trans f2)).upd (.inl (by simp))) ?_
      rw [upd_same, wrl, List.map_set]
  · refine k _ (Bt.of_ex f1) ?_
    cases d with
    | wr c x => exact absurd hb (by show ¬ decide (V.str "write" = V.str "write") = false; decide +kernel)
    | rd c => exact f1 _ _ hw
    | rs => exact f1 _ _ hw

def sp_write_both (K : PySem.W.Frag) : Sp := fun vs H Q _ => ∃ (w : Addr) (a b : V) (ws : List Nat) (d e : Deed), vs = [.ref w, a, b] ∧ H w = some (.lst (ws.map wV)) ∧ DV K H a d ∧ DV K H b e ∧ d.ok ws.length ∧ e.ok ws.length ∧
  ∀ H', Bt [w] H H' → H' w = some (.lst ((wrl (wrl ws e) d).map wV)) → Q .non H'
theorem d_write_both (D_write_cell : Dn P w K mg base CX0 "write_cell" ["worths", "deed"] 1 (sp_write_cell K)) (h : Has K mg "write_both" s_write_both) : Dn P w K mg base CX0 "write_both" ["worths", "deed", "other"] 2 (sp_write_both K) := by
  refine dn_of h (fun f fd F => F.binds fun _ _ _ _ _ _ us hl => match us, hl with | [_, _, _], _ => rfl) fun f fd F _ => F.ok sc_write_both (fun vs H Q E h => ?_) (fun cdv A outer s H vs Q E hr h => ?_)
  · obtain ⟨_, _, _, _, _, _, rfl, _⟩ := h
    rfl
  obtain ⟨w, a, b, ws, d, e, rfl, hw, h1, h2, o1, o2, k⟩ := h
  refine ⟨_, (pss_cons (ps_expr (pe_dn D_write_cell hr (by omega) pass0 (pa_cons (pv 0) (pa_cons (pv 2) pa_nil))))
    (pss_one (ps_expr (pe_dn D_write_cell hr (by omega) pass0 (pa_cons (pv 0) (pa_cons (pv 1) pa_nil)))))), ?_⟩
  refine ⟨_, rfl, _, rfl, w, b, ws, e, rfl, hw, h2, o2, fun H1 b1 w1 => ?_⟩
  refine ⟨_, rfl, _, rfl, w, a, wrl ws e, d, rfl, w1, dv_buts b1 (by simp [hw]) h1, by rw [wrl_length]; exact o1, fun H2 b2 w2 => ?_⟩
  exact k H2 (b1.trans b2) w2

/-- a beat by a rule is done -/
def sp_step (K : PySem.W.Frag) (r : Rule) : Sp := fun vs H Q _ => ∃ (w s o : Addr) (a b : V) (ws ss os : List Nat) (d e : Deed), vs = [.ref w, a, b, .ref s, .ref o] ∧ H w = some (.lst (ws.map wV)) ∧ H s = some (.lst (ss.map wV)) ∧ H o = some (.lst (os.map wV)) ∧
  w ≠ s ∧ w ≠ o ∧ s ≠ o ∧ DV K H a d ∧ DV K H b e ∧ d.ok ws.length ∧ e.ok ws.length ∧ ss.length ≤ 1000 ∧ os.length ≤ 1000 ∧
  ∀ H', Bt [w, s, o] H H' → H' w = some (.lst ((beat r ws d e).1.map wV)) → H' s = some (.lst ((ss ++ (beat r ws d e).2.1).map wV)) → H' o = some (.lst ((os ++ (beat r ws d e).2.2).map wV)) → Q .non H'

theorem d_step_old (D_read_cell : Dn P w K mg base CX0 "read_cell" ["worths", "deed", "seen"] 1 (sp_read_cell K)) (D_write_cell : Dn P w K mg base CX0 "write_cell" ["worths", "deed"] 1 (sp_write_cell K))
    (D_write_both : Dn P w K mg base CX0 "write_both" ["worths", "deed", "other"] 2 (sp_write_both K)) (h : Has K mg "step_old" s_step_old) : Dn P w K mg base CX0 "step_old" ["worths", "deed", "other", "seen", "others"] 3 (sp_step K .old) := by
  refine dn_of h (fun f fd F => F.binds fun _ _ _ _ _ _ us hl => match us, hl with | [_, _, _, _, _], _ => rfl) fun f fd F _ => F.ok sc_step_old (fun vs H Q E h => ?_) (fun cdv A outer s H vs Q E hr h => ?_)
  · obtain ⟨_, _, _, _, _, _, _, _, _, _, rfl, _⟩ := h
    rfl
  obtain ⟨w, s, o, a, b, ws, ss, os, d, e, rfl, hw, hs, ho, nws, nwo, nso, h1, h2, o1, o2, z1, z2, k⟩ := h
  refine ⟨_, (pss_cons (ps_expr (pe_dn D_read_cell hr (by omega) pass0 (pa_cons (pv 0) (pa_cons (pv 1) (pa_cons (pv 3) pa_nil)))))
    (pss_cons (ps_expr (pe_dn D_read_cell hr (by omega) pass0 (pa_cons (pv 0) (pa_cons (pv 2) (pa_cons (pv 4) pa_nil)))))
    (pss_one (ps_expr (pe_dn D_write_both hr (by omega) pass0 (pa_cons (pv 0) (pa_cons (pv 1) (pa_cons (pv 2) pa_nil)))))))), ?_⟩
  refine ⟨_, rfl, _, rfl, _, rfl, w, s, a, ws, ss, d, rfl, hw, hs, h1, o1, z1, fun H1 b1 s1 => ?_⟩
  have w1 := b1 w _ (by simp [nws]) hw
  have q1 := b1 o _ (by simp [nso.symm]) ho
  have d2 := dv_buts b1 (by simp [hs]) h2
  refine ⟨_, rfl, _, rfl, _, rfl, w, o, b, ws, os, e, rfl, w1, q1, d2, o2, z2, fun H2 b2 q2 => ?_⟩
  have w2 := b2 w _ (by simp [nwo]) w1
  have s2 := b2 s _ (by simp [nso]) s1
  refine ⟨_, rfl, _, rfl, _, rfl, w, a, b, ws, d, e, rfl, w2, dv_buts b2 (by simp [q1]) (dv_buts b1 (by simp [hs]) h1), dv_buts b2 (by simp [q1]) d2, o1, o2, fun H3 b3 w3 => ?_⟩
  exact k H3 (((b1.mono (by simp)).trans (b2.mono (by simp))).trans (b3.mono (by simp))) w3 (b3 s _ (by simp [nws.symm]) s2) (b3 o _ (by simp [nwo.symm]) q2)

theorem d_step_new (D_read_cell : Dn P w K mg base CX0 "read_cell" ["worths", "deed", "seen"] 1 (sp_read_cell K)) (D_write_cell : Dn P w K mg base CX0 "write_cell" ["worths", "deed"] 1 (sp_write_cell K))
    (D_write_both : Dn P w K mg base CX0 "write_both" ["worths", "deed", "other"] 2 (sp_write_both K)) (h : Has K mg "step_new" s_step_new) : Dn P w K mg base CX0 "step_new" ["worths", "deed", "other", "seen", "others"] 3 (sp_step K .new) := by
  refine dn_of h (fun f fd F => F.binds fun _ _ _ _ _ _ us hl => match us, hl with | [_, _, _, _, _], _ => rfl) fun f fd F _ => F.ok sc_step_new (fun vs H Q E h => ?_) (fun cdv A outer s H vs Q E hr h => ?_)
  · obtain ⟨_, _, _, _, _, _, _, _, _, _, rfl, _⟩ := h
    rfl
  obtain ⟨w, s, o, a, b, ws, ss, os, d, e, rfl, hw, hs, ho, nws, nwo, nso, h1, h2, o1, o2, z1, z2, k⟩ := h
  refine ⟨_, (pss_cons (ps_expr (pe_dn D_write_both hr (by omega) pass0 (pa_cons (pv 0) (pa_cons (pv 1) (pa_cons (pv 2) pa_nil)))))
    (pss_cons (ps_expr (pe_dn D_read_cell hr (by omega) pass0 (pa_cons (pv 0) (pa_cons (pv 1) (pa_cons (pv 3) pa_nil)))))
    (pss_one (ps_expr (pe_dn D_read_cell hr (by omega) pass0 (pa_cons (pv 0) (pa_cons (pv 2) (pa_cons (pv 4) pa_nil)))))))), ?_⟩
  refine ⟨_, rfl, _, rfl, _, rfl, w, a, b, ws, d, e, rfl, hw, h1, h2, o1, o2, fun H1 b1 w1 => ?_⟩
  have s1 := b1 s _ (by simp [nws.symm]) hs
  have q1 := b1 o _ (by simp [nwo.symm]) ho
  have d1 := dv_buts b1 (by simp [hw]) h1
  have d2 := dv_buts b1 (by simp [hw]) h2
  refine ⟨_, rfl, _, rfl, _, rfl, w, s, a, _, ss, d, rfl, w1, s1, d1, by rw [wrl_length, wrl_length]; exact o1, z1, fun H2 b2 s2 => ?_⟩
  have w2 := b2 w _ (by simp [nws]) w1
  have q2 := b2 o _ (by simp [nso.symm]) q1
  refine ⟨_, rfl, _, rfl, _, rfl, w, o, b, _, os, e, rfl, w2, q2, dv_buts b2 (by simp [s1]) d2, by rw [wrl_length, wrl_length]; exact o2, z2, fun H3 b3 q3 => ?_⟩
  exact k H3 (((b1.mono (by simp)).trans (b2.mono (by simp))).trans (b3.mono (by simp))) (b3 w _ (by simp [nwo]) w2) (b3 s _ (by simp [nso]) s2) q3

theorem d_step_left (D_read_cell : Dn P w K mg base CX0 "read_cell" ["worths", "deed", "seen"] 1 (sp_read_cell K)) (D_write_cell : Dn P w K mg base CX0 "write_cell" ["worths", "deed"] 1 (sp_write_cell K))
    (D_write_both : Dn P w K mg base CX0 "write_both" ["worths", "deed", "other"] 2 (sp_write_both K)) (h : Has K mg "step_left" s_step_left) : Dn P w K mg base CX0 "step_left" ["worths", "deed", "other", "seen", "others"] 3 (sp_step K .left) := by
  refine dn_of h (fun f fd F => F.binds fun _ _ _ _ _ _ us hl => match us, hl with | [_, _, _, _, _], _ => rfl) fun f fd F _ => F.ok sc_step_left (fun vs H Q E h => ?_) (fun cdv A outer s H vs Q E hr h => ?_)
  · obtain ⟨_, _, _, _, _, _, _, _, _, _, rfl, _⟩ := h
    rfl
  obtain ⟨w, s, o, a, b, ws, ss, os, d, e, rfl, hw, hs, ho, nws, nwo, nso, h1, h2, o1, o2, z1, z2, k⟩ := h
  refine ⟨_, (pss_cons (ps_expr (pe_dn D_read_cell hr (by omega) pass0 (pa_cons (pv 0) (pa_cons (pv 1) (pa_cons (pv 3) pa_nil)))))
    (pss_cons (ps_expr (pe_dn D_write_cell hr (by omega) pass0 (pa_cons (pv 0) (pa_cons (pv 1) pa_nil))))
    (pss_cons (ps_expr (pe_dn D_read_cell hr (by omega) pass0 (pa_cons (pv 0) (pa_cons (pv 2) (pa_cons (pv 4) pa_nil)))))
    (pss_one (ps_expr (pe_dn D_write_cell hr (by omega) pass0 (pa_cons (pv 0) (pa_cons (pv 2) pa_nil)))))))), ?_⟩
  refine ⟨_, rfl, _, rfl, _, rfl, w, s, a, ws, ss, d, rfl, hw, hs, h1, o1, z1, fun H1 b1 s1 => ?_⟩
  have w1 := b1 w _ (by simp [nws]) hw
  have q1 := b1 o _ (by simp [nso.symm]) ho
  have e1 := dv_buts b1 (by simp [hs]) h1
  have e2 := dv_buts b1 (by simp [hs]) h2
  refine ⟨_, rfl, _, rfl, w, a, ws, d, rfl, w1, e1, o1, fun H2 b2 w2 => ?_⟩
  have s2 := b2 s _ (by simp [nws.symm]) s1
  have q2 := b2 o _ (by simp [nwo.symm]) q1
  have f2 := dv_buts b2 (by simp [w1]) e2
  refine ⟨_, rfl, _, rfl, _, rfl, w, o, b, _, os, e, rfl, w2, q2, f2, by rw [wrl_length]; exact o2, z2, fun H3 b3 q3 => ?_⟩
  have w3 := b3 w _ (by simp [nwo]) w2
  have s3 := b3 s _ (by simp [nso]) s2
  refine ⟨_, rfl, _, rfl, w, b, _, e, rfl, w3, dv_buts b3 (by simp [q2]) f2, by rw [wrl_length]; exact o2, fun H4 b4 w4 => ?_⟩
  exact k H4 ((((b1.mono (by simp)).trans (b2.mono (by simp))).trans (b3.mono (by simp))).trans (b4.mono (by simp))) w4 (b4 s _ (by simp [nws.symm]) s3) (b4 o _ (by simp [nwo.symm]) q3)

theorem d_step_right (D_step_left : Dn P w K mg base CX0 "step_left" ["worths", "deed", "other", "seen", "others"] 3 (sp_step K .left)) (h : Has K mg "step_right" s_step_right) : Dn P w K mg base CX0 "step_right" ["worths", "deed", "other", "seen", "others"] 4 (sp_step K .right) := by
  refine dn_of h (fun f fd F => F.binds fun _ _ _ _ _ _ us hl => match us, hl with | [_, _, _, _, _], _ => rfl) fun f fd F _ => F.ok sc_step_right (fun vs H Q E h => ?_) (fun cdv A outer s H vs Q E hr h => ?_)
  · obtain ⟨_, _, _, _, _, _, _, _, _, _, rfl, _⟩ := h
    rfl
  obtain ⟨w, s, o, a, b, ws, ss, os, d, e, rfl, hw, hs, ho, nws, nwo, nso, h1, h2, o1, o2, z1, z2, k⟩ := h
  refine ⟨_, (pss_one (ps_expr (pe_dn D_step_left hr (by omega) pass0 (pa_cons (pv 0) (pa_cons (pv 2) (pa_cons (pv 1) (pa_cons (pv 4) (pa_cons (pv 3) pa_nil)))))))), ?_⟩
  refine ⟨_, rfl, _, rfl, _, rfl, _, rfl, _, rfl, w, o, s, b, a, ws, os, ss, e, d, rfl, hw, ho, hs, nwo, nws, nso.symm, h2, h1, o2, o1, z2, z1, fun H1 b1 w1 q1 s1 => ?_⟩
  exact k H1 (b1.mono (by simp)) w1 s1 q1

def sp_check_rule : Sp := spF 1 fun vs _ v => ∃ r : Rule, vs = [.str r.name] ∧ v = .non
theorem sp_check_rule_v {H : Hp} {r : Rule} : SpV sp_check_rule [.str r.name] H .non := spF_v rfl fun _ _ => ⟨r, rfl, rfl⟩
theorem d_check_rule {aRULES aSTEPS : Addr} (R : TxR K mg w aRULES aSTEPS) (h : Has K mg "check_rule" s_check_rule) : Dn P w K mg base CX0 "check_rule" ["rule"] 1 sp_check_rule := by
  refine dn_of h (fun f fd F => F.binds fun _ _ _ _ _ _ us hl => match us, hl with | [_], _ => rfl) fun f fd F _ => F.ok sc_check_rule (fun vs H Q E h => h.1) (fun cdv A outer s H vs Q E hr h => ?_)
  obtain ⟨_, v, ⟨r, rfl, rfl⟩, k⟩ := h
  refine ⟨_, (pss_one (ps_if (pt_cmpR (op_notIn_seqK K) (pv 0) (pe_glob (v := .ref aRULES) rfl R.g_RULES rfl) (by rfl)) pss_never pss_nil)), ?_⟩
  refine s_if (b := false) (et_test (ev_is (ev_op (by walk_at "ev") (by walk_at "ev") (rv_niT (R.RULES H) rfl (by decide +kernel))) (by rw [in_rules]; rfl))) (fun z => nomatch z) (fun _ H1 f1 => k H1 f1)

def sp_due (K : PySem.W.Frag) : Sp := fun vs H Q _ => ∃ (p : Addr) (us : List V) (ds : List Deed) (i : Nat), vs = [.ref p, .int i] ∧ SqL K H p us ∧ PV K H us ds ∧ ∀ (v : V) (H' : Hp), Ex H H' → DV K H' v (ds.getD i .rs) → Q v H'
theorem d_due {aREST aWORTHS : Addr} {t4 t40 : Tok} (T : Nb mg) (G : TxP K mg aREST aWORTHS t4 t40) (h : Has K mg "due" s_due) : Dn P w K mg base CX0 "due" ["program", "place"] 1 (sp_due K) := by
  refine dn_of h (fun f fd F => F.binds fun _ _ _ _ _ _ us hl => match us, hl with | [_, _], _ => rfl) fun f fd F _ => F.ok sc_due (fun vs H Q E h => ?_) (fun cdv A outer s H vs Q E hr h => ?_)
  · obtain ⟨_, _, _, _, rfl, _⟩ := h
    rfl
  obtain ⟨p, us, ds, i, rfl, h1, h2, k⟩ := h
  refine ⟨_, (pss_cons (ps_if (pt_cmpR op_lt (pv 1) (pe_callB (call_len_seqK K) (by rfl) T.n_len PySem.boot_len (pa_cons (pv 0) pa_nil)) (nomark _)) (pss_one (ps_ret (pe_ix (ix_listK K) (pv 0) (pv 1) (fun _ _ => rfl)))) pss_nil)
    (pss_one (ps_ret (pe_glob (v := .ref aREST) rfl G.g_REST rfl)))), ?_⟩
  have hl := h2.length
  refine q_when (b := decide ((i : Int) < (us.length : Int))) (et_test (by walk_at "ev")) (fun hb H1 f1 => ?_) (fun hb H1 f1 => ?_)
  · have hi : i < us.length := by have := of_decide_eq_true hb; omega
    obtain ⟨d, hd, dv⟩ := h2.get (List.getElem?_eq_getElem hi)
    refine s_ret (v := us[i]) (ev_op (by walk_at "ev") (by walk_at "ev") (rv_ixL (ex_l f1 h1) (atI_nat (List.getElem?_eq_getElem hi)))) fun H2 f2 => k _ H2 (f1.trans f2) ?_
    rw [List.getD_eq_getElem?_getD, hd]
    exact dv.mono (f1.trans f2)
  · have hi : ¬ i < us.length := by have := of_decide_eq_false hb; omega
    refine s_ret (v := .ref aREST) (by walk_at "ev") fun H2 f2 => k _ H2 (f1.trans f2) ?_
    rw [List.getD_eq_getElem?_getD, List.getElem?_eq_none_iff.mpr (by omega)]
    exact ⟨aREST, rfl, G.REST _⟩

/-- what run tells: two new lists, a new tuple, a number -/
def Told (K : PySem.W.Frag) (H H' : Hp) (v : V) (S : Sts) : Prop := ∃ t s o m : Addr, v = .ref t ∧ H' t = some (.tup [.ref s, .ref o, .ref m, .int S.n]) ∧ H' s = some (.lst (S.ss.map wV)) ∧ H' o = some (.lst (S.os.map wV)) ∧ SqT K H' m (S.ws.map wV) ∧
  H s = none ∧ H o = none ∧ s ≠ o ∧ Ex H H'
theorem Told.back {K : PySem.W.Frag} {H0 H H' : Hp} {v : V} {S : Sts} (f : Ex H0 H) (h : Told K H H' v S) : Told K H0 H' v S := by
  obtain ⟨t, s, o, m, a1, a2, a3, a4, a5, a6, a7, a8, a9⟩ := h
  exact ⟨t, s, o, m, a1, a2, a3, a4, a5, fresh_back f a6, fresh_back f a7, a8, f.trans a9⟩
def sp_play (K : PySem.W.Frag) : Sp := fun vs H Q _ => ∃ (r : Rule) (m p q : Addr) (ws : List Nat) (us xs : List V) (ds es : List Deed), vs = [.str r.name, .ref m, .ref p, .ref q] ∧ SqT K H m (ws.map wV) ∧ (∀ x ∈ ws, x < 3) ∧ SqL K H p us ∧ PV K H us ds ∧ ds.length ≤ 40 ∧ (∀ d ∈ ds, d.ok ws.length) ∧
  SqL K H q xs ∧ PV K H xs es ∧ es.length ≤ 40 ∧ (∀ d ∈ es, d.ok ws.length) ∧ ∀ (v : V) (H' : Hp), Told K H H' v (out r (begin0 ws ds es)) → Q v H'
theorem d_play {aREST aWORTHS : Addr} {t4 t40 : Tok} {aRULES aSTEPS : Addr} (T : Nb mg) (G : TxP K mg aREST aWORTHS t4 t40) (R : TxR K mg w aRULES aSTEPS) (D_due : Dn P w K mg base CX0 "due" ["program", "place"] 1 (sp_due K)) (D_clash : Dn P w K mg base CX0 "clash" ["deed", "other"] 1 (sp_clash K))
    (D_old : Dn P w K mg base CX0 "step_old" ["worths", "deed", "other", "seen", "others"] 3 (sp_step K .old)) (D_new : Dn P w K mg base CX0 "step_new" ["worths", "deed", "other", "seen", "others"] 3 (sp_step K .new))
    (D_left : Dn P w K mg base CX0 "step_left" ["worths", "deed", "other", "seen", "others"] 3 (sp_step K .left)) (D_right : Dn P w K mg base CX0 "step_right" ["worths", "deed", "other", "seen", "others"] 4 (sp_step K .right))
    (h : Has K mg "play" s_play) : Dn P w K mg base CX0 "play" ["rule", "memory", "left", "right"] 5 (sp_play K) := by
  refine dn_of h (fun f fd F => F.binds fun _ _ _ _ _ _ us hl => match us, hl with | [_, _, _, _], _ => rfl) fun f fd F _ => F.ok sc_play (fun vs H Q E h => ?_) (fun cdv A outer s H vs Q E hr h => ?_)
  · obtain ⟨_, _, _, _, _, _, _, _, _, rfl, _⟩ := h
    rfl
  obtain ⟨r, m, p, q, ws, us, xs, ds, es, rfl, hm, hw3, hp, hP, hl40, hok1, hq, hX, hr40, hok2, k⟩ := h
  have D_step : Dn P w K mg base CX0 r.step ["worths", "deed", "other", "seen", "others"] 4 (sp_step K (if r = .wait then .left else r)) := by
    cases r with
    | old => exact D_old.up (by omega)
    | new => exact D_new.up (by omega)
    | left => exact D_left.up (by omega)
    | right => exact D_right
    | wait => exact D_left.up (by omega)
  obtain ⟨fs, ms, kd⟩ := R.STEPS r
  obtain ⟨fs', fds, F_step, ms', k_step, b_step⟩ := D_step.ex
  have efs : fs' = fs := by
    have z := ms'.symm.trans ms
    injection z with z
    injection z
  subst efs
  refine ⟨_, (pss_cons (ps_set (i := 4) sc_play.nd rfl (Or.inl rfl) (pe_ix ix_kdict (pe_glob (v := .ref aSTEPS) rfl R.g_STEPS rfl) (pv 0) (fun _ _ => rfl)))
    (pss_cons (ps_set (i := 5) sc_play.nd rfl (Or.inl rfl) (pe_callTy (call_list_ofK K) (by rfl) T.n_list PyProof.Rows.boot_list (pa_cons (pv 1) pa_nil)))
    (pss_cons (ps_set (i := 6) sc_play.nd rfl (Or.inl rfl) (pe_lst pa_nil))
    (pss_cons (ps_set (i := 7) sc_play.nd rfl (Or.inl rfl) (pe_lst pa_nil))
    (pss_cons (ps_set (i := 8) sc_play.nd rfl (Or.inl rfl) pe_int)
    (pss_cons (ps_set (i := 9) sc_play.nd rfl (Or.inl rfl) pe_int)
    (pss_cons (ps_while PassesOwn.never (PW.pt (pw_or (pt_cmpR op_lt (pv 8) (pe_callB (call_len_seqK K) (by rfl) T.n_len PySem.boot_len (pa_cons (pv 2) pa_nil)) (nomark _)) (pw_or1 (pt_cmpR op_lt (pv 9) (pe_callB (call_len_seqK K) (by rfl) T.n_len PySem.boot_len (pa_cons (pv 3) pa_nil)) (nomark _)))))
      (pss_cons (ps_set (i := 10) sc_play.nd rfl (Or.inl rfl) (pe_dn D_due hr (by omega) pass0 (pa_cons (pv 2) (pa_cons (pv 8) pa_nil))))
      (pss_cons (ps_set (i := 11) sc_play.nd rfl (Or.inl rfl) (pe_dn D_due hr (by omega) pass0 (pa_cons (pv 3) (pa_cons (pv 9) pa_nil))))
      (pss_cons (ps_if (PW.pt (pw_and (pt_cmpR op_eq (pv 0) pe_str (nomark _)) (pw_and1 (pt_val (pe_dn D_clash hr (by omega) pass0 (pa_cons (pv 10) (pa_cons (pv 11) pa_nil))))))) (pss_one (ps_set (i := 11) sc_play.nd rfl (Or.inl rfl) (pe_glob (v := .ref aREST) rfl G.g_REST rfl))) (pss_one (ps_aug (i := 9) sc_play.nd rfl (Or.inl rfl) pe_int ip_add)))
      (pss_cons (ps_expr (pe_callL (i := 4) F_step (hr.mono (by omega)) rfl (Or.inl rfl) k_step b_step .nil pass0 (pa_cons (pv 5) (pa_cons (pv 10) (pa_cons (pv 11) (pa_cons (pv 6) (pa_cons (pv 7) pa_nil)))))))
      (pss_one (ps_aug (i := 8) sc_play.nd rfl (Or.inl rfl) pe_int ip_add)))))))
    (pss_one (ps_ret (pe_tup (pa_cons (pv 6) (pa_cons (pv 7) (pa_cons (pe_callTy call_tuple_of (by rfl) T.n_tuple PyProof.Rows.boot_tuple (pa_cons (pv 5) pa_nil)) (pa_cons (pv 8) pa_nil)))))))))))))), ?_⟩
  have hPl := hP.length
  have hXl := hX.length
  refine q_asg (v := .ref fs') (ev_op (by walk_at "ev") (by walk_at "ev") (rv_val fun H1 f1 Q q => ⟨_, _, _, rfl, rfl, kd, q⟩)) fun H1 f1 => ?_
  refine q_asgL (xs := ws.map wV) (fun H2 f2 Q q => ⟨_, rfl, m, _, rfl, .inr (ex_t (f1.trans f2) hm), fun l hl => q l _ hl (Ex.new hl) upd_same⟩) fun w' H2 nw f2 hw => ?_
  refine q_asgL (xs := []) (el_lst ea_nil (by decide)) fun s' H3 ns f3 hs => ?_
  refine q_asgL (xs := []) (el_lst ea_nil (by decide)) fun o' H4 no f4 ho => ?_
  refine q_asg (v := .int 0) (by walk_at "ev") fun H5 f5 => ?_
  refine q_asg (v := .int 0) (by walk_at "ev") fun H6 f6 => ?_
  have f16 := ((((f1.trans f2).trans f3).trans f4).trans f5).trans f6
  have nws : w' ≠ s' := ne_of_none hw ns
  have nwo : w' ≠ o' := ne_of_none (f3 _ _ hw) no
  have nso : s' ≠ o' := ne_of_none hs no
  have nw0 : H w' = none := fresh_back f1 nw
  have ns0 : H s' = none := fresh_back (f1.trans f2) ns
  have no0 : H o' = none := fresh_back ((f1.trans f2).trans f3) no
  have hfit := Fit.begin0 (c := ws.length) (l := ds) (r := es) rfl hw3 hok1 hok2
  refine q_while (fun mm σ' H' => ∃ (S : Sts) (i j : Nat) (d e : Option V), mm = S.meas ∧ σ' = [some (.str r.name), some (.ref m), some (.ref p), some (.ref q), some (.ref fs'), some (.ref w'), some (.ref s'), some (.ref o'), some (.int i), some (.int j), d, e] ∧
      H' w' = some (.lst (S.ws.map wV)) ∧ H' s' = some (.lst (S.ss.map wV)) ∧ H' o' = some (.lst (S.os.map wV)) ∧ Ex H H' ∧ S.l = ds.drop i ∧ S.r = es.drop j ∧ S.n = i ∧ Fit ws.length (ds.length + es.length) S ∧ out r S = out r (begin0 ws ds es)) (begin0 ws ds es).meas
    ⟨begin0 ws ds es, 0, 0, none, none, rfl, rfl, (f6 _ _ (f5 _ _ (f4 _ _ (f3 _ _ hw)))), f6 _ _ (f5 _ _ (f4 _ _ hs)), f6 _ _ (f5 _ _ ho), f16, rfl, rfl, rfl, hfit, rfl⟩ ?_
  rintro mm σ' H' ⟨S, i, j, d0, e0, rfl, rfl, gw, gs, go, ge, hl, hrr, hn, fit, ho⟩
  refine ⟨decide ((i : Int) < (us.length : Int)) || decide ((j : Int) < (xs.length : Int)), et_or (et_test (ev_op (by walk_at "ev") (ev_cb (ea_cons (ev_var (v := .ref p) rfl) ea_nil) (rc_lenL (ex_l ge hp))) rv_I0)) (fun _ => et_test (ev_op (by walk_at "ev") (ev_cb (ea_cons (ev_var (v := .ref q) rfl) ea_nil) (rc_lenL (ex_l ge hq))) rv_I0)), fun hb H7 f7 => ?_, fun hb H7 f7 => ?_⟩
  · -- a beat
    have nd : ¬ S.done := by
      rintro ⟨z1, z2⟩
      rw [hl] at z1
      rw [hrr] at z2
      have y1 := congrArg List.length z1
      have y2 := congrArg List.length z2
      rw [List.length_drop] at y1 y2
      simp only [List.length_nil] at y1 y2
      rw [Bool.or_eq_true] at hb
      rcases hb with hb | hb
      · have := of_decide_eq_true hb; omega
      · have := of_decide_eq_true hb; omega
    have less := one_less (r := r) nd
    have fit1 := fit.one (r := r) nd
    have out1 := (out_one (r := r) nd).trans ho
    refine ⟨fun σ2 H2 => ∃ (S2 : Sts) (i j : Nat) (d e : Option V), S2.meas < S.meas ∧ σ2 = [some (.str r.name), some (.ref m), some (.ref p), some (.ref q), some (.ref fs'), some (.ref w'), some (.ref s'), some (.ref o'), some (.int i), some (.int j), d, e] ∧
      H2 w' = some (.lst (S2.ws.map wV)) ∧ H2 s' = some (.lst (S2.ss.map wV)) ∧ H2 o' = some (.lst (S2.os.map wV)) ∧ Ex H H2 ∧ S2.l = ds.drop i ∧ S2.r = es.drop j ∧ S2.n = i ∧ Fit ws.length (ds.length + es.length) S2 ∧ out r S2 = out r (begin0 ws ds es), ?_, ?_⟩
    · rintro σ2 H2 ⟨S2, i2, j2, d2, e2, q1, q2, q3, q4, q5, q6, q7, q8, q9, q10, q11⟩
      exact ⟨S2.meas, q1, S2, i2, j2, d2, e2, rfl, q2, q3, q4, q5, q6, q7, q8, q9, q10, q11⟩
    have ge7 := ge.trans f7
    -- both deeds
    refine ⟨_, rfl, _, rfl, p, us, ds, i, rfl, ex_l ge7 hp, hP.mono ge7, fun vd H8 f8 dv => ?_⟩
    have ge8 := ge7.trans f8
    refine ⟨_, rfl, _, rfl, q, xs, es, j, rfl, ex_l ge8 hq, hX.mono ge8, fun ve H9 f9 ev => ?_⟩
    have ge9 := ge8.trans f9
    have dv := dv.mono f9
    have ehl : S.l.headD .rs = ds.getD i .rs := by rw [hl]; exact headD_drop ds i
    have ehr : S.r.headD .rs = es.getD j .rs := by rw [hrr]; exact headD_drop es j
    rw [← ehl] at dv
    rw [← ehr] at ev
    have etl : S.l.tail = ds.drop (i + 1) := by rw [hl, List.tail_drop]
    have etr : S.r.tail = es.drop (j + 1) := by rw [hrr, List.tail_drop]
    have h9 := (f7.trans f8).trans f9
    have gw9 := h9 _ _ gw
    have gs9 := h9 _ _ gs
    have go9 := h9 _ _ go
    have okd := ok_headD fit.okl
    have oke := ok_headD fit.okr
    rw [← fit.len] at okd oke
    have zs := fit.ss
    have zo := fit.os
    have cl := sp_clash_v dv ev
    have wd : decide (V.str r.name = V.str "wait") = decide (r = .wait) := by cases r <;> decide +kernel
    refine gn ?_
    dsimp only
    refine q_if (b := waits r S) (et_and (a := decide (r = .wait)) (et_is (et_test (ev_op (x := .str r.name) (y := .str "wait") (by walk_at "ev") (by walk_at "ev") (rv_eq rfl))) wd) (fun _ => et_B (ev_call (ea_cons (ev_var (v := vd) rfl) (ea_cons (ev_var (v := ve) rfl) ea_nil)) cl))) (fun hb2 H10 f10 => ?_) (fun hb2 H10 f10 => ?_)
    · -- the right door waits
      have hrw : r = .wait := by
        unfold waits at hb2
        rw [Bool.and_eq_true] at hb2
        exact of_decide_eq_true hb2.1
      refine s_asg (v := .ref aREST) (by walk_at "ev") fun H11 f11 => ?_
      have f911 := f10.trans f11
      refine ⟨rfl, _, rfl, _, rfl, _, rfl, _, rfl, _, rfl, w', s', o', vd, .ref aREST, S.ws, S.ss, S.os, S.l.headD .rs, .rs, rfl, f911 _ _ gw9, f911 _ _ gs9, f911 _ _ go9, nws, nwo, nso, dv.mono f911, ⟨aREST, rfl, G.REST _⟩, okd, True.intro, by omega, by omega, fun H12 b12 w12 s12 o12 => ?_⟩
      refine s_aug (a := i) (b := 1) rfl ev_c fun H13 f13 => ?_
      have e1 : one r S = after S (beat .left S.ws (S.l.headD .rs) .rs) true := if_pos hb2
      rw [e1] at less fit1 out1
      have e2 : (if r = Rule.wait then Rule.left else r) = .left := if_pos hrw
      rw [e2] at w12 s12 o12
      exact ⟨_, i + 1, j, _, _, less, rfl, f13 _ _ w12, f13 _ _ s12, f13 _ _ o12, ((Bt.of_ex (ge9.trans f911)).trans (b12)).ex_back f13 (by simp [nw0, ns0, no0]), etl, hrr, (by show S.n + 1 = i + 1; omega), fit1, out1⟩
    · refine s_aug (a := j) (b := 1) rfl ev_c fun H11 f11 => ?_
      have f911 := f10.trans f11
      refine ⟨rfl, _, rfl, _, rfl, _, rfl, _, rfl, _, rfl, w', s', o', vd, ve, S.ws, S.ss, S.os, S.l.headD .rs, S.r.headD .rs, rfl, f911 _ _ gw9, f911 _ _ gs9, f911 _ _ go9, nws, nwo, nso, dv.mono f911, ev.mono f911, okd, oke, by omega, by omega, fun H12 b12 w12 s12 o12 => ?_⟩
      refine s_aug (a := i) (b := 1) rfl ev_c fun H13 f13 => ?_
      have e1 : one r S = after S (beat r S.ws (S.l.headD .rs) (S.r.headD .rs)) false := if_neg (by rw [hb2]; exact Bool.false_ne_true)
      rw [e1] at less fit1 out1
      have e2 : ∀ d e, beat (if r = Rule.wait then Rule.left else r) S.ws d e = beat r S.ws d e := by
        intro d e
        cases r <;> rfl
      rw [e2] at w12 s12 o12
      exact ⟨_, i + 1, j + 1, _, _, less, rfl, f13 _ _ w12, f13 _ _ s12, f13 _ _ o12, ((Bt.of_ex (ge9.trans f911)).trans (b12)).ex_back f13 (by simp [nw0, ns0, no0]), etl, etr, (by show S.n + 1 = i + 1; omega), fit1, out1⟩
  · -- all is done
    have hd : S.done := by
      rw [Bool.or_eq_false_iff] at hb
      have y1 := of_decide_eq_false hb.1
      have y2 := of_decide_eq_false hb.2
      exact ⟨by rw [hl]; exact List.drop_of_length_le (by omega), by rw [hrr]; exact List.drop_of_length_le (by omega)⟩
    rw [out_done hd] at ho
    have f7e := ge.trans f7
    refine ⟨_, rfl, _, rfl, _, rfl, w', _, rfl, .inl ⟨SqL.of (f7 _ _ gw), fun m' nm => ?_⟩⟩
    refine ⟨_, rfl, by show 4 ≤ sizeLine; decide, fun t' nt => ?_⟩
    have g1 := Ex.new (o := .tup (S.ws.map wV)) nm
    have g2 := Ex.new (o := .tup [.ref s', .ref o', .ref m', .int i]) nt
    refine k _ _ ⟨t', s', o', m', rfl, ?_, ?_, ?_, ?_, ns0, no0, nso, (f7e.trans g1).trans g2⟩
    · rw [← ho, hn]; exact upd_same
    · rw [← ho]; exact g2 _ _ (g1 _ _ (f7 _ _ gs))
    · rw [← ho]; exact g2 _ _ (g1 _ _ (f7 _ _ go))
    · rw [← ho]; exact SqT.of (g2 _ _ upd_same)

def sp_run (K : PySem.W.Frag) : Sp := fun vs H Q _ => ∃ (r : Rule) (m p q : Addr) (ws : List Nat) (us xs : List V) (ds es : List Deed), vs = [.str r.name, .ref m, .ref p, .ref q] ∧ SqT K H m (ws.map wV) ∧ 1 ≤ ws.length ∧ ws.length ≤ 4 ∧ (∀ x ∈ ws, x < 3) ∧ SqL K H p us ∧ PV K H us ds ∧ ds.length ≤ 40 ∧ (∀ d ∈ ds, d.ok ws.length) ∧
  SqL K H q xs ∧ PV K H xs es ∧ es.length ≤ 40 ∧ (∀ d ∈ es, d.ok ws.length) ∧ ∀ (v : V) (H' : Hp), Told K H H' v (out r (begin0 ws ds es)) → Q v H'
theorem d_run (T : Nb mg) (D_check_rule : Dn P w K mg base CX0 "check_rule" ["rule"] 1 sp_check_rule) (D_check_memory : Dn P w K mg base CX0 "check_memory" ["memory"] 3 (sp_check_memory K)) (D_check_programs : Dq P w K mg base CX0 "check_programs" ["left", "right", "cells", "most"] [.int 40] 5 (sp_check_programs K))
    (D_play : Dn P w K mg base CX0 "play" ["rule", "memory", "left", "right"] 5 (sp_play K)) (h : Has K mg "run" s_run) : Dn P w K mg base CX0 "run" ["rule", "memory", "left", "right"] 6 (sp_run K) := by
  refine dn_of h (fun f fd F => F.binds fun _ _ _ _ _ _ us hl => match us, hl with | [_, _, _, _], _ => rfl) fun f fd F _ => F.ok sc_run (fun vs H Q E h => ?_) (fun cdv A outer s H vs Q E hr h => ?_)
  · obtain ⟨_, _, _, _, _, _, _, _, _, rfl, _⟩ := h
    rfl
  obtain ⟨r, m, p, q, ws, us, xs, ds, es, rfl, hm, hw1, hw4, hw3, hp, hP, hl40, hok1, hq, hX, hr40, hok2, k⟩ := h
  refine ⟨_, (pss_cons (ps_expr (pe_dn D_check_rule hr (by omega) pass0 (pa_cons (pv 0) pa_nil)))
    (pss_cons (ps_expr (pe_dn D_check_memory hr (by omega) pass0 (pa_cons (pv 1) pa_nil)))
    (pss_cons (ps_expr (pe_dq D_check_programs hr (by omega) pass0 (pa_cons (pv 2) (pa_cons (pv 3) (pa_cons (pe_callB (call_len_seqK K) (by rfl) T.n_len PySem.boot_len (pa_cons (pv 1) pa_nil)) pa_nil)))))
    (pss_one (ps_ret (pe_dn D_play hr (by omega) pass0 (pa_cons (pv 0) (pa_cons (pv 1) (pa_cons (pv 2) (pa_cons (pv 3) pa_nil)))))))))), ?_⟩
  have c := @sp_check_rule_v H r
  refine q_drop (v := .non) (by walk_at "ev") fun H1 f1 => ?_
  have c := sp_check_memory_v (ex_t f1 hm) hw1 hw4 hw3
  refine q_drop (v := .non) (by walk_at "ev") fun H2 f2 => ?_
  have f12 := f1.trans f2
  have c := sp_check_programs_v (n := ws.length) (m := 40) (ex_l f12 hp) (hP.mono f12) hl40 hok1 (ex_l f12 hq) (hX.mono f12) hr40 hok2
  refine q_drop (v := .non) (ev_call (ea_cons (by walk_at "ev") (ea_cons (by walk_at "ev") (ea_cons (ev_is (ev_cb (ea_cons (ev_var (v := .ref m) rfl) ea_nil) (rc_lenT (ex_t f12 hm))) (by rw [List.length_map])) ea_nil))) (dvs := [.int 40]) c) fun H3 f3 => ?_
  have f13 := f12.trans f3
  refine ⟨_, rfl, _, rfl, _, rfl, _, rfl, r, m, p, q, ws, us, xs, ds, es, rfl, ex_t f13 hm, hw3, ex_l f13 hp, hP.mono f13, hl40, hok1, ex_l f13 hq, hX.mono f13, hr40, hok2, fun v H' t => k v H' (t.back f13)⟩

/-- the i-th of so many draws: a number from 0 on, below m -/
def sp_law_next : Sp := fun vs H Q _ => ∃ (h l : Addr) (m : Int), vs = [.ref h, .int m] ∧ Draw H h l ∧ 0 < m ∧ m < 1073741824 ∧ ∀ (r : Int) (H' : Hp), 0 ≤ r → r < m → Drew H H' h l → Q (.int r) H'
theorem d_law_next (T : Nb mg) (h : Has K mg "_law_next" s_law_next) : Dn P w K mg base CX0 "_law_next" ["_law_h", "_law_many"] 1 sp_law_next := by
  refine dn_of h (fun f fd F => F.binds fun _ _ _ _ _ _ us hl => match us, hl with | [_, _], _ => rfl) fun f fd F _ => F.ok sc_law_next (fun vs H Q E h => ?_) (fun cdv A outer s H vs Q E hr h => ?_)
  · obtain ⟨_, _, _, rfl, _⟩ := h
    rfl
  · obtain ⟨h, l, m, rfl, D, hm, hm2, k⟩ := h
    refine ⟨_, (pss_cons (ps_set (i := 2) sc_law_next.nd rfl (Or.inl rfl) (pe_op op_mod (pe_ix (ix_listK K) (pv 0) pe_int (fun _ _ => rfl)) (pe_callB (call_max2 rfl) (by rfl) T.n_max PyProof.Rows.boot_max (pa_cons pe_int (pa_cons (pe_callB (call_len_seqK K) (by rfl) T.n_len PySem.boot_len (pa_cons (pe_ix (ix_listK K) (pv 0) pe_int (fun _ _ => rfl)) pa_nil)) pa_nil)))))
    (pss_cons (ps_set (i := 3) sc_law_next.nd rfl (Or.inl rfl) (pe_ifExp (pt_cmpR (op_neDK K rfl hr.units) (pe_ix (ix_listK K) (pv 0) pe_int (fun _ _ => rfl)) (pe_lst pa_nil) (nomark _)) (pe_ix (ix_listK K) (pe_ix (ix_listK K) (pv 0) pe_int (fun _ _ => rfl)) (pv 2) (fun _ _ => rfl)) pe_int))
    (pss_cons (ps_if (pt_cmpR op_ge (pv 3) (pe_op op_pow pe_int pe_int) (nomark _)) (pss_cons (ps_asg (pe_op op_fdiv (pv 3) (pv 1)) (pg_sub (pe_ix (ix_listK K) (pv 0) pe_int (fun _ _ => rfl)) (pv 2) set_list))
      (pss_one (ps_ret (pe_op op_mod (pv 3) (pv 1))))) pss_nil)
    (pss_cons (ps_asg (pe_op op_mod (pe_op op_add (pe_op op_add (pe_op op_mul (pe_ix (ix_listK K) (pv 0) pe_int (fun _ _ => rfl)) pe_int) (pe_op op_mul (pv 3) pe_int)) pe_int) pe_int) (pg_sub (pv 0) pe_int set_list))
    (pss_cons (ps_asg (pe_op op_add (pe_ix (ix_listK K) (pv 0) pe_int (fun _ _ => rfl)) pe_int) (pg_sub (pv 0) pe_int set_list))
    (pss_one (ps_ret (pe_op op_mod (pe_op op_fdiv (pe_ix (ix_listK K) (pv 0) pe_int (fun _ _ => rfl)) pe_int) (pv 1))))))))), ?_⟩
    obtain ⟨a, p, ns, e1, e2, e3⟩ := D.st
    have hhl := D.ne
    have hM : (0 : Int) < (if ((ns.map V.int).length : Int) > 1 then ((ns.map V.int).length : Int) else 1) := by split <;> omega
    refine q_asg (v := .int (p % (if ((ns.map V.int).length : Int) > 1 then ((ns.map V.int).length : Int) else 1))) (by walk_at "ev") fun H1 f1 => ?_
    have a0 := Int.emod_nonneg p (Int.ne_of_gt hM)
    have a1 := Int.emod_lt_of_pos p hM
    generalize hat : p % (if ((ns.map V.int).length : Int) > 1 then ((ns.map V.int).length : Int) else 1) = t at *
    have c1 := f1 _ _ e1
    have c2 := f1 _ _ e2
    obtain ⟨c, hc⟩ : ∃ c : Int, Ev (tIf (tTest (tOp (rNeD K) (tOp (rIxL K) (tVar 0) (tC (.int 1))) (tLst tNil))) (tOp (rIxL K) (tOp (rIxL K) (tVar 0) (tC (.int 1))) (tVar 2)) (tC (.int 0))) ((start ["_law_h", "_law_many", "_law_at", "_law_cell"] [.ref h, .int m]).set 2 (some (.int t))) H1 (.int c)
        ∧ (c ≠ 0 → ∃ j : Nat, t = (j : Int) ∧ j < ns.length) := by
      cases ns with
      | nil =>
        refine ⟨0, ev_ifF (et_test (ev_is (ev_opL (xs := []) (by walk_at "ev") (el_lst ea_nil (by decide)) fun p H2 hp f2 => rv_neD (n := 1) (m := 1) (d := .list []) (e := .list []) (.lst (SqL.of (f2 _ _ c2)) .nil) (.lst (SqL.of hp) .nil) (sh_lst fun _ z => nomatch z) (sh_lst fun _ z => nomatch z) (by decide) (by decide)) rfl)) ev_c, fun z => absurd rfl z⟩
      | cons n r =>
        obtain ⟨j, rfl⟩ : ∃ j : Nat, t = (j : Int) := ⟨t.toNat, by omega⟩
        have hj : j < (n :: r).length := by
          have q : ((n :: r).map V.int).length = (n :: r).length := List.length_map ..
          rw [q] at a1
          have q2 : (n :: r).length = r.length + 1 := rfl
          split at a1 <;> omega
        have hx : ((n :: r).map V.int)[j]? = some (.int (n :: r)[j]) := by rw [List.getElem?_map, List.getElem?_eq_getElem hj]; rfl
        refine ⟨(n :: r)[j], ev_ifT (et_test (ev_is (ev_opL (xs := []) (by walk_at "ev") (el_lst ea_nil (by decide)) fun p H2 hp f2 => rv_neD (n := 1) (m := 1) (d := .list ((n :: r).map PyData.int)) (e := .list []) (.lst (SqL.of (f2 _ _ c2)) (dpa_ints _)) (.lst (SqL.of hp) .nil) (sh_ints _) (sh_lst fun _ z => nomatch z) (by decide) (by decide)) rfl)) (by walk_at "ev"), fun _ => ⟨j, rfl, hj⟩⟩
    refine q_asg hc.1 fun H2 f2 => ?_
    have d1 := f2 _ _ c1
    have d2 := f2 _ _ c2
    have f02 := f1.trans f2
    refine q_when (b := decide ((10 : Int) ^ (18 : Int).toNat ≤ c)) (et_test (by walk_at "ev")) (fun hb H3 f3 => ?_) (fun hb H3 f3 => ?_)
    · have hb := of_decide_eq_true hb
      have e18 : (10 : Int) ^ (18 : Int).toNat = 1000000000000000000 := by decide
      rw [e18] at hb
      have e1 := f3 _ _ d1
      have e2 := f3 _ _ d2
      obtain ⟨j, rfl, hj⟩ := hc.2 (by omega)
      refine q_setL (l := l) (v := .int (c / m)) (j := j) e2 (by walk_at "ev") (by walk_at "ev") (by walk_at "ev") (by rw [List.length_map]; exact hj) fun H4 f4 => ?_
      refine s_ret (v := .int (c % m)) (by walk_at "ev") fun H5 f5 => ?_
      have g0 : Bt [h, l] H (upd H4 l (.lst ((ns.map V.int).set j (.int (c / m))))) := (Bt.of_ex ((f02.trans f3).trans f4)).upd (.inl (by simp))
      refine k _ _ (Int.emod_nonneg _ (by omega)) (Int.emod_lt_of_pos _ hm) ⟨Draw.mono f5 ⟨a, p, ns.set j (c / m), ?_, ?_, ?_⟩, g0.trans (Bt.of_ex f5)⟩
      · rw [upd_ne hhl]; exact f4 _ _ e1
      · rw [List.map_set]; exact upd_same
      · rw [List.length_set]; exact e3
    · have e1 := f3 _ _ d1
      have e2 := f3 _ _ d2
      refine q_setL (l := h) (v := .int ((a * 48271 + c * 69621 + 11) % 2147483647)) (j := 0) e1 (by walk_at "ev") (by walk_at "ev") (by walk_at "ev") (by simp) fun H4 f4 => ?_
      have g1 : (upd H4 h (.lst (([.int a, .ref l, .int p] : List V).set 0 (.int ((a * 48271 + c * 69621 + 11) % 2147483647))))) h = some (.lst [.int ((a * 48271 + c * 69621 + 11) % 2147483647), .ref l, .int p]) := upd_same
      refine q_setL (l := h) (v := .int (p + 1)) (j := 2) g1 (by walk_at "ev") (by walk_at "ev") (by walk_at "ev") (by simp) fun H5 f5 => ?_
      have g2 : (upd H5 h (.lst (([.int ((a * 48271 + c * 69621 + 11) % 2147483647), .ref l, .int p] : List V).set 2 (.int (p + 1))))) h = some (.lst [.int ((a * 48271 + c * 69621 + 11) % 2147483647), .ref l, .int (p + 1)]) := upd_same
      refine s_ret (v := .int ((a * 48271 + c * 69621 + 11) % 2147483647 / 7 % m)) (by walk_at "ev") fun H6 f6 => ?_
      refine k _ _ (Int.emod_nonneg _ (by omega)) (Int.emod_lt_of_pos _ hm) ⟨Draw.mono f6 ⟨_, p + 1, ns, g2, ?_, e3⟩, ?_⟩
      · rw [upd_ne hhl.symm]
        refine f5 _ _ ?_
        rw [upd_ne hhl.symm]
        exact f4 _ _ e2
      · have b1 : Bt [h, l] H (upd H4 h (.lst (([.int a, .ref l, .int p] : List V).set 0 (.int ((a * 48271 + c * 69621 + 11) % 2147483647))))) := (Bt.of_ex ((f02.trans f3).trans f4)).upd (.inl (by simp))
        exact ((b1.trans (Bt.of_ex f5)).upd (.inl (by simp))).trans (Bt.of_ex f6)

/-- the draws are laid -/
def sp_law_mix (K : PySem.W.Frag) : Sp := fun vs H Q _ => ∃ (a : Addr) (s : Int) (ns : List Int), vs = [.ref a, .int s] ∧ SqL K H a (ns.map V.int) ∧ ns.length ≤ 63 ∧ ∀ (h l : Addr) (H' : Hp), Ex H H' → Draw H' h l → Q (.ref h) H'
theorem d_law_mix (T : Nb mg) (h : Has K mg "_law_mix" s_law_mix) : Dn P w K mg base CX0 "_law_mix" ["_law_script", "_law_seed"] 1 (sp_law_mix K) := by
  refine dn_of h (fun f fd F => F.binds fun _ _ _ _ _ _ us hl => match us, hl with | [_, _], _ => rfl) fun f fd F _ => F.ok sc_law_mix (fun vs H Q E h => ?_) (fun cdv A outer s H vs Q E hr h => ?_)
  · obtain ⟨_, _, _, rfl, _⟩ := h
    rfl
  · obtain ⟨a, sd, ns, rfl, hS, hn, k⟩ := h
    refine ⟨_, (pss_cons (ps_set (i := 2) sc_law_mix.nd rfl (Or.inl rfl) (pv 1))
    (pss_cons (ps_for PassesOwn.never rfl (pi_list (pv 0)) (pg_name (i := 3) sc_law_mix.nd rfl (Or.inl rfl))
      (pss_one (ps_set (i := 2) sc_law_mix.nd rfl (Or.inl rfl) (pe_op op_mod (pe_op op_add (pe_op op_add (pe_op op_mul (pv 2) pe_int) (pe_op op_mod (pv 3) pe_int)) pe_int) pe_int))))
    (pss_one (ps_ret (pe_lst (pa_cons (pv 2) (pa_cons (pe_callTy (call_list_ofK K) (by rfl) T.n_list PyProof.Rows.boot_list (pa_cons (pv 0) pa_nil)) (pa_cons pe_int pa_nil)))))))), ?_⟩
    refine q_asg (v := .int sd) (by walk_at "ev") fun H1 f1 => ?_
    refine q_forLn (a := a) (xs := ns.map V.int) (by walk_at "ev") (ex_l f1 hS) (fun _ σ' H' => ∃ (z : Int) (v : Option V), σ' = [some (.ref a), some (.int sd), some (.int z), v] ∧ Ex H H')
      (fun H2 f2 => ⟨sd, none, rfl, f1.trans f2⟩) (fun i σ' H' _ ⟨_, _, _, e⟩ => ex_l e hS) ?_ ?_
    · rintro i x σ' H' hi ⟨z, v, rfl, e⟩
      obtain ⟨n, rfl⟩ : ∃ n, x = V.int n := by
        rw [List.getElem?_map] at hi
        cases q : ns[i]? with
        | none => rw [q] at hi; cases hi
        | some n => rw [q] at hi; exact ⟨n, (Option.some.inj hi).symm⟩
      exact s_asg (v := .int ((z * 48271 + n % 2147483629 + 1) % 2147483647)) (by walk_at "ev") fun H2 f2 => ⟨_, _, rfl, e.trans f2⟩
    · rintro σ' H' ⟨z, v, rfl, e⟩
      refine ⟨_, rfl, _, rfl, a, _, rfl, .inl (ex_l e hS), fun l hl => ⟨by show 3 ≤ sizeLine; decide, fun h hh => ?_⟩⟩
      have hlh : l ≠ h := ne_of_none upd_same hh
      refine k h l _ ((e.trans (Ex.new hl)).trans (Ex.new hh)) ⟨z, 0, ns, upd_same, ?_, hn⟩
      rw [upd_ne hlh]
      exact upd_same

/-- a deed at so many cells is drawn -/
def sp_law_deed (K : PySem.W.Frag) : Sp := fun vs H Q _ => ∃ (h l : Addr) (n : Nat), vs = [.ref h, .int n] ∧ Draw H h l ∧ 0 < n ∧ n ≤ 4 ∧ ∀ (v : V) (d : Deed) (H' : Hp), DV K H' v d → d.ok n → Drew H H' h l → Q v H'
theorem d_law_deed (T : Nb mg) (D_law_next : Dn P w K mg base CX0 "_law_next" ["_law_h", "_law_many"] 1 sp_law_next) (h : Has K mg "_law_deed" s_law_deed) : Dn P w K mg base CX0 "_law_deed" ["_law_h", "_law_cells"] 2 (sp_law_deed K) := by
  refine dn_of h (fun f fd F => F.binds fun _ _ _ _ _ _ us hl => match us, hl with | [_, _], _ => rfl) fun f fd F _ => F.ok sc_law_deed (fun vs H Q E h => ?_) (fun cdv A outer s H vs Q E hr h => ?_)
  · obtain ⟨_, _, _, rfl, _⟩ := h
    rfl
  · obtain ⟨h, l, n, rfl, D, hn, hn4, k⟩ := h
    refine ⟨_, (pss_cons (ps_set (i := 2) sc_law_deed.nd rfl (Or.inl rfl) (pe_dn D_law_next hr (by omega) pass0 (pa_cons (pv 0) (pa_cons (pv 1) pa_nil))))
    (pss_one (ps_ret (pe_ix (ix_listK K) (pe_lst (pa_cons (pe_tup (pa_cons pe_str (pa_cons (pv 2) pa_nil))) (pa_cons (pe_tup (pa_cons pe_str (pa_cons (pv 2) (pa_cons (pe_dn D_law_next hr (by omega) pass0 (pa_cons (pv 0) (pa_cons pe_int pa_nil))) pa_nil)))) (pa_cons (pe_tup (pa_cons pe_str (pa_cons (pv 2) pa_nil))) (pa_cons (pe_tup (pa_cons pe_str pa_nil)) pa_nil))))) (pe_op op_fdiv (pe_dn D_law_next hr (by omega) pass0 (pa_cons (pv 0) (pa_cons pe_int pa_nil))) pe_int) (fun _ _ => rfl))))), ?_⟩
    -- the cell
    refine ⟨_, rfl, _, rfl, h, l, n, rfl, D, by omega, by omega, fun c H1 c0 c1 D1 => ?_⟩
    obtain ⟨c, rfl⟩ : ∃ j : Nat, c = (j : Int) := ⟨c.toNat, by omega⟩
    -- the first tuple
    refine ⟨_, rfl, by show 2 ≤ sizeLine; decide, fun p1 n1 => ?_⟩
    have D2 := D1.new (o := .tup [.str "read", .int c]) n1
    -- the second one, its worth
    refine ⟨_, rfl, _, rfl, h, l, 3, rfl, D2.dr, by decide, by decide, fun r H3 r0 r1 D3 => ⟨by show 3 ≤ sizeLine; decide, fun p2 n2 => ?_⟩⟩
    obtain ⟨r, rfl⟩ : ∃ j : Nat, r = (j : Int) := ⟨r.toNat, by omega⟩
    have t1 : SqT K H3 p1 (Deed.rd c).vals := D2.dr.t D3.bt (SqT.of upd_same)
    have D4 := D3.new (o := .tup [.str "write", .int c, .int r]) n2
    -- the third one, the fourth one, the list
    refine ⟨_, rfl, by show 2 ≤ sizeLine; decide, fun p3 n3 => ⟨by show 1 ≤ sizeLine; decide, fun p4 n4 => ⟨by show 4 ≤ sizeLine; decide, fun pl nl => ?_⟩⟩⟩
    have D5 := D4.new (o := .tup [.str "read", .int c]) n3
    have D6 := D5.new (o := .tup [.str "rest"]) n4
    have D7 := D6.new (o := .lst [.ref p1, .ref p2, .ref p3, .ref p4]) nl
    -- which one
    refine ⟨_, rfl, h, l, 7, rfl, D7.dr, by decide, by decide, fun z H8 z0 z1 D8 => ?_⟩
    have e1 : SqT K H8 p1 (Deed.rd c).vals := D7.dr.t D8.bt (ex_t (Ex.new nl) (ex_t (Ex.new n4) (ex_t (Ex.new n3) (ex_t (Ex.new n2) t1))))
    have e2 : SqT K H8 p2 (Deed.wr c r).vals := D7.dr.t D8.bt (ex_t (Ex.new nl) (ex_t (Ex.new n4) (ex_t (Ex.new n3) (SqT.of upd_same))))
    have e3 : SqT K H8 p3 (Deed.rd c).vals := D7.dr.t D8.bt (ex_t (Ex.new nl) (ex_t (Ex.new n4) (SqT.of upd_same)))
    have e4 : SqT K H8 p4 Deed.rs.vals := D7.dr.t D8.bt (ex_t (Ex.new nl) (SqT.of upd_same))
    have hl7 : ¬ pl ∈ [h, l] := by
      obtain ⟨_, _, _, q1, q2, _⟩ := D6.dr.st
      simp only [List.mem_cons, List.not_mem_nil, or_false]
      rintro (rfl | rfl)
      · rw [nl] at q1; cases q1
      · rw [nl] at q2; cases q2
    have el : H8 pl = some (.lst [.ref p1, .ref p2, .ref p3, .ref p4]) := D8.bt _ _ hl7 upd_same
    have DD : Drew H H8 h l := (D2.trans D7).trans D8
    refine ⟨z, 2, rfl, rfl, ⟨by decide, by decide⟩, pl, _, z / 2, ?v, rfl, rfl, SqL.of el, ?w, ?q⟩
    case v => exact if z < 2 then .ref p1 else if z < 4 then .ref p2 else if z < 6 then .ref p3 else .ref p4
    case w =>
      by_cases h2 : z < 2
      · have : z / 2 = 0 := by omega
        rw [this, if_pos h2]; rfl
      · by_cases h4 : z < 4
        · have : z / 2 = 1 := by omega
          rw [this, if_neg h2, if_pos h4]; rfl
        · by_cases h6 : z < 6
          · have : z / 2 = 2 := by omega
            rw [this, if_neg h2, if_neg h4, if_pos h6]; rfl
          · have : z / 2 = 3 := by omega
            rw [this, if_neg h2, if_neg h4, if_neg h6]; rfl
    case q =>
      refine k _ (if z < 2 then .rd c else if z < 4 then .wr c r else if z < 6 then .rd c else .rs) H8 ?_ ?_ DD
      · split
        · exact ⟨p1, rfl, e1⟩
        · split
          · exact ⟨p2, rfl, e2⟩
          · split
            · exact ⟨p3, rfl, e3⟩
            · exact ⟨p4, rfl, e4⟩
      · split
        · show c < n; omega
        · split
          · exact ⟨by omega, by omega⟩
          · split
            · show c < n; omega
            · exact True.intro

/-- a program of up to so many deeds is drawn -/
def sp_law_program (K : PySem.W.Frag) : Sp := fun vs H Q _ => ∃ (h l : Addr) (n m : Nat), vs = [.ref h, .int n, .int m] ∧ Draw H h l ∧ 0 < n ∧ n ≤ 4 ∧ m ≤ 40 ∧
  ∀ (p : Addr) (us : List V) (ds : List Deed) (H' : Hp), H p = none → H' p = some (.lst us) → PV K H' us ds → ds.length ≤ m → (∀ d ∈ ds, d.ok n) → Drew H H' h l → Q (.ref p) H'
theorem d_law_program (T : Nb mg) (D_law_next : Dn P w K mg base CX0 "_law_next" ["_law_h", "_law_many"] 1 sp_law_next) (D_law_deed : Dn P w K mg base CX0 "_law_deed" ["_law_h", "_law_cells"] 2 (sp_law_deed K))
    (h : Has K mg "_law_program" s_law_program) : Dn P w K mg base CX0 "_law_program" ["_law_h", "_law_cells", "_law_most"] 3 (sp_law_program K) := by
  refine dn_of h (fun f fd F => F.binds fun _ _ _ _ _ _ us hl => match us, hl with | [_, _, _], _ => rfl) fun f fd F _ => F.ok sc_law_program (fun vs H Q E h => ?_) (fun cdv A outer s H vs Q E hr h => ?_)
  · obtain ⟨_, _, _, _, rfl, _⟩ := h
    rfl
  · obtain ⟨h, l, n, m, rfl, D, hn, hn4, hm, k⟩ := h
    refine ⟨_, (pss_one (ps_ret (pe_lc (own := [("_law_k", 3)]) rfl sc_law_program.nd (pi_range1 rfl T.n_range (pa_cons (pe_dn D_law_next hr (by omega) pass0 (pa_cons (pv 0) (pa_cons (pe_op op_add (pv 2) pe_int) pa_nil))) pa_nil)) (blkOk_by (own := [("_law_k", 3)]) (N := ["_law_h", "_law_cells", "_law_most", "_law_k"]) (sc := defScope s_law_program) (by decide +kernel)) (fun _ _ _ _ _ => (pg_name (i := 3) sc_law_program.nd rfl (Or.inl rfl))) (fun _ _ _ _ _ => pts_nil) (fun _ _ _ _ _ => (pe_dn D_law_deed hr (by omega) pass0 (pa_cons (pv 0) (pa_cons (pv 1) pa_nil))))))), ?_⟩
    refine ⟨_, rfl, _, rfl, _, _, rfl, rfl, h, l, (m : Int) + 1, rfl, D, by omega, by omega, fun c H1 c0 c1 D1 => ?_⟩
    obtain ⟨c, rfl⟩ : ∃ j : Nat, c = (j : Int) := ⟨c.toNat, by omega⟩
    refine ⟨(c : Int), rfl, by omega, by omega, fun p hp => ?_⟩
    have hp0 : ¬ p ∈ [h, l] := by
      obtain ⟨_, _, _, q1, q2, _⟩ := D1.dr.st
      simp only [List.mem_cons, List.not_mem_nil, or_false]
      rintro (rfl | rfl)
      · rw [hp] at q1; cases q1
      · rw [hp] at q2; cases q2
    refine lc_range (lo := 0) (n := (c : Int).toNat) (fun i H' => ∃ us ds, H' p = some (.lst us) ∧ PV K H' us ds ∧ ds.length = i ∧ (∀ d ∈ ds, d.ok n) ∧ Drew H H' h l)
      ⟨[], [], upd_same, .nil, rfl, (fun _ z => nomatch z), D1.new hp⟩ ?_ ?_
    · rintro i H' hi ⟨us, ds, e1, e2, e3, e4, e5⟩
      refine ⟨rfl, _, rfl, _, rfl, h, l, n, rfl, e5.dr, hn, hn4, fun v d H2 g1 g2 g3 => ⟨us, g3.bt p _ hp0 e1, ?_, us ++ [v], ds ++ [d], upd_same, ?_, ?_, ?_, ?_⟩⟩
      · have q := e2.length
        have q2 : (1000 : Nat) < sizeLine := by decide
        omega
      · have a1 : PV K H2 us ds := e5.dr.pv g3.bt e2
        have a2 := PV.snoc g1 a1
        have b : Bt [p] H2 (upd H2 p (.lst (us ++ [v]))) := (Bt.refl H2).upd (.inl (by simp))
        exact pv_map (fun v d q => dv_but b (g3.bt p _ hp0 e1) q) a2
      · rw [List.length_append, e3]; rfl
      · intro x hx
        rcases List.mem_append.mp hx with hx | hx
        · exact e4 x hx
        · rw [List.mem_singleton.mp hx]; exact g2
      · have g := e5.trans g3
        refine ⟨?_, g.bt.upd (.inr (D1.bt.free hp0 hp))⟩
        obtain ⟨a, p', ns, q1, q2, q3⟩ := g.dr.st
        refine ⟨a, p', ns, ?_, ?_, q3⟩
        · rw [upd_ne (fun z => hp0 (by rw [← z]; simp))]; exact q1
        · rw [upd_ne (fun z => hp0 (by rw [← z]; simp))]; exact q2
    · rintro H' ⟨us, ds, e1, e2, e3, e4, e5⟩
      exact k p us ds H' (D1.bt.free hp0 hp) e1 e2 (by omega) e4 e5

/-- a memory of so many cells is drawn -/
def sp_law_memory (K : PySem.W.Frag) : Sp := fun vs H Q _ => ∃ (h l : Addr) (n : Nat), vs = [.ref h, .int n] ∧ Draw H h l ∧ n ≤ 4 ∧
  ∀ (p : Addr) (ws : List Nat) (H' : Hp), H p = none → H' p = some (.tup (ws.map wV)) → ws.length = n → (∀ x ∈ ws, x < 3) → Drew H H' h l → Q (.ref p) H'
theorem d_law_memory (T : Nb mg) (D_law_next : Dn P w K mg base CX0 "_law_next" ["_law_h", "_law_many"] 1 sp_law_next) (h : Has K mg "_law_memory" s_law_memory) : Dn P w K mg base CX0 "_law_memory" ["_law_h", "_law_cells"] 2 (sp_law_memory K) := by
  refine dn_of h (fun f fd F => F.binds fun _ _ _ _ _ _ us hl => match us, hl with | [_, _], _ => rfl) fun f fd F _ => F.ok sc_law_memory (fun vs H Q E h => ?_) (fun cdv A outer s H vs Q E hr h => ?_)
  · obtain ⟨_, _, _, rfl, _⟩ := h
    rfl
  · obtain ⟨h, l, n, rfl, D, hn4, k⟩ := h
    refine ⟨_, (pss_one (ps_ret (pe_callTy call_tuple_of (by rfl) T.n_tuple PyProof.Rows.boot_tuple (pa_cons (pe_lc (own := [("_law_k", 2)]) rfl sc_law_memory.nd (pi_range1 rfl T.n_range (pa_cons (pv 1) pa_nil)) (blkOk_by (own := [("_law_k", 2)]) (N := ["_law_h", "_law_cells", "_law_k"]) (sc := defScope s_law_memory) (by decide +kernel)) (fun _ _ _ _ _ => (pg_name (i := 2) sc_law_memory.nd rfl (Or.inl rfl))) (fun _ _ _ _ _ => pts_nil) (fun _ _ _ _ _ => (pe_dn D_law_next hr (by omega) pass0 (pa_cons (pv 0) (pa_cons pe_int pa_nil))))) pa_nil)))), ?_⟩
    refine ⟨_, rfl, (n : Int), rfl, by omega, by omega, fun p hp => ?_⟩
    have hp0 : ¬ p ∈ [h, l] := by
      obtain ⟨_, _, _, q1, q2, _⟩ := D.st
      simp only [List.mem_cons, List.not_mem_nil, or_false]
      rintro (rfl | rfl)
      · rw [hp] at q1; cases q1
      · rw [hp] at q2; cases q2
    refine lc_range (lo := 0) (n := (n : Int).toNat) (fun i H' => ∃ ws : List Nat, H' p = some (.lst (ws.map wV)) ∧ ws.length = i ∧ (∀ x ∈ ws, x < 3) ∧ Drew H H' h l)
      ⟨[], upd_same, rfl, (fun _ z => nomatch z), (Drew.refl D).new hp⟩ ?_ ?_
    · rintro i H' hi ⟨ws, e1, e3, e4, e5⟩
      refine ⟨rfl, _, rfl, h, l, 3, rfl, e5.dr, by decide, by decide, fun r H2 r0 r1 g3 => ?_⟩
      obtain ⟨r, rfl⟩ : ∃ j : Nat, r = (j : Int) := ⟨r.toNat, by omega⟩
      refine ⟨ws.map wV, g3.bt p _ hp0 e1, ?_, ws ++ [r], ?_, ?_, ?_, ?_⟩
      · have q2 : (1000 : Nat) < sizeLine := by decide
        rw [List.length_map]
        omega
      · rw [upd_same, List.map_append]
        rfl
      · rw [List.length_append, e3]; rfl
      · intro x hx
        rcases List.mem_append.mp hx with hx | hx
        · exact e4 x hx
        · rw [List.mem_singleton.mp hx]; omega
      · have g := e5.trans g3
        refine ⟨?_, g.bt.upd (.inr hp)⟩
        obtain ⟨a, p', ns, q1, q2, q3⟩ := g.dr.st
        refine ⟨a, p', ns, ?_, ?_, q3⟩
        · rw [upd_ne (fun z => hp0 (by rw [← z]; simp))]; exact q1
        · rw [upd_ne (fun z => hp0 (by rw [← z]; simp))]; exact q2
    · rintro H' ⟨ws, e1, e3, e4, e5⟩
      refine ⟨p, _, rfl, .inl ⟨SqL.of e1, fun t ht => ?_⟩⟩
      exact k t ws _ (e5.bt.free (by
        obtain ⟨_, _, _, q1, q2, _⟩ := e5.dr.st
        simp only [List.mem_cons, List.not_mem_nil, or_false]
        rintro (rfl | rfl)
        · rw [ht] at q1; cases q1
        · rw [ht] at q2; cases q2) ht) upd_same (by omega) e4 (e5.new ht)

/-- two that are the same data are found alike -/
def sp_law_alike (K : PySem.W.Frag) : Nat → Sp
  | 0 => fun _ _ _ _ => False
  | n + 1 => fun vs H Q _ => ∃ (a b : V) (d : PyData), vs = [a, b] ∧ Dp K H a d ∧ Dp K H b d ∧ Nice n d ∧ ∀ H', Ex H H' → Q (.bl true) H'
theorem sp_law_alike_v {n : Nat} {H : Hp} {a b : V} {d : PyData} (h1 : Dp K H a d) (h2 : Dp K H b d) (h3 : Nice n d) : SpV (sp_law_alike K (n + 1)) [a, b] H (.bl true) := fun H1 e Q q _ =>
  ⟨a, b, d, rfl, dp_mono e d a h1, dp_mono e d b h2, h3, q⟩
theorem d_law_alike (T : Nb mg) (h : Has K mg "_law_alike" s_law_alike) : ∀ n, Dn P w K mg base CX0 "_law_alike" ["_law_found", "_law_due"] (n + 1) (sp_law_alike K n)
  | 0 => by
    refine dn_of h (fun f fd F => F.binds fun _ _ _ _ _ _ us hl => match us, hl with | [_, _], _ => rfl) fun f fd F _ => ⟨fun _ _ _ _ z => z.elim, fun _ _ _ _ _ _ _ _ _ _ _ _ _ z => z.elim⟩
  | n + 1 => by
    have D_law_alike := d_law_alike T h n
    refine dn_of h (fun f fd F => F.binds fun _ _ _ _ _ _ us hl => match us, hl with | [_, _], _ => rfl) fun f fd F _ => F.ok sc_law_alike (fun vs H Q E h => ?_) (fun cdv A outer s H vs Q E hr h => ?_)
    · obtain ⟨_, _, _, rfl, _⟩ := h
      rfl
    · obtain ⟨a, b, d, rfl, h1, h2, h3, k⟩ := h
      refine ⟨_, (pss_cons (ps_if (pt_val (pe_callB (call_isiTK K) (by rfl) T.n_isinstance PyProof.Rows.boot_isinstance (pa_cons (pv 1) (pa_cons (pe_tup (pa_cons (pe_bltn (v := .ty "tuple") rfl T.n_tuple PyProof.Rows.boot_tuple rfl) (pa_cons (pe_bltn (v := .ty "list") rfl T.n_list PyProof.Rows.boot_list rfl) pa_nil))) pa_nil)))) (pss_cons (ps_if (PW.pt (pw_or (pt_not (pt_val (pe_callB (call_isiTK K) (by rfl) T.n_isinstance PyProof.Rows.boot_isinstance (pa_cons (pv 0) (pa_cons (pe_tup (pa_cons (pe_bltn (v := .ty "tuple") rfl T.n_tuple PyProof.Rows.boot_tuple rfl) (pa_cons (pe_bltn (v := .ty "list") rfl T.n_list PyProof.Rows.boot_list rfl) pa_nil))) pa_nil))))) (pw_or1 (pt_cmpR op_ne (pe_callB (call_isiK2 K) (by rfl) T.n_isinstance PyProof.Rows.boot_isinstance (pa_cons (pv 0) (pa_cons (pe_bltn (v := .ty "list") rfl T.n_list PyProof.Rows.boot_list rfl) pa_nil))) (pe_callB (call_isiK2 K) (by rfl) T.n_isinstance PyProof.Rows.boot_isinstance (pa_cons (pv 1) (pa_cons (pe_bltn (v := .ty "list") rfl T.n_list PyProof.Rows.boot_list rfl) pa_nil))) (nomark _))))) (pss_one (ps_ret pe_bl)) pss_nil)
      (pss_cons (ps_if (pt_cmpR op_ne (pe_callB (call_len_seqK K) (by rfl) T.n_len PySem.boot_len (pa_cons (pv 0) pa_nil)) (pe_callB (call_len_seqK K) (by rfl) T.n_len PySem.boot_len (pa_cons (pv 1) pa_nil)) (nomark _)) (pss_one (ps_ret pe_bl)) pss_nil)
      (pss_one (ps_ret (pe_cmpR (op_eqDK K rfl hr.units) (pe_lc (own := [("_law_k", 2)]) rfl sc_law_alike.nd (pi_range1 rfl T.n_range (pa_cons (pe_callB (call_len_seqK K) (by rfl) T.n_len PySem.boot_len (pa_cons (pv 1) pa_nil)) pa_nil)) (blkOk_by (own := [("_law_k", 2)]) (N := ["_law_found", "_law_due", "_law_k"]) (sc := defScope s_law_alike) (by decide +kernel)) (fun _ _ _ _ _ => (pg_name (i := 2) sc_law_alike.nd rfl (Or.inl rfl))) (fun _ _ _ _ _ => pts_one (pt_not (pt_val (pe_dn D_law_alike hr (by omega) pass0 (pa_cons (pe_ix (ix_anyK K) (pv 0) (pv 2) (fun _ _ => rfl)) (pa_cons (pe_ix (ix_anyK K) (pv 1) (pv 2) (fun _ _ => rfl)) pa_nil)))))) (fun _ _ _ _ _ => (pv 2))) (pe_lst pa_nil) (nomark _)))))) pss_nil)
    (pss_cons (ps_if (pt_cmpR op_isN (pv 1) pe_non (nomark _)) (pss_one (ps_ret (pe_cmpR op_isN (pv 0) pe_non (nomark _)))) pss_nil)
    (pss_cons (ps_if (pt_val (pe_callB (call_isiK2 K) (by rfl) T.n_isinstance PyProof.Rows.boot_isinstance (pa_cons (pv 1) (pa_cons (pe_bltn (v := .ty "str") rfl T.n_str PyProof.Rows.boot_str rfl) pa_nil)))) (pss_one (ps_ret (pe_and (pe_callB (call_isiK2 K) (by rfl) T.n_isinstance PyProof.Rows.boot_isinstance (pa_cons (pv 0) (pa_cons (pe_bltn (v := .ty "str") rfl T.n_str PyProof.Rows.boot_str rfl) pa_nil))) (pe_one (pe_cmpR op_eq (pv 0) (pv 1) (nomark _)))))) pss_nil)
    (pss_cons (ps_if (PW.pt (pw_or (pt_val (pe_callB (call_isiK2 K) (by rfl) T.n_isinstance PyProof.Rows.boot_isinstance (pa_cons (pv 1) (pa_cons (pe_bltn (v := .ty "bool") rfl T.n_bool PyProof.Rows.boot_bool rfl) pa_nil)))) (pw_or1 (pt_val (pe_callB (call_isiK2 K) (by rfl) T.n_isinstance PyProof.Rows.boot_isinstance (pa_cons (pv 0) (pa_cons (pe_bltn (v := .ty "bool") rfl T.n_bool PyProof.Rows.boot_bool rfl) pa_nil))))))) (pss_one (ps_ret (pe_and (pe_callB (call_isiK2 K) (by rfl) T.n_isinstance PyProof.Rows.boot_isinstance (pa_cons (pv 1) (pa_cons (pe_bltn (v := .ty "bool") rfl T.n_bool PyProof.Rows.boot_bool rfl) pa_nil))) (pe_and (pe_callB (call_isiK2 K) (by rfl) T.n_isinstance PyProof.Rows.boot_isinstance (pa_cons (pv 0) (pa_cons (pe_bltn (v := .ty "bool") rfl T.n_bool PyProof.Rows.boot_bool rfl) pa_nil))) (pe_one (pe_cmpR op_eq (pv 0) (pv 1) (nomark _))))))) pss_nil)
    (pss_one (ps_ret (pe_and (pe_callB (call_isiK2 K) (by rfl) T.n_isinstance PyProof.Rows.boot_isinstance (pa_cons (pv 0) (pa_cons (pe_bltn (v := .ty "int") rfl T.n_int PyProof.Rows.boot_int rfl) pa_nil))) (pe_one (pe_cmpR op_eq (pv 0) (pv 1) (nomark _)))))))))), ?_⟩
      have cs : (∃ (p q : Addr) (xs ys : List V) (ds : List PyData) (ty : String), a = .ref p ∧ b = .ref q ∧ SqA K H p xs ∧ SqA K H q ys ∧ DpAll K H xs ds ∧ DpAll K H ys ds ∧ ds.length ≤ 1000 ∧ (∀ d ∈ ds, ∃ m, m + 1 = n ∧ Nice m d) ∧
          TyS K H a (.type ty) ∧ TyS K H b (.type ty) ∧ (ty = "list" ∨ ty = "tuple")) ∨
          (∃ ty : String, TyS K H a (.type ty) ∧ TyS K H b (.type ty) ∧ kitB ty "tuple" = some false ∧ kitB ty "list" = some false ∧ ((ty = "NoneType" ∧ a = .non ∧ b = .non) ∨ (b ≠ .non ∧ a = b ∧ (ty = "int" ∨ ty = "str" ∨ ty = "bool") ∧ scal a a = true))) := by
        cases h3 with
        | non =>
          cases h1; cases h2
          exact .inr ⟨"NoneType", tys_non, tys_non, by decide +kernel, by decide +kernel, .inl ⟨rfl, rfl, rfl⟩⟩
        | bl x =>
          cases h1; cases h2
          exact .inr ⟨"bool", tys_bl, tys_bl, by decide +kernel, by decide +kernel, .inr ⟨(fun z => by cases z), rfl, .inr (.inr rfl), rfl⟩⟩
        | int x =>
          cases h1; cases h2
          exact .inr ⟨"int", tys_int, tys_int, by decide +kernel, by decide +kernel, .inr ⟨(fun z => by cases z), rfl, .inl rfl, rfl⟩⟩
        | str x =>
          cases h1; cases h2
          exact .inr ⟨"str", tys_str, tys_str, by decide +kernel, by decide +kernel, .inr ⟨(fun z => by cases z), rfl, .inr (.inl rfl), rfl⟩⟩
        | @lst m ds hl hd =>
          cases h1 with
          | lst a1 a2 =>
            cases h2 with
            | lst b1 b2 => exact .inl ⟨_, _, _, _, ds, "list", rfl, rfl, .inl a1, .inl b1, a2, b2, hl, (fun d z => ⟨m, rfl, hd d z⟩), tys_lst a1, tys_lst b1, .inl rfl⟩
        | @tup m ds hl hd =>
          cases h1 with
          | tup a1 a2 =>
            cases h2 with
            | tup b1 b2 => exact .inl ⟨_, _, _, _, ds, "tuple", rfl, rfl, .inr a1, .inr b1, a2, b2, hl, (fun d z => ⟨m, rfl, hd d z⟩), tys_tup a1, tys_tup b1, .inr rfl⟩
      rcases cs with ⟨p, q, xs, ys, ds, ty, ea, eb, ha, hb, h4, h5, h6, h7, ta, tb, hty⟩ | ⟨ty, ta, tb, k1, k2, hc⟩
      · have ha0 := ha
        have hb0 := hb
        subst ea eb
        have l1 := dpa_len h4
        have l2 := dpa_len h5
        obtain ⟨b1, b2, k1, k2, hb⟩ : ∃ b1 b2, kitB ty "tuple" = some b1 ∧ kitB ty "list" = some b2 ∧ (b1 || b2) = true := by
          rcases hty with rfl | rfl
          · exact ⟨false, true, by decide +kernel, by decide +kernel, rfl⟩
          · exact ⟨true, false, by decide +kernel, by decide +kernel, rfl⟩
        refine q_when (b := true) (et_B (ev_is (ev_isi2 (by walk_at "ev") tb k1 k2) (by rw [hb]))) (fun _ H1 f1 => ?_) (fun z => nomatch z)
        refine q_when (b := false) (et_is (et_or (et_not (et_B (ev_isi2 (by walk_at "ev") (fun H2 f2 => ta H2 (f1.trans f2)) k1 k2))) (fun _ => et_test (ev_op (ev_cb (by walk_at "ea") (rc_isiB (fun H2 f2 => ta H2 (f1.trans f2)) k2)) (ev_cb (by walk_at "ea") (rc_isiB (fun H2 f2 => tb H2 (f1.trans f2)) k2)) (rv_ne rfl))))
          (by rw [hb]; cases b2 <;> decide)) (fun z => nomatch z) (fun _ H2 f2 => ?_)
        have ha2 := ex_a (f1.trans f2) ha
        have hb2 := ex_a (f1.trans f2) hb0
        refine q_when (b := false) (et_is (et_test (ev_op (ev_cb (by walk_at "ea") (rc_len ha2)) (ev_cb (by walk_at "ea") (rc_len hb2)) (rv_ne rfl))) (by rw [l1, l2]; simp)) (fun z => nomatch z) (fun _ H3 f3 => ?_)
        have f03 := (f1.trans f2).trans f3
        have ha3 := ex_a f3 ha2
        have hb3 := ex_a f3 hb2
        refine s_ret (v := .bl true) (ev_opLL (xs := []) (ys := []) (by
          have q := el_lcR1 (σ := start ["_law_found", "_law_due", "_law_k"] [.ref p, .ref q]) (H := H3) (ta := tCons (tCB (rLenS K) (tCons (tVar 1) tNil)) tNil) (n := (ys.length : Int)) (j := 2) (vs := [2]) (te := tVar 2) (t := tNot (tB (tCall (sp_law_alike K n) [] E0 (tCons (tOp (rIxA K) (tVar 0) (tVar 2)) (tCons (tOp (rIxA K) (tVar 1) (tVar 2)) tNil))))) (fun _ => false) (fun _ => .non)
            (ea_cons (ev_cb (by walk_at "ea") (rc_len hb3)) ea_nil) (by omega) (fun x => rfl) (fun i H4 f4 hi => ?_) (fun i H4 f4 hi z => nomatch z)
          · rw [given_none] at q
            exact q
          · obtain ⟨d, hd⟩ : ∃ d, ds[i]? = some d := ⟨ds[i], List.getElem?_eq_getElem (by omega)⟩
            obtain ⟨x, hx, dx⟩ := dpa_get h4 hd
            obtain ⟨y, hy, dy⟩ := dpa_get h5 hd
            obtain ⟨m, rfl, hm⟩ := h7 d (List.mem_of_getElem? hd)
            have f04 := f03.trans f4
            have c := sp_law_alike_v (K := K) (dp_mono f04 d x dx) (dp_mono f04 d y dy) hm
            exact et_not (et_B (ev_call (ea_cons (ev_op (by walk_at "ev") (by walk_at "ev") (rv_ixA (ex_a f4 ha3) (atI_nat hx))) (ea_cons (ev_op (by walk_at "ev") (by walk_at "ev") (rv_ixA (ex_a f4 hb3) (atI_nat hy))) ea_nil)) c)))
          (el_lst ea_nil (by decide)) fun p1 p2 H4 g1 g2 f4 => rv_is (rv_eqD (n := 1) (m := 1) (d := .list []) (e := .list []) (.lst (SqL.of g1) .nil) (.lst (SqL.of g2) .nil) (sh_lst fun _ z => nomatch z) (sh_lst fun _ z => nomatch z) (by decide) (by decide)) rfl) fun H4 f4 => k H4 (f03.trans f4)
      · refine q_when (b := false) (et_B (ev_isi2 (by walk_at "ev") tb k1 k2)) (fun z => nomatch z) (fun _ H1 f1 => ?_)
        rcases hc with ⟨rfl, rfl, rfl⟩ | ⟨hb, rfl, hty, hs⟩
        · refine q_when (b := true) (et_is (et_test (ev_op (x := .non) (y := .non) (by walk_at "ev") (by walk_at "ev") (rv_val fun H2 _ Q q => ⟨rfl, q⟩))) (by decide)) (fun _ H2 f2 => ?_) (fun z => nomatch z)
          exact s_ret (v := .bl true) (ev_op (x := .non) (y := .non) (by walk_at "ev") (by walk_at "ev") (rv_val fun H2 _ Q q => ⟨rfl, q⟩)) fun H3 f3 => k H3 ((f1.trans f2).trans f3)
        · refine q_when (b := false) (et_is (et_test (ev_op (x := a) (y := .non) (z := .bl (decide (a = .non))) (by walk_at "ev") (by walk_at "ev") (rv_val fun H2 _ Q q => ⟨rfl, q⟩))) (by simp [hb])) (fun z => nomatch z) (fun _ H2 f2 => ?_)
          have ta2 : TyS K H2 a (.type ty) := fun H3 f3 => ta H3 ((f1.trans f2).trans f3)
          rcases hty with rfl | rfl | rfl
          · refine q_when (b := false) (et_B (ev_cb (by walk_at "ea") (rc_isiB ta2 (by decide +kernel)))) (fun z => nomatch z) (fun _ H3 f3 => ?_)
            have ta3 : TyS K H3 a (.type "int") := fun H4 f4 => ta2 H4 (f3.trans f4)
            refine q_when (b := false) (et_is (a := false || false) (et_or (et_B (ev_cb (by walk_at "ea") (rc_isiB (b := false) ta3 (by decide +kernel)))) (fun _ => et_B (ev_cb (by walk_at "ea") (rc_isiB (b := false) ta3 (by decide +kernel))))) rfl) (fun z => nomatch z) (fun _ H4 f4 => ?_)
            have ta4 : TyS K H4 a (.type "int") := fun H5 f5 => ta3 H5 (f4.trans f5)
            exact s_ret (v := .bl true) (ev_is (ev_andV (a := true) (b := decide (a = a)) (ev_cb (by walk_at "ea") (rc_isiB (b := true) ta4 (by decide +kernel))) (fun _ => ev_op (x := a) (y := a) (by walk_at "ev") (by walk_at "ev") (rv_eq hs))) (by simp)) fun H5 f5 => k H5 ((((f1.trans f2).trans f3).trans f4).trans f5)
          · refine q_when (b := true) (et_B (ev_cb (by walk_at "ea") (rc_isiB ta2 (by decide +kernel)))) (fun _ H3 f3 => ?_) (fun z => nomatch z)
            have ta3 : TyS K H3 a (.type "str") := fun H4 f4 => ta2 H4 (f3.trans f4)
            exact s_ret (v := .bl true) (ev_is (ev_andV (a := true) (b := decide (a = a)) (ev_cb (by walk_at "ea") (rc_isiB (b := true) ta3 (by decide +kernel))) (fun _ => ev_op (x := a) (y := a) (by walk_at "ev") (by walk_at "ev") (rv_eq hs))) (by simp)) fun H4 f4 => k H4 (((f1.trans f2).trans f3).trans f4)
          · refine q_when (b := false) (et_B (ev_cb (by walk_at "ea") (rc_isiB ta2 (by decide +kernel)))) (fun z => nomatch z) (fun _ H3 f3 => ?_)
            have ta3 : TyS K H3 a (.type "bool") := fun H4 f4 => ta2 H4 (f3.trans f4)
            refine q_when (b := true) (et_is (et_or (a := true) (b := true) (et_B (ev_cb (by walk_at "ea") (rc_isiB (b := true) ta3 (by decide +kernel)))) (fun z => nomatch z)) rfl) (fun _ H4 f4 => ?_) (fun z => nomatch z)
            have ta4 : TyS K H4 a (.type "bool") := fun H5 f5 => ta3 H5 (f4.trans f5)
            exact s_ret (v := .bl true) (ev_is (ev_andV (a := true) (b := true && decide (a = a)) (ev_cb (by walk_at "ea") (rc_isiB (b := true) ta4 (by decide +kernel))) (fun _ => ev_andV (a := true) (b := decide (a = a)) (ev_cb (by walk_at "ea") (rc_isiB (b := true) ta4 (by decide +kernel))) (fun _ => ev_op (x := a) (y := a) (by walk_at "ev") (by walk_at "ev") (rv_eq hs)))) (by simp)) fun H5 f5 => k H5 ((((f1.trans f2).trans f3).trans f4).trans f5)

/-- whether two deeds clash -/
def sp_law_meet (K : PySem.W.Frag) : Sp := spF 2 fun vs H v => ∃ a b d e, vs = [a, b] ∧ DV K H a d ∧ DV K H b e ∧ v = .bl (clashD d e)
theorem sp_law_meet_v {H : Hp} {a b : V} {d e : Deed} (h1 : DV K H a d) (h2 : DV K H b e) : SpV (sp_law_meet K) [a, b] H (.bl (clashD d e)) := spF_v rfl fun _ f => ⟨a, b, d, e, rfl, h1.mono f, h2.mono f, rfl⟩
theorem d_law_meet (T : Nb mg) (h : Has K mg "_law_meet" s_law_meet) : Dn P w K mg base CX0 "_law_meet" ["_law_one", "_law_other"] 1 (sp_law_meet K) := by
  refine dn_of h (fun f fd F => F.binds fun _ _ _ _ _ _ us hl => match us, hl with | [_, _], _ => rfl) fun f fd F _ => F.ok sc_law_meet (fun vs H Q E h => h.1) (fun cdv A outer s H vs Q E hr h => ?_)
  · obtain ⟨_, v, ⟨_, _, d, e, rfl, ⟨a, rfl, h1⟩, ⟨b, rfl, h2⟩, rfl⟩, k⟩ := h
    refine ⟨_, (pss_cons (ps_setLc (i := 2) (own := [("_law_deed_here", 3)]) rfl sc_law_meet.nd rfl rfl (sw_true rfl rfl rfl (by decide +kernel)) (pi_tup (pe_tup (pa_cons (pv 0) (pa_cons (pv 1) pa_nil)))) (blkOk_by (own := [("_law_deed_here", 3)]) (N := ["_law_one", "_law_other", "_law_some", "_law_deed_here"]) (sc := defScope s_law_meet) (by decide +kernel)) (fun _ _ _ _ _ => (pg_name (i := 3) sc_law_meet.nd rfl (Or.inl rfl))) (fun _ _ _ _ _ => pts_one (pt_cmpR op_ne (pe_ix (ix_tupK K) (pv 3) pe_int (fun _ _ => rfl)) pe_str (nomark _))) (fun _ _ _ _ _ => (pv 3)))
    (pss_one (ps_ret (pe_and (pe_cmpR op_eq (pe_callB (call_len_seqK K) (by rfl) T.n_len PySem.boot_len (pa_cons (pv 2) pa_nil)) pe_int (nomark _)) (pe_and (pe_cmpR op_eq (pe_ix (ix_tupK K) (pe_ix (ix_listK K) (pv 2) pe_int (fun _ _ => rfl)) pe_int (fun _ _ => rfl)) (pe_ix (ix_tupK K) (pe_ix (ix_listK K) (pv 2) pe_int (fun _ _ => rfl)) pe_int (fun _ _ => rfl)) (nomark _)) (pe_one (pe_cmpR (op_in_seqK K) pe_str (pe_tup (pa_cons (pe_ix (ix_tupK K) (pv 0) pe_int (fun _ _ => rfl)) (pa_cons (pe_ix (ix_tupK K) (pv 1) pe_int (fun _ _ => rfl)) pa_nil))) (by rfl)))))))), ?_⟩
    have f0 : ∀ (i : Nat) (x : V) (H1 : Hp), Ex H H1 → ([.ref a, .ref b] : List V)[i]? = some x → EvT (tTest (tOp rNe (tOp (rIxT K) (tVar 3) (tC (.int 0))) (tC (.str "rest")))) ((wipe (start ["_law_one", "_law_other", "_law_some", "_law_deed_here"] [.ref a, .ref b]) [3]).set 3 (some x)) H1 ([!decide (d = .rs), !decide (e = .rs)].getD i false) := by
      intro i x H1 f1 hi
      match i, hi with
      | 0, hi =>
        cases hi
        exact et_is (et_test (ev_op (ev_op (by walk_at "ev") (by walk_at "ev") (DV.tag (ex_t f1 h1))) (by walk_at "ev") (rv_ne rfl))) (tag_rest d)
      | 1, hi =>
        cases hi
        exact et_is (et_test (ev_op (ev_op (by walk_at "ev") (by walk_at "ev") (DV.tag (ex_t f1 h2))) (by walk_at "ev") (rv_ne rfl))) (tag_rest e)
      | i + 2, hi => simp at hi
    refine q_asgL (by
      have q := el_lcNT (K := K) (σ := start ["_law_one", "_law_other", "_law_some", "_law_deed_here"] [.ref a, .ref b]) (H := H) (j := 3) (vs := [3]) (te := tVar 3) (fun i => [!decide (d = .rs), !decide (e = .rs)].getD i false) (fun i => ([.ref a, .ref b] : List V).getD i .non)
        (eu_tup (ea_cons (ev_var (i := 0) rfl) (ea_cons (ev_var (i := 1) rfl) ea_nil)) (by simp)) (by simp) (fun x => rfl) f0 (fun i x H1 f1 hi _ => ev_is (ev_var (v := x) rfl) (by rw [List.getD_eq_getElem?_getD, hi]; rfl))
      exact q) fun p H1 hp f1 e1 => ?_
    have g1 := ex_t f1 h1
    have g2 := ex_t f1 h2
    have e2 : given 2 (fun i => [!decide (d = .rs), !decide (e = .rs)].getD i false) (fun i => ([.ref a, .ref b] : List V).getD i .non) = (if d = .rs then [] else [.ref a]) ++ (if e = .rs then [] else [.ref b]) := by
      rw [given_two]
      by_cases hd : d = .rs <;> by_cases he : e = .rs <;> simp [hd, he]
    have e3 : H1 p = some (.lst ((if d = .rs then [] else [.ref a]) ++ (if e = .rs then [] else [.ref b]))) := by rw [← e2]; exact e1
    have nope : ∀ xs : List V, H1 p = some (.lst xs) → xs.length ≠ 2 → clashD d e = false → Ev (tAndV (tOp rEq (tCB (rLenS K) (tCons (tVar 2) tNil)) (tC (.int 2))) (tAndV (tOp rEq (tOp (rIxT K) (tOp (rIxL K) (tVar 2) (tC (.int 0))) (tC (.int 1))) (tOp (rIxT K) (tOp (rIxL K) (tVar 2) (tC (.int 1))) (tC (.int 1)))) (tOp (rIn K false) (tC (.str "write")) (tTup (tCons (tOp (rIxT K) (tVar 0) (tC (.int 0))) (tCons (tOp (rIxT K) (tVar 1) (tC (.int 0))) tNil)))))) ((start ["_law_one", "_law_other", "_law_some", "_law_deed_here"] [.ref a, .ref b]).set 2 (some (.ref p))) H1 (.bl (clashD d e)) := by
      intro xs hx hl hc
      rw [hc]
      refine ev_is (ev_andV (a := false) (b := false) (ev_is (ev_op (ev_cb (by walk_at "ea") (rc_lenL (SqL.of hx))) (by walk_at "ev") (rv_eq rfl)) ?_) (fun z => nomatch z)) rfl
      have q : ¬ (V.int (xs.length : Int) = V.int 2) := fun z => hl (by have := V.int.inj z; omega)
      rw [decide_eq_false q]
    have yes : ∀ (c1 c2 : Nat), d.cell = some c1 → e.cell = some c2 → H1 p = some (.lst [.ref a, .ref b]) → Ev (tAndV (tOp rEq (tCB (rLenS K) (tCons (tVar 2) tNil)) (tC (.int 2))) (tAndV (tOp rEq (tOp (rIxT K) (tOp (rIxL K) (tVar 2) (tC (.int 0))) (tC (.int 1))) (tOp (rIxT K) (tOp (rIxL K) (tVar 2) (tC (.int 1))) (tC (.int 1)))) (tOp (rIn K false) (tC (.str "write")) (tTup (tCons (tOp (rIxT K) (tVar 0) (tC (.int 0))) (tCons (tOp (rIxT K) (tVar 1) (tC (.int 0))) tNil)))))) ((start ["_law_one", "_law_other", "_law_some", "_law_deed_here"] [.ref a, .ref b]).set 2 (some (.ref p))) H1 (.bl (clashD d e)) := by
      intro c1 c2 hc1 hc2 hx
      have i1 : atI d.vals 1 = some (.int (c1 : Int)) := by cases d <;> cases hc1 <;> rfl
      have i2 : atI e.vals 1 = some (.int (c2 : Int)) := by cases e <;> cases hc2 <;> rfl
      have i3 : inV (.str "write") [.str d.tag, .str e.tag] = (d.isW || e.isW) := by
        cases d <;> cases e <;> first | cases hc1; done | cases hc2; done | exact in_rr | exact in_rw | exact in_wr | exact in_ww
      have i4 : clashD d e = (decide (c1 = c2) && (d.isW || e.isW)) := by unfold clashD; rw [hc1, hc2]
      rw [i4]
      refine ev_is (ev_andV (a := true) (b := decide (V.int (c1 : Int) = V.int (c2 : Int)) && (d.isW || e.isW)) (ev_is (ev_op (ev_cb (by walk_at "ea") (rc_lenL (SqL.of hx))) (by walk_at "ev") (rv_eq rfl)) rfl) (fun _ => ev_andV (ev_op (ev_op (by walk_at "ev") (by walk_at "ev") (rv_ixT g1 i1)) (ev_op (by walk_at "ev") (by walk_at "ev") (rv_ixT g2 i2)) (rv_eq rfl)) (fun _ => ev_is (ev_inU (by walk_at "ev") (eu_tup (ea_cons (ev_op (by walk_at "ev") (by walk_at "ev") (DV.tag g1)) (ea_cons (ev_op (by walk_at "ev") (by walk_at "ev") (DV.tag g2)) ea_nil)) (by simp)) rfl rfl) (by rw [i3])))) ?_
      have q : decide (V.int (c1 : Int) = V.int (c2 : Int)) = decide (c1 = c2) := decide_eq_decide.mpr ⟨fun z => by have := V.int.inj z; omega, fun z => by rw [z]⟩
      rw [q]
      rfl
    refine s_ret (v := .bl (clashD d e)) ?_ fun H2 f2 => k H2 (f1.trans f2)
    cases d with
    | rs => cases e with
      | rs => exact nope _ e3 (by simp) rfl
      | rd c => exact nope _ e3 (by simp) rfl
      | wr c w => exact nope _ e3 (by simp) rfl
    | rd c => cases e with
      | rs => exact nope _ e3 (by simp) rfl
      | rd c' => exact yes _ _ rfl rfl e3
      | wr c' w => exact yes _ _ rfl rfl e3
    | wr c w => cases e with
      | rs => exact nope _ e3 (by simp) rfl
      | rd c' => exact yes _ _ rfl rfl e3
      | wr c' w' => exact yes _ _ rfl rfl e3

/-- the deed at a place, a rest behind the last one -/
def sp_law_at (K : PySem.W.Frag) : Sp := fun vs H Q _ => ∃ (p : Addr) (us : List V) (ds : List Deed) (i : Nat), vs = [.ref p, .int i] ∧ SqL K H p us ∧ PV K H us ds ∧ us.length ≤ 1000 ∧ ∀ (v : V) (H' : Hp), Ex H H' → DV K H' v (ds.getD i .rs) → Q v H'
theorem d_law_at (h : Has K mg "_law_at" s_law_at) : Dn P w K mg base CX0 "_law_at" ["_law_program_here", "_law_beat_here"] 1 (sp_law_at K) := by
  refine dn_of h (fun f fd F => F.binds fun _ _ _ _ _ _ us hl => match us, hl with | [_, _], _ => rfl) fun f fd F _ => F.ok sc_law_at (fun vs H Q E h => ?_) (fun cdv A outer s H vs Q E hr h => ?_)
  · obtain ⟨_, _, _, _, rfl, _⟩ := h
    rfl
  · obtain ⟨p, us, ds, i, rfl, hS, hP, hz, k⟩ := h
    refine ⟨_, (pss_one (ps_ret (pe_ix (ix_listK K) (pe_op op_cat (pe_slice sl_list (pv 0) (po_some (pv 1)) (po_some (pe_op op_add (pv 1) pe_int))) (pe_lst (pa_cons (pe_tup (pa_cons pe_str pa_nil)) pa_nil))) pe_int (fun _ _ => rfl)))), ?_⟩
    refine (el_sl (lo := some (i : Int)) (hi := some ((i : Int) + 1)) (ev_var rfl) (eo_some (ev_var rfl)) (eo_some (ev_op (ev_var rfl) ev_c rv_I0)) hS) H (Ex.refl H) _ fun p1 H1 n1 f1 h1 => ?_
    rw [cut_at] at h1
    refine ⟨by show 1 ≤ sizeLine; decide, fun p2 n2 => ⟨by show 1 ≤ sizeLine; decide, fun p3 n3 => ?_⟩⟩
    have g1 := Ex.new (o := .tup [.str "rest"]) n2
    have g2 := Ex.new (o := .lst [.ref p2]) n3
    refine ⟨p1, p3, _, _, rfl, rfl, g2 _ _ (g1 _ _ h1), upd_same, ?_, fun p4 n4 => ?_⟩
    · have q2 : (2000 : Nat) ≤ sizeLine := by decide
      have q3 : ((us.drop i).take 1).length ≤ 1 := by rw [List.length_take]; omega
      show ((us.drop i).take 1).length + 1 ≤ sizeLine
      omega
    have g3 := Ex.new (o := .lst ((us.drop i).take 1 ++ [.ref p2])) n4
    have e2 : DV K (upd (upd (upd H1 p2 (.tup [.str "rest"])) p3 (.lst [.ref p2])) p4 (.lst ((us.drop i).take 1 ++ [.ref p2]))) (.ref p2) .rs := ⟨p2, rfl, SqT.of (g3 _ _ (g2 _ _ upd_same))⟩
    have f4 := ((f1.trans g1).trans g2).trans g3
    cases hi : us[i]? with
    | none =>
      have hl : us.length ≤ i := List.getElem?_eq_none_iff.mp hi
      have hd : ds.length ≤ i := by rw [← hP.length]; exact hl
      have e : us.drop i = [] := List.drop_of_length_le hl
      refine ⟨p4, _, 0, .ref p2, rfl, rfl, SqL.of upd_same, by rw [e]; rfl, k _ _ f4 ?_⟩
      rw [List.getD_eq_getElem?_getD, List.getElem?_eq_none_iff.mpr hd]
      exact e2
    | some v =>
      obtain ⟨d, hd, dv⟩ := hP.get hi
      have hl := (List.getElem?_eq_some_iff.mp hi).1
      have e : (us.drop i).take 1 = [v] := by
        rw [List.drop_eq_getElem_cons hl]
        have q := (List.getElem?_eq_some_iff.mp hi).2
        rw [q]
        rfl
      refine ⟨p4, _, 0, v, rfl, rfl, SqL.of upd_same, by rw [e]; rfl, k _ _ f4 ?_⟩
      rw [List.getD_eq_getElem?_getD, hd]
      exact dv.mono f4

def sp_law_beat (K : PySem.W.Frag) : Sp := fun vs H Q _ => ∃ (r : Rule) (m : Addr) (ws : List Nat) (a b : V) (d e : Deed), r ≠ .wait ∧ vs = [.str r.name, .ref m, a, b] ∧ SqA K H m (ws.map wV) ∧ DV K H a d ∧ DV K H b e ∧ d.ok ws.length ∧ e.ok ws.length ∧
  ∀ (t f0 f1 bh : Addr) (H' : Hp), Ex H H' → H' t = some (.tup [.ref f0, .ref f1, .ref bh]) → H' f0 = some (.lst ((beat r ws d e).2.1.map wV)) → H' f1 = some (.lst ((beat r ws d e).2.2.map wV)) → H' bh = some (.lst ((beat r ws d e).1.map wV)) →
    H f0 = none → H f1 = none → H bh = none → Q (.ref t) H'
theorem d_law_beat (T : Nb mg) (h : Has K mg "_law_beat" s_law_beat) : Dn P w K mg base CX0 "_law_beat" ["_law_rule", "_law_memory_here", "_law_one", "_law_other"] 1 (sp_law_beat K) := by
  refine dn_of h (fun f fd F => F.binds fun _ _ _ _ _ _ us hl => match us, hl with | [_, _, _, _], _ => rfl) fun f fd F _ => F.ok sc_law_beat (fun vs H Q E h => ?_) (fun cdv A outer s H vs Q E hr h => ?_)
  · obtain ⟨_, _, _, _, _, _, _, _, rfl, _⟩ := h
    rfl
  obtain ⟨r, m, ws, a, b, d, e, hrw, rfl, hm, da, eb, o1, o2, k⟩ := h
  refine ⟨_, (pss_cons (ps_set (i := 4) sc_law_beat.nd rfl (Or.inl rfl) (pe_callTy (call_list_ofK K) (by rfl) T.n_list PyProof.Rows.boot_list (pa_cons (pv 1) pa_nil)))
    (pss_cons (ps_set (i := 5) sc_law_beat.nd rfl (Or.inl rfl) (pe_callTy (call_list_ofK K) (by rfl) T.n_list PyProof.Rows.boot_list (pa_cons (pv 1) pa_nil)))
    (pss_cons (ps_for PassesOwn.never rfl (pi_list (pe_ifExp (pt_cmpR op_eq (pv 0) pe_str (nomark _)) (pe_lst (pa_cons (pv 2) (pa_cons (pv 3) pa_nil))) (pe_lst (pa_cons (pv 3) (pa_cons (pv 2) pa_nil))))) (pg_name (i := 6) sc_law_beat.nd rfl (Or.inl rfl))
      (pss_one (ps_if (pt_cmpR op_eq (pe_ix (ix_tupK K) (pv 6) pe_int (fun _ _ => rfl)) pe_str (nomark _)) (pss_one (ps_asg (pe_ix (ix_tupK K) (pv 6) pe_int (fun _ _ => rfl)) (pg_sub (pv 5) (pe_ix (ix_tupK K) (pv 6) pe_int (fun _ _ => rfl)) set_list))) pss_nil)))
    (pss_cons (ps_set (i := 7) sc_law_beat.nd rfl (Or.inl rfl) (pe_lst pa_nil))
    (pss_cons (ps_set (i := 8) sc_law_beat.nd rfl (Or.inl rfl) (pe_dget (hu_of hr) (pe_disp (pps_cons pe_str (pe_tup (pa_cons (pv 4) (pa_cons (pv 4) pa_nil))) (pps_cons pe_str (pe_tup (pa_cons (pv 5) (pa_cons (pv 5) pa_nil))) (pps_cons pe_str (pe_tup (pa_cons (pv 4) (pa_cons (pv 5) pa_nil))) (pps_cons pe_str (pe_tup (pa_cons (pv 5) (pa_cons (pv 4) pa_nil))) pps_nil)))) (by rfl) (by rfl) (fun z => by cases z) (by decide)) (pv 0) (fun _ _ => rfl)))
    (pss_cons (ps_for PassesOwn.never rfl (pi_range1 rfl T.n_range (pa_cons pe_int pa_nil)) (pg_name (i := 9) sc_law_beat.nd rfl (Or.inl rfl))
      (pss_cons (ps_set (i := 6) sc_law_beat.nd rfl (Or.inl rfl) (pe_ix (ix_tupK K) (pe_tup (pa_cons (pv 2) (pa_cons (pv 3) pa_nil))) (pv 9) (fun _ _ => rfl)))
      (pss_one (ps_expr (pe_bm PySem.F.plainAttrs_list PySem.F.slot_list_append PySem.F.type_list_append mt_append (pv 7) (pa_cons (pe_ifExp (pt_cmpR op_eq (pe_ix (ix_tupK K) (pv 6) pe_int (fun _ _ => rfl)) pe_str (nomark _)) (pe_lst (pa_cons (pe_ix (ix_listK K) (pe_ix (ix_tupK K) (pv 8) (pv 9) (fun _ _ => rfl)) (pe_ix (ix_tupK K) (pv 6) pe_int (fun _ _ => rfl)) (fun _ _ => rfl)) pa_nil)) (pe_lst pa_nil)) pa_nil))))))
    (pss_one (ps_ret (pe_tup (pa_cons (pe_ix (ix_listK K) (pv 7) pe_int (fun _ _ => rfl)) (pa_cons (pe_ix (ix_listK K) (pv 7) pe_int (fun _ _ => rfl)) (pa_cons (pv 5) pa_nil)))))))))))), ?_⟩
  refine q_asgL (xs := ws.map wV) (el_listA (by walk_at "ev") hm) fun pa H1 n1 f1 ha => ?_
  refine q_asgL (xs := ws.map wV) (el_listA (by walk_at "ev") (ex_a f1 hm)) fun pb H2 n2 f2 hb => ?_
  have f12 := f1.trans f2
  have nab : pa ≠ pb := ne_of_none ha n2
  have wl : decide (V.str r.name = V.str "left") = decide (r = .left) := by cases r <;> decide +kernel
  obtain ⟨a1, a2, d1, d2, hlist, dv1, dv2, k1, k2, hW⟩ : ∃ (a1 a2 : V) (d1 d2 : Deed), EvL (tIf (tTest (tOp rEq (tVar 0) (tC (.str "left")))) (tLst (tCons (tVar 2) (tCons (tVar 3) tNil))) (tLst (tCons (tVar 3) (tCons (tVar 2) tNil)))) (((start ["_law_rule", "_law_memory_here", "_law_one", "_law_other", "_law_ahead", "_law_behind", "_law_deed_here", "_law_found", "_law_looks", "_law_k"] [.str r.name, .ref m, a, b]).set 4 (some (.ref pa))).set 5 (some (.ref pb))) H2 [a1, a2] ∧
      DV K H2 a1 d1 ∧ DV K H2 a2 d2 ∧ d1.ok ws.length ∧ d2.ok ws.length ∧ wrl (wrl ws d1) d2 = (beat r ws d e).1 := by
    by_cases hl : r = .left
    · refine ⟨a, b, d, e, el_if (b := true) (et_is (et_test (ev_op (x := .str r.name) (y := .str "left") (by walk_at "ev") (by walk_at "ev") (rv_eq rfl))) (by rw [wl, decide_eq_true hl])) (fun _ => el_lst (by walk_at "ea") (by simp)) (fun z => nomatch z), da.mono f12, eb.mono f12, o1, o2, by rw [hl]; rfl⟩
    · refine ⟨b, a, e, d, el_if (b := false) (et_is (et_test (ev_op (x := .str r.name) (y := .str "left") (by walk_at "ev") (by walk_at "ev") (rv_eq rfl))) (by rw [wl, decide_eq_false hl])) (fun z => nomatch z) (fun _ => el_lst (by walk_at "ea") (by simp)), eb.mono f12, da.mono f12, o2, o1, ?_⟩
      cases r with
      | old => rfl
      | new => rfl
      | left => exact absurd rfl hl
      | right => rfl
      | wait => exact absurd rfl hrw
  refine q_forNLn hlist (fun p i σ' H' => ∃ v6, σ' = [some (.str r.name), some (.ref m), some a, some b, some (.ref pa), some (.ref pb), v6, none, none, none] ∧ H' pb = some (.lst ((([ws, wrl ws d1, wrl (wrl ws d1) d2] : List (List Nat)).getD i []).map wV)) ∧ Bt [pb] H2 H' ∧ p ≠ pb ∧ H' p = some (.lst [a1, a2]))
    (fun p H3 n3 f3 h3 => ⟨none, rfl, f3 _ _ hb, Bt.of_ex f3, (ne_of_none hb n3).symm, h3⟩) (fun p i σ' H' _ ⟨_, _, _, _, _, h⟩ => SqL.of h) ?_ ?_
  · rintro p i x σ' H' hi ⟨v6, rfl, g1, g2, g3, g4⟩
    match i, hi with
    | 0, hi =>
      cases hi
      exact wr_body (i := 6) (j := 5) (p := pb) (dd := d1) (u := ws) rfl rfl (dv_buts g2 (by simp [hb]) dv1) g1 k1 fun H4 b4 h4 => ⟨_, rfl, h4, g2.trans b4, g3, b4 _ _ (by simp [g3]) g4⟩
    | 1, hi =>
      cases hi
      exact wr_body (i := 6) (j := 5) (p := pb) (dd := d2) (u := wrl ws d1) rfl rfl (dv_buts g2 (by simp [hb]) dv2) g1 (by rw [wrl_length]; exact k2) fun H4 b4 h4 => ⟨_, rfl, h4, g2.trans b4, g3, b4 _ _ (by simp [g3]) g4⟩
    | i + 2, hi => simp at hi
  rintro p σ' H3 ⟨v6, rfl, g1, g2, g3, g4⟩
  replace g1 : H3 pb = some (.lst ((beat r ws d e).1.map wV)) := by rw [← hW]; exact g1
  have ga : H3 pa = some (.lst (ws.map wV)) := g2 _ _ (by simp [nab]) (f2 _ _ ha)
  have e3 : Ex H H3 := ((Bt.of_ex f12).trans g2).ex fun q hq o ho => by
    rw [List.mem_singleton.mp hq, fresh_back f1 n2] at ho
    cases ho
  have da3 := dv_buts g2 (by simp [hb]) (da.mono f12)
  have eb3 := dv_buts g2 (by simp [hb]) (eb.mono f12)
  have nb0 : H pb = none := fresh_back f1 n2
  refine q_asgL (xs := []) (el_lst ea_nil (by decide)) fun pf H4 n4 f4 hf => ?_
  -- what is looked at
  refine fun pd nd => ⟨_, rfl, _, rfl, by show 2 ≤ sizeLine; decide, fun t1 m1 => ⟨_, rfl, _, rfl, by show 2 ≤ sizeLine; decide, fun t2 m2 => ⟨_, rfl, _, rfl, by show 2 ≤ sizeLine; decide, fun t3 m3 => ⟨_, rfl, _, rfl, by show 2 ≤ sizeLine; decide, fun t4 m4 => ?_⟩⟩⟩⟩
  have x0 := Ex.new (H := H4) (o := .dK []) nd
  have x1 := Ex.new (o := .tup [.ref pa, .ref pa]) m1
  have x2 := Ex.new (o := .tup [.ref pb, .ref pb]) m2
  have x3 := Ex.new (o := .tup [.ref pa, .ref pb]) m3
  have x4 := Ex.new (o := .tup [.ref pb, .ref pa]) m4
  refine ⟨x4 _ _ (x3 _ _ (x2 _ _ (x1 _ _ upd_same))), looksK (.ref t1) (.ref t2) (.ref t3) (.ref t4), rfl, by simp [looksK], ?_⟩
  have xb : Bt [pd] H4 _ := (((((Bt.refl H4).upd (p := pd) (o := .dK []) (.inl (by simp))).trans (Bt.of_ex (x1.trans (x2.trans (x3.trans x4))))).upd (p := pd) (o := .dK (mergeK [] (looksK (.ref t1) (.ref t2) (.ref t3) (.ref t4)))) (.inl (by simp))))
  have x5 : Ex H4 (upd (upd (upd (upd (upd (upd H4 pd (.dK [])) t1 (.tup [.ref pa, .ref pa])) t2 (.tup [.ref pb, .ref pb])) t3 (.tup [.ref pa, .ref pb])) t4 (.tup [.ref pb, .ref pa])) pd (.dK (mergeK [] (looksK (.ref t1) (.ref t2) (.ref t3) (.ref t4))))) := xb.ex fun q hq o ho => by
    rw [List.mem_singleton.mp hq, nd] at ho
    cases ho
  have nd1 : t1 ≠ pd := (ne_of_none upd_same m1).symm
  have nd2 : t2 ≠ pd := (ne_of_none (x1 _ _ upd_same) m2).symm
  have nd3 : t3 ≠ pd := (ne_of_none (x2 _ _ (x1 _ _ upd_same)) m3).symm
  have nd4 : t4 ≠ pd := (ne_of_none (x3 _ _ (x2 _ _ (x1 _ _ upd_same))) m4).symm
  refine ⟨_, rfl, pd, lookOf r (.ref t1) (.ref t2) (.ref t3) (.ref t4), rfl, by rw [← looks_at r hrw]; exact DGet.k (k := .inr r.name) upd_same, ?_⟩
  generalize hH5 : upd (upd (upd (upd (upd (upd H4 pd (.dK [])) t1 (.tup [.ref pa, .ref pa])) t2 (.tup [.ref pb, .ref pb])) t3 (.tup [.ref pa, .ref pb])) t4 (.tup [.ref pb, .ref pa])) pd (.dK (mergeK [] (looksK (.ref t1) (.ref t2) (.ref t3) (.ref t4)))) = H5 at x5 ⊢
  have ga5 := x5 _ _ (f4 _ _ ga)
  have gb5 := x5 _ _ (f4 _ _ g1)
  have npa : pa ≠ pf := ne_of_none ga n4
  have npb : pb ≠ pf := ne_of_none g1 n4
  obtain ⟨tr, y0, y1, Y0, Y1, q1, q2, q3, q4, q5, q6, q7, q8, q9, q10⟩ : ∃ (tr y0 y1 : Addr) (Y0 Y1 : List Nat), lookOf r (.ref t1) (.ref t2) (.ref t3) (.ref t4) = .ref tr ∧ H5 tr = some (.tup [.ref y0, .ref y1]) ∧ H5 y0 = some (.lst (Y0.map wV)) ∧ H5 y1 = some (.lst (Y1.map wV)) ∧
      rdl Y0 d = (beat r ws d e).2.1 ∧ rdl Y1 e = (beat r ws d e).2.2 ∧ Y0.length = ws.length ∧ Y1.length = ws.length ∧ y0 ≠ pf ∧ y1 ≠ pf := by
    have hbl := beat_length r ws d e
    cases r with
    | old => exact ⟨t1, pa, pa, _, _, rfl, by rw [← hH5, upd_ne nd1]; exact x4 _ _ (x3 _ _ (x2 _ _ upd_same)), ga5, ga5, rfl, rfl, rfl, rfl, npa, npa⟩
    | new => exact ⟨t2, pb, pb, _, _, rfl, by rw [← hH5, upd_ne nd2]; exact x4 _ _ (x3 _ _ upd_same), gb5, gb5, rfl, rfl, hbl, hbl, npb, npb⟩
    | left => exact ⟨t3, pa, pb, _, _, rfl, by rw [← hH5, upd_ne nd3]; exact x4 _ _ upd_same, ga5, gb5, rfl, rdl_wrl _ _, rfl, hbl, npa, npb⟩
    | right => exact ⟨t4, pb, pa, _, _, rfl, by rw [← hH5, upd_ne nd4]; exact upd_same, gb5, ga5, rdl_wrl _ _, rfl, hbl, rfl, npb, npa⟩
    | wait => exact absurd rfl hrw
  rw [q1]
  have da5 := (da3.mono f4).mono x5
  have eb5 := (eb3.mono f4).mono x5
  have hf5 := x5 _ _ hf
  have e5 : Ex H H5 := (e3.trans f4).trans x5
  refine gn ?_
  dsimp only
  refine q_forR1 (n := 2) (by walk_at "ea") (by decide) (fun i σ' H' => ∃ (v6 v9 : Option V) (fs : List Addr), σ' = [some (.str r.name), some (.ref m), some a, some b, some (.ref pa), some (.ref pb), v6, some (.ref pf), some (.ref tr), v9] ∧ H' pf = some (.lst (fs.map V.ref)) ∧ fs.length = i ∧ Bt [pf] H5 H' ∧
      ∀ (j : Nat) (f : Addr), fs[j]? = some f → H' f = some (.lst ((([(beat r ws d e).2.1, (beat r ws d e).2.2] : List (List Nat)).getD j []).map wV)) ∧ H5 f = none)
    (fun H6 f6 => ⟨_, none, [], rfl, f6 _ _ hf5, rfl, Bt.of_ex f6, fun j f z => by simp at z⟩) ?_ ?_
  · rintro i σ' H6 hi ⟨v6, v9, fs, rfl, j1, j2, j3, j4⟩
    obtain ⟨x, dd, y, z1, z2, z3, Y, z4, z5, z6, z7⟩ : ∃ (x : V) (dd : Deed) (y : Addr), ([a, b] : List V)[i]? = some x ∧ DV K H5 x dd ∧ ([.ref y0, .ref y1] : List V)[i]? = some (.ref y) ∧ ∃ Y : List Nat, H5 y = some (.lst (Y.map wV)) ∧ rdl Y dd = ([(beat r ws d e).2.1, (beat r ws d e).2.2] : List (List Nat)).getD i [] ∧ dd.ok Y.length ∧ y ≠ pf := by
      match i, hi with
      | 0, _ => exact ⟨a, d, y0, rfl, da5, rfl, Y0, q3, q5, by rw [q7]; exact o1, q9⟩
      | 1, _ => exact ⟨b, e, y1, rfl, eb5, rfl, Y1, q4, q6, by rw [q8]; exact o2, q10⟩
      | i + 2, hi => omega
    refine ⟨_, rfl, _, rfl, by show 2 ≤ sizeLine; decide, fun tt nt => ⟨_, rfl, tt, _, (i : Int), x, rfl, rfl, SqT.of upd_same, atI_nat z1, ?_⟩⟩
    refine gn ?_
    dsimp only
    have f6 := Ex.new (H := H6) (o := .tup [a, b]) nt
    have b7 : Bt [pf] H5 (upd H6 tt (.tup [a, b])) := j3.trans (Bt.of_ex f6)
    generalize upd H6 tt (.tup [a, b]) = H7 at f6 b7 ⊢
    have lists : ∀ q ∈ [pf], ∃ us, H5 q = some (.lst us) := by simp [hf5]
    have dv7 := dv_buts b7 lists z2
    have ht7 : SqT K H7 tr [.ref y0, .ref y1] := t_but b7 lists (SqT.of q2)
    obtain ⟨ad, rfl, h7⟩ := dv7
    have hy7 : H7 y = some (.lst (Y.map wV)) := b7 _ _ (by simp [z7]) z4
    have hf7 : H7 pf = some (.lst (fs.map V.ref)) := f6 _ _ j1
    have fin : ∀ (f : Addr) (H8 : Hp), H7 f = none → Ex H7 H8 → H8 f = some (.lst ((rdl Y dd).map wV)) → ∃ (v6 v9 : Option V) (gs : List Addr), (((([some (.str r.name), some (.ref m), some a, some b, some (.ref pa), some (.ref pb), v6, some (.ref pf), some (.ref tr), v9] : L2.St).set 9 (some (.int (i : Int)))).set 6 (some (.ref ad)))) = [some (.str r.name), some (.ref m), some a, some b, some (.ref pa), some (.ref pb), v6, some (.ref pf), some (.ref tr), v9] ∧
        (upd H8 pf (.lst (fs.map V.ref ++ [.ref f]))) pf = some (.lst (gs.map V.ref)) ∧ gs.length = i + 1 ∧ Bt [pf] H5 (upd H8 pf (.lst (fs.map V.ref ++ [.ref f]))) ∧
        ∀ (j : Nat) (g : Addr), gs[j]? = some g → (upd H8 pf (.lst (fs.map V.ref ++ [.ref f]))) g = some (.lst ((([(beat r ws d e).2.1, (beat r ws d e).2.2] : List (List Nat)).getD j []).map wV)) ∧ H5 g = none := by
      intro f H8 nf f8 h8
      have nfp : f ≠ pf := (ne_of_none hf7 nf).symm
      refine ⟨_, _, fs ++ [f], rfl, by rw [upd_same, List.map_append]; rfl, by rw [List.length_append, j2]; rfl, (b7.trans (Bt.of_ex f8)).upd (.inl (by simp)), fun j g hg => ?_⟩
      by_cases hj : j < fs.length
      · rw [List.getElem?_append_left hj] at hg
        obtain ⟨w1, w2⟩ := j4 j g hg
        have ng : g ≠ pf := ne_of_none hf5 w2 |>.symm
        refine ⟨?_, w2⟩
        rw [upd_ne ng]
        exact f8 _ _ (f6 _ _ w1)
      · rw [List.getElem?_append_right (by omega)] at hg
        have hj0 : j - fs.length = 0 := by
          by_cases z : j - fs.length = 0
          · exact z
          · obtain ⟨y, hy⟩ : ∃ y, j - fs.length = y + 1 := ⟨j - fs.length - 1, by omega⟩
            rw [hy] at hg
            simp at hg
        rw [hj0] at hg
        cases hg
        have hji : j = i := by omega
        subst hji
        refine ⟨?_, ?_⟩
        · rw [upd_ne nfp, ← z5]
          exact h8
        · exact b7.free (by simp [nfp]) nf
    refine s_appL (l := pf) (xs := fs.map V.ref) (ys := (rdl Y dd).map wV) hf7 (by walk_at "ev") ?_ (by rw [List.length_map]; omega) fun f H8 nf f8 h8 => ?_
    · refine el_if (b := decide (V.str dd.tag = V.str "read")) (et_test (ev_op (ev_op (ev_var (v := .ref ad) rfl) ev_c (DV.tag h7)) ev_c (rv_eq rfl))) (fun hb => ?_) (fun hb => ?_)
      · cases dd with
        | wr c x => exact absurd hb (by show ¬ decide (V.str "write" = V.str "read") = true; decide +kernel)
        | rs => exact absurd hb (by show ¬ decide (V.str "rest" = V.str "read") = true; decide +kernel)
        | rd c =>
          have hc : c < Y.length := z6
          have hx : (Y.map wV)[c]? = some (wV (Y.getD c 0)) := by rw [List.getElem?_map, List.getD_eq_getElem?_getD, List.getElem?_eq_getElem hc]; rfl
          exact el_lst (ea_cons (ev_op (ev_op (ev_var (v := .ref tr) rfl) (ev_var (v := .int (i : Int)) rfl) (rv_ixT ht7 (atI_nat z3))) (ev_op (ev_var (v := .ref ad) rfl) ev_c (rv_ixT h7 rfl)) (rv_ixL (SqL.of hy7) (atI_nat hx))) ea_nil) (by simp [rdl])
      · cases dd with
        | rd c => exact absurd hb (by show ¬ decide (V.str "read" = V.str "read") = false; decide +kernel)
        | wr c x => exact el_lst (vs := []) ea_nil (by decide)
        | rs => exact el_lst (vs := []) ea_nil (by decide)
    · obtain ⟨v6', v9', gs, c1, c2, c3, c4, c5⟩ := fin f H8 nf f8 h8
      exact ⟨_, _, gs, rfl, c2, c3, c4, c5⟩
  · rintro σ' H6 ⟨v6, v9, fs, rfl, j1, j2, j3, j4⟩
    obtain ⟨f0, f1', rfl⟩ : ∃ f0 f1', fs = [f0, f1'] := by
      match fs, j2 with
      | [f0, f1'], _ => exact ⟨f0, f1', rfl⟩
    obtain ⟨u0, m0'⟩ := j4 0 f0 rfl
    obtain ⟨u1, m1'⟩ := j4 1 f1' rfl
    have e6 : Ex H H6 := ((Bt.of_ex e5).trans (j3)).ex fun q hq o ho => by
      rw [List.mem_singleton.mp hq, fresh_back e3 n4] at ho
      cases ho
    have gb6 := j3 _ _ (by simp [npb]) gb5
    refine s_retU (xs := [.ref f0, .ref f1', .ref pb]) (eu_tup (ea_cons (ev_op (ev_var (v := .ref pf) rfl) ev_c (rv_ixL (SqL.of j1) rfl)) (ea_cons (ev_op (ev_var (v := .ref pf) rfl) ev_c (rv_ixL (SqL.of j1) rfl)) (ea_cons (ev_var (v := .ref pb) rfl) ea_nil))) (by simp)) fun t H7 nt f7 h7 => ?_
    exact k t f0 f1' pb H7 (e6.trans f7) h7 (f7 _ _ u0) (f7 _ _ u1) (f7 _ _ gb6) (fresh_back e5 m0') (fresh_back e5 m1') nb0

def sp_law_run (K : PySem.W.Frag) : Sp := fun vs H Q _ => ∃ (r : Rule) (m p q : Addr) (ws : List Nat) (us xs : List V) (ds es : List Deed), vs = [.str r.name, .ref m, .ref p, .ref q] ∧ SqT K H m (ws.map wV) ∧ (∀ x ∈ ws, x < 3) ∧ SqL K H p us ∧ PV K H us ds ∧ ds.length ≤ 40 ∧ (∀ d ∈ ds, d.ok ws.length) ∧
  SqL K H q xs ∧ PV K H xs es ∧ es.length ≤ 40 ∧ (∀ d ∈ es, d.ok ws.length) ∧ ∀ (v : V) (H' : Hp), Told K H H' v (out r (begin0 ws ds es)) → Q v H'
/-- the law's memory: a tuple, or a list beside the two of what is read -/
def MemAt (K : PySem.W.Frag) (H : Hp) (p s o : Addr) (ws : List Nat) : Prop := SqT K H p (ws.map wV) ∨ (H p = some (.lst (ws.map wV)) ∧ p ≠ s ∧ p ≠ o)
theorem MemAt.ex {H H' : Hp} {p s o : Addr} {ws : List Nat} (h : MemAt K H p s o ws) (e : Ex H H') : MemAt K H' p s o ws := h.imp (ex_t e) fun z => ⟨e _ _ z.1, z.2⟩
theorem MemAt.a {H : Hp} {p s o : Addr} {ws : List Nat} (h : MemAt K H p s o ws) : SqA K H p (ws.map wV) := by
  rcases h with h | h
  · exact .inr h
  · exact .inl (SqL.of h.1)
theorem d_law_run (T : Nb mg) (D_law_at : Dn P w K mg base CX0 "_law_at" ["_law_program_here", "_law_beat_here"] 1 (sp_law_at K)) (D_law_meet : Dn P w K mg base CX0 "_law_meet" ["_law_one", "_law_other"] 1 (sp_law_meet K)) (D_law_beat : Dn P w K mg base CX0 "_law_beat" ["_law_rule", "_law_memory_here", "_law_one", "_law_other"] 1 (sp_law_beat K))
    (h : Has K mg "_law_run" s_law_run) : Dn P w K mg base CX0 "_law_run" ["_law_rule", "_law_memory_here", "_law_left", "_law_right"] 2 (sp_law_run K) := by
  refine dn_of h (fun f fd F => F.binds fun _ _ _ _ _ _ us hl => match us, hl with | [_, _, _, _], _ => rfl) fun f fd F _ => F.ok sc_law_run (fun vs H Q E h => ?_) (fun cdv A outer s H vs Q E hr h => ?_)
  · obtain ⟨_, _, _, _, _, _, _, _, _, rfl, _⟩ := h
    rfl
  obtain ⟨r, m, p, q, ws, us, xs, ds, es, rfl, hm, hw3, hp, hP, hl40, hok1, hq, hX, hr40, hok2, k⟩ := h
  refine ⟨_, (pss_cons (ps_par (i := 2) (j := 3) rfl sc_law_run.nd rfl rfl (by decide) rfl rfl (pa_cons (pe_callTy (call_list_ofK K) (by rfl) T.n_list PyProof.Rows.boot_list (pa_cons (pv 2) pa_nil)) (pa_cons (pe_callTy (call_list_ofK K) (by rfl) T.n_list PyProof.Rows.boot_list (pa_cons (pv 3) pa_nil)) pa_nil)) rfl)
    (pss_cons (ps_set (i := 4) sc_law_run.nd rfl (Or.inl rfl) (pe_tup (pa_cons (pe_lst pa_nil) (pa_cons (pe_lst pa_nil) pa_nil))))
    (pss_cons (ps_set (i := 5) sc_law_run.nd rfl (Or.inl rfl) pe_int)
    (pss_cons (ps_while PassesOwn.never (pt_cmpR (op_neDK K rfl hr.units) (pe_op op_cat (pv 2) (pv 3)) (pe_lst pa_nil) (nomark _))
      (pss_cons (ps_par (i := 6) (j := 7) rfl sc_law_run.nd rfl rfl (by decide) rfl rfl (pa_cons (pe_dn D_law_at hr (by omega) pass0 (pa_cons (pv 2) (pa_cons pe_int pa_nil))) (pa_cons (pe_dn D_law_at hr (by omega) pass0 (pa_cons (pv 3) (pa_cons pe_int pa_nil))) pa_nil)) rfl)
      (pss_cons (ps_set (i := 8) sc_law_run.nd rfl (Or.inl rfl) (pe_and (pe_cmpR op_eq (pv 0) pe_str (nomark _)) (pe_one (pe_dn D_law_meet hr (by omega) pass0 (pa_cons (pv 6) (pa_cons (pv 7) pa_nil))))))
      (pss_cons (ps_set (i := 9) sc_law_run.nd rfl (Or.inl rfl) (pe_dn D_law_beat hr (by omega) pass0 (pa_cons (pe_ifExp (pt_cmpR op_eq (pv 0) pe_str (nomark _)) pe_str (pv 0)) (pa_cons (pv 1) (pa_cons (pv 6) (pa_cons (pe_ifExp (pt_val (pv 8)) (pe_tup (pa_cons pe_str pa_nil)) (pv 7)) pa_nil))))))
      (pss_cons (ps_expr (pe_bm PySem.F.plainAttrs_list PySem.F.slot_list_extend PySem.F.type_list_extend mt_extend (pe_ix (ix_tupK K) (pv 4) pe_int (fun _ _ => rfl)) (pa_cons (pe_ix (ix_tupK K) (pv 9) pe_int (fun _ _ => rfl)) pa_nil)))
      (pss_cons (ps_expr (pe_bm PySem.F.plainAttrs_list PySem.F.slot_list_extend PySem.F.type_list_extend mt_extend (pe_ix (ix_tupK K) (pv 4) pe_int (fun _ _ => rfl)) (pa_cons (pe_ix (ix_tupK K) (pv 9) pe_int (fun _ _ => rfl)) pa_nil)))
      (pss_cons (ps_set (i := 1) sc_law_run.nd rfl (Or.inl rfl) (pe_ix (ix_tupK K) (pv 9) pe_int (fun _ _ => rfl)))
      (pss_cons (ps_set (i := 2) sc_law_run.nd rfl (Or.inl rfl) (pe_slice sl_list (pv 2) (po_some pe_int) po_none))
      (pss_cons (ps_set (i := 3) sc_law_run.nd rfl (Or.inl rfl) (pe_ifExp (pt_val (pv 8)) (pv 3) (pe_slice sl_list (pv 3) (po_some pe_int) po_none)))
      (pss_one (ps_set (i := 5) sc_law_run.nd rfl (Or.inl rfl) (pe_op op_add (pv 5) pe_int))))))))))))
    (pss_one (ps_ret (pe_tup (pa_cons (pe_ix (ix_tupK K) (pv 4) pe_int (fun _ _ => rfl)) (pa_cons (pe_ix (ix_tupK K) (pv 4) pe_int (fun _ _ => rfl)) (pa_cons (pe_callTy call_tuple_of (by rfl) T.n_tuple PyProof.Rows.boot_tuple (pa_cons (pv 1) pa_nil)) (pa_cons (pv 5) pa_nil))))))))))), ?_⟩
  refine ⟨_, rfl, p, us, rfl, .inl hp, fun pl0 nl0 => ⟨_, rfl, q, xs, rfl, .inl (ex_l (Ex.new nl0) hq), fun pr0 nr0 => ⟨_, _, rfl, ?_⟩⟩⟩
  dsimp only
  have f1 : Ex H (upd (upd H pl0 (.lst us)) pr0 (.lst xs)) := (Ex.new nl0).trans (Ex.new nr0)
  have hl1 : (upd (upd H pl0 (.lst us)) pr0 (.lst xs)) pl0 = some (.lst us) := Ex.new nr0 _ _ upd_same
  have hr1 : (upd (upd H pl0 (.lst us)) pr0 (.lst xs)) pr0 = some (.lst xs) := upd_same
  generalize upd (upd H pl0 (.lst us)) pr0 (.lst xs) = H1 at f1 hl1 hr1 ⊢
  refine ⟨by show 0 ≤ sizeLine; decide, fun s' ns => ⟨by show 0 ≤ sizeLine; decide, fun o' no => ⟨by show 2 ≤ sizeLine; decide, fun st nst => ?_⟩⟩⟩
  refine gn ?_
  dsimp only
  have g1 := Ex.new (o := .lst []) ns
  have g2 := Ex.new (o := .lst []) no
  have g3 := Ex.new (o := .tup [.ref s', .ref o']) nst
  have hs2 : (upd (upd (upd H1 s' (.lst [])) o' (.lst [])) st (.tup [.ref s', .ref o'])) s' = some (.lst []) := g3 _ _ (g2 _ _ upd_same)
  have ho2 : (upd (upd (upd H1 s' (.lst [])) o' (.lst [])) st (.tup [.ref s', .ref o'])) o' = some (.lst []) := g3 _ _ upd_same
  have ht2 : (upd (upd (upd H1 s' (.lst [])) o' (.lst [])) st (.tup [.ref s', .ref o'])) st = some (.tup [.ref s', .ref o']) := upd_same
  have nso : s' ≠ o' := ne_of_none upd_same no
  have ns0 : H s' = none := fresh_back f1 ns
  have no0 : H o' = none := fresh_back (f1.trans g1) no
  have nls : pl0 ≠ s' := ne_of_none hl1 ns
  have nlo : pl0 ≠ o' := ne_of_none (g1 _ _ hl1) no
  have nrs : pr0 ≠ s' := ne_of_none hr1 ns
  have nro : pr0 ≠ o' := ne_of_none (g1 _ _ hr1) no
  have f2 : Ex H1 (upd (upd (upd H1 s' (.lst [])) o' (.lst [])) st (.tup [.ref s', .ref o'])) := (g1.trans g2).trans g3
  generalize upd (upd (upd H1 s' (.lst [])) o' (.lst [])) st (.tup [.ref s', .ref o']) = H2 at f2 hs2 ho2 ht2 ⊢
  clear g1 g2 g3
  refine q_asg (v := .int 0) (by walk_at "ev") fun H3 f3 => ?_
  have f13 := (f1.trans f2).trans f3
  have hfit := Fit.begin0 (c := ws.length) (l := ds) (r := es) rfl hw3 hok1 hok2
  refine q_while (fun mm σ' H' => ∃ (S : Sts) (pm pl pr : Addr) (ul ur : List V) (v6 v7 v8 v9 : Option V), mm = S.meas ∧ σ' = [some (.str r.name), some (.ref pm), some (.ref pl), some (.ref pr), some (.ref st), some (.int S.n), v6, v7, v8, v9] ∧ MemAt K H' pm s' o' S.ws ∧
      H' pl = some (.lst ul) ∧ PV K H' ul S.l ∧ H' pr = some (.lst ur) ∧ PV K H' ur S.r ∧ H' s' = some (.lst (S.ss.map wV)) ∧ H' o' = some (.lst (S.os.map wV)) ∧ H' st = some (.tup [.ref s', .ref o']) ∧ pl ≠ s' ∧ pl ≠ o' ∧ pr ≠ s' ∧ pr ≠ o' ∧ Ex H H' ∧ Fit ws.length (ds.length + es.length) S ∧ out r S = out r (begin0 ws ds es)) (begin0 ws ds es).meas
    ⟨begin0 ws ds es, m, pl0, pr0, us, xs, none, none, none, none, rfl, rfl, .inl (ex_t f13 hm), f3 _ _ (f2 _ _ hl1), hP.mono f13, f3 _ _ (f2 _ _ hr1), hX.mono f13, f3 _ _ hs2, f3 _ _ ho2, f3 _ _ ht2, nls, nlo, nrs, nro, f13, hfit, rfl⟩ ?_
  rintro mm σ' H' ⟨S, pm, pl, pr, ul, ur, v6, v7, v8, v9, rfl, rfl, gm, gl, gP, gr, gX, gs, go, gt, c1, c2, c3, c4, ge, fit, ho⟩
  have zz : S.l.length + S.r.length ≤ 80 := by
    have z1 := fit.n
    have z2 : S.meas = S.l.length + S.r.length := rfl
    omega
  have lul := gP.length
  have lur := gX.length
  refine ⟨decide (¬ S.done), et_test (ev_is (ev_opLL (el_cat (ev_var (v := .ref pl) rfl) (ev_var (v := .ref pr) rfl) gl gr (by omega)) (el_lst ea_nil (by decide)) fun p1 q1 H4 h1 h2 f4 => rv_neD (n := 2) (m := 1) (d := .list ((S.l ++ S.r).map fun d => .tuple d.dat)) (e := .list []) (PV.dp (SqL.of h1) ((gP.mono f4).append (gX.mono f4))) (.lst (SqL.of h2) .nil) (sh_deeds _) (sh_lst fun _ z => nomatch z) (by decide) (by decide))
    (by rw [eqv_deeds_nil, ← decide_not]; congr 1; exact decide_eq_decide.mpr (by unfold Sts.done; rw [List.append_eq_nil_iff]))), fun hb H4 f4 => ?_, fun hb H4 f4 => ?_⟩
  · -- a beat
    have nd : ¬ S.done := of_decide_eq_true hb
    have less := one_less (r := r) nd
    have fit1 := fit.one (r := r) nd
    have out1 := (out_one (r := r) nd).trans ho
    have eqn := one_eq r S
    refine ⟨fun σ2 H2 => ∃ (S2 : Sts) (pm pl pr : Addr) (ul ur : List V) (v6 v7 v8 v9 : Option V), S2.meas < S.meas ∧ σ2 = [some (.str r.name), some (.ref pm), some (.ref pl), some (.ref pr), some (.ref st), some (.int S2.n), v6, v7, v8, v9] ∧ MemAt K H2 pm s' o' S2.ws ∧
      H2 pl = some (.lst ul) ∧ PV K H2 ul S2.l ∧ H2 pr = some (.lst ur) ∧ PV K H2 ur S2.r ∧ H2 s' = some (.lst (S2.ss.map wV)) ∧ H2 o' = some (.lst (S2.os.map wV)) ∧ H2 st = some (.tup [.ref s', .ref o']) ∧ pl ≠ s' ∧ pl ≠ o' ∧ pr ≠ s' ∧ pr ≠ o' ∧ Ex H H2 ∧ Fit ws.length (ds.length + es.length) S2 ∧ out r S2 = out r (begin0 ws ds es), ?_, ?_⟩
    · rintro σ2 H2 ⟨S2, pm2, pl2, pr2, ul2, ur2, y6, y7, y8, y9, q1, q2⟩
      exact ⟨S2.meas, q1, S2, pm2, pl2, pr2, ul2, ur2, y6, y7, y8, y9, rfl, q2⟩
    have gl4 := f4 _ _ gl
    have gr4 := f4 _ _ gr
    refine ⟨_, rfl, pl, ul, S.l, 0, rfl, SqL.of gl4, gP.mono f4, by omega, fun vd H5 f5 dv => ⟨_, rfl, pr, ur, S.r, 0, rfl, SqL.of (f5 _ _ gr4), (gX.mono f4).mono f5, by omega, fun ve H6 f6 ev => ⟨_, _, rfl, ?_⟩⟩⟩
    dsimp only
    rw [getD_zero] at dv ev
    have dv := dv.mono f6
    have me := sp_law_meet_v dv ev
    have wd : decide (V.str r.name = V.str "wait") = decide (r = .wait) := by cases r <;> decide +kernel
    refine q_asg (v := .bl (waits r S)) (ev_is (ev_andV (a := decide (r = .wait)) (b := clashD (S.l.headD .rs) (S.r.headD .rs)) (ev_is (ev_op (x := .str r.name) (y := .str "wait") (by walk_at "ev") (by walk_at "ev") (rv_eq rfl)) (by rw [wd])) (fun _ => ev_call (ea_cons (ev_var (v := vd) rfl) (ea_cons (ev_var (v := ve) rfl) ea_nil)) me)) rfl) fun H7 f7 => ?_
    generalize hwt : waits r S = wt at eqn
    have okd := ok_headD fit.okl
    have oke := ok_headD fit.okr
    rw [← fit.len] at okd oke
    -- the beat is told
    refine (ev_if (v := .str (rule2 r).name) (b := decide (r = .wait)) (et_is (et_test (ev_op (x := .str r.name) (y := .str "wait") (ev_var rfl) ev_c (rv_eq rfl))) wd) (fun z => by rw [show rule2 r = .left from if_pos (of_decide_eq_true z)]; exact ev_c) (fun z => by rw [show rule2 r = r from if_neg (of_decide_eq_false z)]; exact ev_var rfl)) H7 (Ex.refl H7) _ fun H8 f8 => ?_
    refine ⟨_, rfl, _, rfl, ?_⟩
    have f48 := (((f4.trans f5).trans f6).trans f7).trans f8
    have arg : ∀ Qr : VK, (∀ (v : V) (H9 : Hp), Ex H8 H9 → DV K H9 v (if wt = true then .rs else S.r.headD .rs) → Qr v H9) → (tIf (tB (tVar 8)) (tTup (tCons (tC (.str "rest")) tNil)) (tVar 7)) ((((([some (.str r.name), some (.ref pm), some (.ref pl), some (.ref pr), some (.ref st), some (.int S.n), v6, v7, v8, v9] : L2.St).set 6 (some vd)).set 7 (some ve)).set 8 (some (.bl wt)))) H8 Qr := by
      intro Qr hQ
      refine ⟨_, rfl, wt, rfl, ?_⟩
      cases wt with
      | true => exact ⟨by show 1 ≤ sizeLine; decide, fun t nt => hQ _ _ (Ex.new nt) ⟨t, rfl, SqT.of upd_same⟩⟩
      | false => exact ⟨_, rfl, hQ _ _ (Ex.refl _) ((ev.mono f7).mono f8)⟩
    refine arg _ fun ve2 H9 f9 ev2 => ?_
    have f49 := f48.trans f9
    refine ⟨rule2 r, pm, S.ws, vd, ve2, S.l.headD .rs, _, rule2_ne r, rfl, (gm.ex f49).a, ((dv.mono f7).mono f8).mono f9, ev2, okd, by cases wt <;> first | exact oke | exact True.intro, fun t f0 f1' bh Hb fb ht h0 h1 hb' n0 n1 nb => ?_⟩
    refine gn ?_
    dsimp only
    generalize hbt : beat (rule2 r) S.ws (S.l.headD .rs) (if wt = true then .rs else S.r.headD .rs) = bt at h0 h1 hb' eqn
    have f4b := f49.trans fb
    have gsb := f4b _ _ gs
    have gob := f4b _ _ go
    have gtb := f4b _ _ gt
    have d0s : f0 ≠ s' := (ne_of_none (f49 _ _ gs) n0).symm
    have d1s : f1' ≠ s' := (ne_of_none (f49 _ _ gs) n1).symm
    have d0o : f0 ≠ o' := (ne_of_none (f49 _ _ go) n0).symm
    have d1o : f1' ≠ o' := (ne_of_none (f49 _ _ go) n1).symm
    have dbs : bh ≠ s' := (ne_of_none (f49 _ _ gs) nb).symm
    have dbo : bh ≠ o' := (ne_of_none (f49 _ _ go) nb).symm
    have zs := fit.ss
    have zo := fit.os
    have lb0 : bt.2.1.length ≤ 1 := by rw [← hbt]; exact beat_seen _ _ _ _
    have lb1 : bt.2.2.length ≤ 1 := by rw [← hbt]; exact beat_others _ _ _ _
    refine q_ext (l := s') (b := f0) gsb h0 (ev_op (ev_var (v := .ref st) rfl) ev_c (rv_ixT (SqT.of gtb) rfl)) (ev_op (ev_var (v := .ref t) rfl) ev_c (rv_ixT (SqT.of ht) rfl)) (by rw [List.length_map, List.length_map]; omega) fun Hc fc => ?_
    have bc : Bt [s', o'] Hb (upd Hc s' (.lst (S.ss.map wV ++ bt.2.1.map wV))) := (Bt.of_ex fc).upd (.inl (by simp))
    have ls2 : ∀ q ∈ [s', o'], ∃ us, Hb q = some (.lst us) := by simp [gsb, gob]
    have gsc : (upd Hc s' (.lst (S.ss.map wV ++ bt.2.1.map wV))) s' = some (.lst (S.ss.map wV ++ bt.2.1.map wV)) := upd_same
    have goc : (upd Hc s' (.lst (S.ss.map wV ++ bt.2.1.map wV))) o' = some (.lst (S.os.map wV)) := by rw [upd_ne nso.symm]; exact fc _ _ gob
    have exc : Ex H (upd Hc s' (.lst (S.ss.map wV ++ bt.2.1.map wV))) := ((ge.trans f4b).trans fc).mut ns0
    generalize upd Hc s' (.lst (S.ss.map wV ++ bt.2.1.map wV)) = Hd at bc gsc goc exc ⊢
    have h1d := bc _ _ (by simp [d1s, d1o]) h1
    have gtd := t_but (K := K) bc ls2 (SqT.of gtb)
    have htd := t_but (K := K) bc ls2 (SqT.of ht)
    refine q_ext (l := o') (b := f1') goc h1d (ev_op (ev_var (v := .ref st) rfl) ev_c (rv_ixT gtd rfl)) (ev_op (ev_var (v := .ref t) rfl) ev_c (rv_ixT htd rfl)) (by rw [List.length_map, List.length_map]; omega) fun He fe => ?_
    have be : Bt [s', o'] Hb (upd He o' (.lst (S.os.map wV ++ bt.2.2.map wV))) := (bc.trans (Bt.of_ex fe)).upd (.inl (by simp))
    have gse : (upd He o' (.lst (S.os.map wV ++ bt.2.2.map wV))) s' = some (.lst ((S.ss ++ bt.2.1).map wV)) := by rw [upd_ne nso, List.map_append]; exact fe _ _ gsc
    have goe : (upd He o' (.lst (S.os.map wV ++ bt.2.2.map wV))) o' = some (.lst ((S.os ++ bt.2.2).map wV)) := by rw [upd_same, List.map_append]
    have exe : Ex H (upd He o' (.lst (S.os.map wV ++ bt.2.2.map wV))) := (exc.trans fe).mut no0
    generalize upd He o' (.lst (S.os.map wV ++ bt.2.2.map wV)) = Hf at be gse goe exe ⊢
    have gte : Hf st = some (.tup [.ref s', .ref o']) := be _ _ (by
      simp only [List.mem_cons, List.not_mem_nil, or_false]
      rintro (z | z)
      · rw [z, gsb] at gtb; cases gtb
      · rw [z, gob] at gtb; cases gtb) gtb
    have hte : Hf t = some (.tup [.ref f0, .ref f1', .ref bh]) := be _ _ (by
      simp only [List.mem_cons, List.not_mem_nil, or_false]
      rintro (z | z)
      · rw [z, gsb] at ht; cases ht
      · rw [z, gob] at ht; cases ht) ht
    have hbe := be _ _ (by simp [dbs, dbo]) hb'
    have gle := be _ _ (by simp [c1, c2]) (f4b _ _ gl)
    have gre := be _ _ (by simp [c3, c4]) (f4b _ _ gr)
    have gPe := pv_buts be ls2 (gP.mono f4b)
    have gXe := pv_buts be ls2 (gX.mono f4b)
    refine q_asg (v := .ref bh) (ev_op (ev_var (v := .ref t) rfl) ev_c (rv_ixT (SqT.of hte) rfl)) fun Hg fg => ?_
    refine q_asgL (xs := ul.drop 1) (by
      have z := el_sl (K := K) (σ := (((((([some (.str r.name), some (.ref pm), some (.ref pl), some (.ref pr), some (.ref st), some (.int S.n), v6, v7, v8, v9] : L2.St).set 6 (some vd)).set 7 (some ve)).set 8 (some (.bl wt))).set 9 (some (.ref t))).set 1 (some (.ref bh)))) (H := Hg) (te := tVar 2) (lo := some 1) (hi := none) (ev_var (v := .ref pl) rfl) (eo_some ev_c) eo_none (SqL.of (fg _ _ gle))
      rw [cut_tail] at z
      exact z) fun pl2 Hh nl2 fh hl2 => ?_
    have fgh := fg.trans fh
    have right : ∀ Qr : VK, (∀ (pr2 : Addr) (ur2 : List V) (Hi : Hp), Ex Hh Hi → Hi pr2 = some (.lst ur2) → PV K Hi ur2 (if wt = true then S.r else S.r.tail) → pr2 ≠ s' → pr2 ≠ o' → Qr (.ref pr2) Hi) → (tIf (tB (tVar 8)) (tVar 3) (tSl (rSlL K) (tVar 3) (tPart (tC (.int 1))) tNoPart)) (((((((([some (.str r.name), some (.ref pm), some (.ref pl), some (.ref pr), some (.ref st), some (.int S.n), v6, v7, v8, v9] : L2.St).set 6 (some vd)).set 7 (some ve)).set 8 (some (.bl wt))).set 9 (some (.ref t))).set 1 (some (.ref bh))).set 2 (some (.ref pl2)))) Hh Qr := by
      intro Qr hQ
      refine ⟨_, rfl, wt, rfl, ?_⟩
      cases wt with
      | true => exact ⟨_, rfl, hQ pr ur Hh (Ex.refl _) (fgh _ _ gre) (gXe.mono fgh) c3 c4⟩
      | false =>
        refine ⟨_, rfl, 1, rfl, pr, ur, rfl, SqL.of (fgh _ _ gre), fun pn nn => hQ pn (cutV ur (some 1) none) _ (Ex.new nn) upd_same ?_ (ne_of_none (fgh _ _ gse) nn).symm (ne_of_none (fgh _ _ goe) nn).symm⟩
        rw [cut_tail]
        have z := (((gXe.mono fgh).mono (Ex.new (o := .lst (ur.drop 1)) nn))).drop 1
        rw [List.drop_one] at z
        rw [List.drop_one (l := ur)]
        show PV K _ _ S.r.tail
        rw [List.drop_one] at z
        exact z
    refine right _ fun pr2 ur2 Hi fi hr2 gX2 e1 e2 => ?_
    refine gn ?_
    dsimp only
    have fgi := fgh.trans fi
    refine s_asg (v := .int (S.n + 1)) (ev_op (ev_var (v := .int S.n) rfl) ev_c rv_I0) fun Hj fj => ?_
    have fgj := fgi.trans fj
    rw [eqn] at less fit1 out1
    refine ⟨after S bt wt, bh, pl2, pr2, ul.drop 1, ur2, _, _, _, _, less, rfl, .inr ⟨fgj _ _ hbe, dbs, dbo⟩, fj _ _ (fi _ _ hl2), ?_, fj _ _ hr2, gX2.mono fj, fgj _ _ gse, fgj _ _ goe, fgj _ _ gte, (ne_of_none (fg _ _ gse) nl2).symm, (ne_of_none (fg _ _ goe) nl2).symm, e1, e2, exe.trans fgj, fit1, out1⟩
    have z := (gPe.mono fgj).drop 1
    rw [List.drop_one (l := S.l)] at z
    exact z
  · -- all is done
    have hd : S.done := Decidable.not_not.mp (of_decide_eq_false hb)
    rw [out_done hd] at ho
    have gt4 := f4 _ _ gt
    have fin : ∀ (mt : Addr) (H5 : Hp) (t : Addr), Ex H4 H5 → SqT K H5 mt (S.ws.map wV) → H5 t = none → Q (.ref t) (upd H5 t (.tup [.ref s', .ref o', .ref mt, .int S.n])) := by
      intro mt H5 t f5 hmt nt
      have f6 := Ex.new (o := .tup [.ref s', .ref o', .ref mt, .int S.n]) nt
      refine k _ _ ⟨t, s', o', mt, rfl, ?_, ?_, ?_, ?_, ns0, no0, nso, ((ge.trans f4).trans f5).trans f6⟩
      · rw [← ho]; exact upd_same
      · rw [← ho]; exact f6 _ _ (f5 _ _ (f4 _ _ gs))
      · rw [← ho]; exact f6 _ _ (f5 _ _ (f4 _ _ go))
      · rw [← ho]; exact ex_t f6 hmt
    rcases gm.ex f4 with z | z
    · exact ⟨_, rfl, st, _, 0, _, rfl, rfl, SqT.of gt4, rfl, _, rfl, st, _, 1, _, rfl, rfl, SqT.of gt4, rfl, _, rfl, pm, _, rfl, .inr ⟨z, _, rfl, by show 4 ≤ sizeLine; decide, fun t nt => fin pm H4 t (Ex.refl _) z nt⟩⟩
    · exact ⟨_, rfl, st, _, 0, _, rfl, rfl, SqT.of gt4, rfl, _, rfl, st, _, 1, _, rfl, rfl, SqT.of gt4, rfl, _, rfl, pm, _, rfl, .inl ⟨SqL.of z.1, fun l nl => ⟨_, rfl, by show 4 ≤ sizeLine; decide, fun t nt => fin l _ t (Ex.new nl) (SqT.of upd_same) nt⟩⟩⟩

/-- what run tells, as data -/
def datT (S : Sts) : PyData := .tuple [.list (wD S.ss), .list (wD S.os), .tuple (wD S.ws), .int (S.n : Int)]
theorem Told.dp {H H' : Hp} {v : V} {S : Sts} (h : Told K H H' v S) : Dp K H' v (datT S) := by
  obtain ⟨t, s, o, m, rfl, a2, a3, a4, a5, _⟩ := h
  exact .tup (SqT.of a2) (.cons (.lst (SqL.of a3) (dpa_w _)) (.cons (.lst (SqL.of a4) (dpa_w _)) (.cons (.tup a5 (dpa_w _)) (.cons (.int _) .nil))))
theorem datT_nice {c : Nat} {S : Sts} (h : Fit c 80 S) (hc : c ≤ 4) : Nice 2 (datT S) := by
  have h1 := h.ss
  have h2 := h.os
  have h3 := h.len
  refine .tup (by simp) fun d hd => ?_
  simp only [List.mem_cons, List.not_mem_nil, or_false] at hd
  rcases hd with rfl | rfl | rfl | rfl
  · exact nice_w (by omega)
  · exact nice_w (by omega)
  · exact nice_wT (by omega)
  · exact .int _
def sp_law (K : PySem.W.Frag) : Sp := fun vs H Q _ => ∃ (a : Addr) (ns : List Int), vs = [.ref a] ∧ SqL K H a (ns.map V.int) ∧ ns.length ≤ 63 ∧ ∀ H', Q (.bl true) H'
theorem d_law (T : Nb mg) (D_law_mix : Dn P w K mg base CX0 "_law_mix" ["_law_script", "_law_seed"] 1 (sp_law_mix K)) (D_law_next : Dn P w K mg base CX0 "_law_next" ["_law_h", "_law_many"] 1 sp_law_next) (D_law_memory : Dn P w K mg base CX0 "_law_memory" ["_law_h", "_law_cells"] 2 (sp_law_memory K))
    (D_law_program : Dn P w K mg base CX0 "_law_program" ["_law_h", "_law_cells", "_law_most"] 3 (sp_law_program K)) (D_law_run : Dn P w K mg base CX0 "_law_run" ["_law_rule", "_law_memory_here", "_law_left", "_law_right"] 2 (sp_law_run K)) (D_law_alike : Dn P w K mg base CX0 "_law_alike" ["_law_found", "_law_due"] 4 (sp_law_alike K 3))
    (D_run : Dn P w K mg base CX0 "run" ["rule", "memory", "left", "right"] 6 (sp_run K)) {f : Addr} {fd : FuncData} (F : Fun K "law" "law" s_law f fd) : FnOk P w K mg base CX0 7 f fd ["_law_script"] (sp_law K) := by
  refine F.ok sc_law (fun vs H Q E h => ?_) (fun cdv A outer s H vs Q E hr h => ?_)
  · obtain ⟨_, _, rfl, _⟩ := h
    rfl
  obtain ⟨a, ns, rfl, hS, hn, k⟩ := h
  refine ⟨_, (pss_cons (ps_set (i := 1) sc_law.nd rfl (Or.inl rfl) (pe_dn D_law_mix hr (by omega) pass0 (pa_cons (pv 0) (pa_cons pe_int pa_nil))))
    (pss_cons (ps_for PassesOwn.never rfl (pi_range1 rfl T.n_range (pa_cons pe_int pa_nil)) (pg_name (i := 2) sc_law.nd rfl (Or.inl rfl))
      (pss_cons (ps_set (i := 3) sc_law.nd rfl (Or.inl rfl) (pe_op op_add pe_int (pe_dn D_law_next hr (by omega) pass0 (pa_cons (pv 1) (pa_cons pe_int pa_nil)))))
      (pss_cons (ps_set (i := 4) sc_law.nd rfl (Or.inl rfl) (pe_dn D_law_memory hr (by omega) pass0 (pa_cons (pv 1) (pa_cons (pv 3) pa_nil))))
      (pss_cons (ps_set (i := 5) sc_law.nd rfl (Or.inl rfl) (pe_ix (ix_listK K) (pe_lst (pa_cons pe_int (pa_cons pe_int (pa_cons pe_int pa_nil)))) (pe_dn D_law_next hr (by omega) pass0 (pa_cons (pv 1) (pa_cons pe_int pa_nil))) (fun _ _ => rfl)))
      (pss_cons (ps_par (i := 6) (j := 7) rfl sc_law.nd rfl rfl (by decide) rfl rfl (pa_cons (pe_dn D_law_program hr (by omega) pass0 (pa_cons (pv 1) (pa_cons (pv 3) (pa_cons (pv 5) pa_nil)))) (pa_cons (pe_dn D_law_program hr (by omega) pass0 (pa_cons (pv 1) (pa_cons (pv 3) (pa_cons (pv 5) pa_nil)))) pa_nil)) rfl)
      (pss_cons (ps_set (i := 8) sc_law.nd rfl (Or.inl rfl) (pe_tup (pa_cons (pe_callTy (call_list_ofK K) (by rfl) T.n_list PyProof.Rows.boot_list (pa_cons (pv 6) pa_nil)) (pa_cons (pe_callTy (call_list_ofK K) (by rfl) T.n_list PyProof.Rows.boot_list (pa_cons (pv 7) pa_nil)) pa_nil))))
      (pss_one (ps_for PassesOwn.never rfl (pi_list (pe_lst (pa_cons pe_str (pa_cons pe_str (pa_cons pe_str (pa_cons pe_str (pa_cons pe_str pa_nil))))))) (pg_name (i := 9) sc_law.nd rfl (Or.inl rfl))
        (pss_cons (ps_set (i := 10) sc_law.nd rfl (Or.inl rfl) (pe_dn D_law_run hr (by omega) pass0 (pa_cons (pv 9) (pa_cons (pv 4) (pa_cons (pv 6) (pa_cons (pv 7) pa_nil))))))
        (pss_one (ps_for PassesOwn.never rfl (pi_range1 rfl T.n_range (pa_cons pe_int pa_nil)) (pg_name (i := 11) sc_law.nd rfl (Or.inl rfl))
          (pss_cons (ps_set (i := 12) sc_law.nd rfl (Or.inl rfl) (pe_dn D_run hr (by omega) pass0 (pa_cons (pv 9) (pa_cons (pv 4) (pa_cons (pe_ix (ix_tupK K) (pv 8) pe_int (fun _ _ => rfl)) (pa_cons (pe_ix (ix_tupK K) (pv 8) pe_int (fun _ _ => rfl)) pa_nil))))))
          (pss_cons (ps_if (PW.pt (pw_or (pt_not (pt_val (pe_dn D_law_alike hr (by omega) pass0 (pa_cons (pv 12) (pa_cons (pv 10) pa_nil))))) (pw_or1 (pt_cmpR (op_neDK K rfl hr.units) (pv 8) (pe_tup (pa_cons (pv 6) (pa_cons (pv 7) pa_nil))) (nomark _))))) (pss_one (ps_ret pe_bl)) pss_nil)
          (pss_cons (ps_expr (pe_bm PySem.F.plainAttrs_list PySem.F.slot_list_append PySem.F.type_list_append mt_append (pe_ix (ix_tupK K) (pv 12) pe_int (fun _ _ => rfl)) (pa_cons pe_int pa_nil)))
          (pss_one (ps_expr (pe_bm0 PySem.F.plainAttrs_list PySem.F.slot_list_clear PySem.F.type_list_clear mt_clear (pe_ix (ix_tupK K) (pv 12) pe_int (fun _ _ => rfl)))))))))))))))))))
    (pss_one (ps_ret pe_bl)))), ?_⟩
  refine ⟨_, rfl, a, 5, ns, rfl, hS, hn, fun h l H1 f1 D1 => ?_⟩
  refine gn ?_
  dsimp only
  refine q_forR1 (n := 4) (by walk_at "ea") (by decide) (fun _ σ' H' => ∃ v2 v3 v4 v5 v6 v7 v8 v9 v10 v11 v12 : Option V, σ' = [some (.ref a), some (.ref h), v2, v3, v4, v5, v6, v7, v8, v9, v10, v11, v12] ∧ Draw H' h l)
    (fun H2 f2 => ⟨none, none, none, none, none, none, none, none, none, none, none, rfl, D1.mono f2⟩) ?_ (fun σ' H' ⟨_, _, _, _, _, _, _, _, _, _, _, e, _⟩ => by subst e; exact k _)
  rintro i σ' H2 hi ⟨v2, v3, v4, v5, v6, v7, v8, v9, v10, v11, v12, rfl, D2⟩
  -- cells
  refine ⟨_, rfl, h, l, 4, rfl, D2, by decide, by decide, fun c H3 c0 c1 D3 => ⟨1, c, rfl, rfl, ?_⟩⟩
  refine gn ?_
  dsimp only
  obtain ⟨n, hn1⟩ : ∃ n : Nat, 1 + c = (n : Int) := ⟨(1 + c).toNat, by omega⟩
  rw [hn1]
  have hn0 : 0 < n := by omega
  have hn4 : n ≤ 4 := by omega
  -- the memory
  refine ⟨_, rfl, _, rfl, h, l, n, rfl, D3.dr, hn4, fun pm ws H4 nm hm4 hl4 hs4 D4 => ?_⟩
  refine gn ?_
  dsimp only
  -- how many deeds at most
  refine ⟨by show 3 ≤ sizeLine; decide, fun pt nt => ⟨_, rfl, h, l, 3, rfl, (D4.new (o := .lst [.int 6, .int 12, .int 40]) nt).dr, by decide, by decide, fun z H5 z0 z1 D5 => ?_⟩⟩
  have hpt : H5 pt = some (.lst [.int 6, .int 12, .int 40]) := D5.bt _ _ (D4.dr.out nt) upd_same
  obtain ⟨mo, hmo, hat⟩ : ∃ mo : Nat, mo ≤ 40 ∧ atI ([.int 6, .int 12, .int 40] : List V) z = some (.int (mo : Int)) := by
    have hz : z = 0 ∨ z = 1 ∨ z = 2 := by omega
    rcases hz with rfl | rfl | rfl
    · exact ⟨6, by decide, rfl⟩
    · exact ⟨12, by decide, rfl⟩
    · exact ⟨40, by decide, rfl⟩
  refine ⟨pt, _, z, _, rfl, rfl, SqL.of hpt, hat, ?_⟩
  refine gn ?_
  dsimp only
  have hm5 : SqT K H5 pm (ws.map wV) := (D4.new (o := .lst [.int 6, .int 12, .int 40]) nt).dr.t D5.bt (ex_t (Ex.new nt) (SqT.of hm4))
  -- two programs
  refine ⟨_, rfl, _, rfl, _, rfl, h, l, n, mo, rfl, D5.dr, hn0, hn4, hmo, fun p us ds H6 np hp6 hP6 hl6 hok6 D6 => ⟨_, rfl, _, rfl, _, rfl, h, l, n, mo, rfl, D6.dr, hn0, hn4, hmo, fun q xs es H7 nq hq7 hX7 hl7 hok7 D7 => ⟨_, _, rfl, ?_⟩⟩⟩
  dsimp only
  have hp7 : H7 p = some (.lst us) := D7.bt _ _ (D5.dr.out np) hp6
  have hP7 : PV K H7 us ds := D6.dr.pv D7.bt hP6
  have hm7 : SqT K H7 pm (ws.map wV) := D6.dr.t D7.bt (D5.dr.t D6.bt hm5)
  have D7 := D7.dr
  -- the lists handed in
  refine ⟨_, rfl, p, us, rfl, .inl (SqL.of hp7), fun p2 np2 => ⟨_, rfl, q, xs, rfl, .inl (SqL.of (Ex.new np2 _ _ hq7)), fun q2 nq2 => ⟨by show 2 ≤ sizeLine; decide, fun ph nph => ?_⟩⟩⟩
  refine gn ?_
  dsimp only
  have x1 := Ex.new (H := H7) (o := .lst us) np2
  have x2 := Ex.new (o := .lst xs) nq2
  have x3 := Ex.new (o := .tup [.ref p2, .ref q2]) nph
  have x13 := (x1.trans x2).trans x3
  have hp2 := x3 _ _ (x2 _ _ (upd_same (H := H7) (a := p2) (o := .lst us)))
  have hq2 := x3 _ _ (upd_same (H := upd H7 p2 (.lst us)) (a := q2) (o := .lst xs))
  have hph := upd_same (H := upd (upd H7 p2 (.lst us)) q2 (.lst xs)) (a := ph) (o := .tup [.ref p2, .ref q2])
  generalize upd (upd (upd H7 p2 (.lst us)) q2 (.lst xs)) ph (.tup [.ref p2, .ref q2]) = H8 at x13 hp2 hq2 hph ⊢
  have D8 := D7.mono x13
  have hm8 := ex_t x13 hm7
  have hp8 := x13 _ _ hp7
  have hq8 := x13 _ _ hq7
  have hP8 := hP7.mono x13
  have hX8 := hX7.mono x13
  have okd : ∀ d ∈ ds, d.ok ws.length := by rw [hl4]; exact hok6
  have oke : ∀ d ∈ es, d.ok ws.length := by rw [hl4]; exact hok7
  -- each rule
  refine s_forNL (xs := ruleNames) (el_lst (ea_cons ev_c (ea_cons ev_c (ea_cons ev_c (ea_cons ev_c (ea_cons ev_c ea_nil))))) (by simp [ruleNames])) (fun pr _ σ' H' => ∃ v9 v10 v11 v12 : Option V, σ' = [some (.ref a), some (.ref h), some (.int (i : Int)), some (.int (n : Int)), some (.ref pm), some (.int (mo : Int)), some (.ref p), some (.ref q), some (.ref ph), v9, v10, v11, v12] ∧ Ex H8 H' ∧ H' pr = some (.lst ruleNames))
    (fun pr H9 n9 f9 h9 => ⟨_, _, _, _, rfl, f9, h9⟩) (fun pr i σ' H' _ ⟨_, _, _, _, _, _, h⟩ => SqL.of h) ?_ (fun pr σ' H' ⟨_, _, _, _, e, f, _⟩ => ⟨_, _, _, _, _, _, _, _, _, _, _, e, D8.mono f⟩)
  rintro pr j x σ' H9 hx ⟨v9, v10, v11, v12, rfl, f9, hpr⟩
  obtain ⟨r, rfl⟩ := rule_at hx
  refine gn ?_
  dsimp only
  refine ⟨_, rfl, _, rfl, _, rfl, _, rfl, r, pm, p, q, ws, us, xs, ds, es, rfl, ex_t f9 hm8, hs4, SqL.of (f9 _ _ hp8), hP8.mono f9, by omega, okd, SqL.of (f9 _ _ hq8), hX8.mono f9, by omega, oke, fun vd H10 td => ?_⟩
  refine gn ?_
  dsimp only
  have f10 : Ex H9 H10 := by
    obtain ⟨_, _, _, _, _, _, _, _, _, _, _, _, z⟩ := td
    exact z
  have f810 := f9.trans f10
  have fit : Fit ws.length 80 (out r (begin0 ws ds es)) := by
    have z := fit_out (r := r) (Fit.begin0 (c := ws.length) (ws := ws) (l := ds) (r := es) rfl hs4 okd oke)
    exact ⟨z.len, z.small, z.okl, z.okr, by have := z.ss; omega, by have := z.os; omega, by have := z.n; omega⟩
  have nice := datT_nice fit (by omega)
  refine s_forR1 (n := 2) (by walk_at "ea") (by decide) (fun _ σ' H' => ∃ v11 v12 : Option V, σ' = [some (.ref a), some (.ref h), some (.int (i : Int)), some (.int (n : Int)), some (.ref pm), some (.int (mo : Int)), some (.ref p), some (.ref q), some (.ref ph), some (.str r.name), some vd, v11, v12] ∧ Ex H10 H')
    (fun H11 f11 => ⟨_, _, rfl, f11⟩) ?_ (fun σ' H' ⟨_, _, e, f⟩ => ⟨_, _, _, _, e, f810.trans f, f _ _ (f10 _ _ hpr)⟩)
  rintro tt σ' H11 htt ⟨v11, v12, rfl, f11⟩
  have f811 := f810.trans f11
  refine ⟨_, rfl, _, rfl, _, rfl, ph, _, 0, _, rfl, rfl, SqT.of (f811 _ _ hph), rfl, _, rfl, ph, _, 1, _, rfl, rfl, SqT.of (f811 _ _ hph), rfl, r, pm, p2, q2, ws, us, xs, ds, es, rfl, ex_t f811 hm8, by omega, by omega, hs4, SqL.of (f811 _ _ hp2), hP8.mono f811, by omega, okd, SqL.of (f811 _ _ hq2), hX8.mono f811, by omega, oke, fun vf H12 tf => ?_⟩
  refine gn ?_
  dsimp only
  have dpf := tf.dp
  obtain ⟨t', s', o', m', rfl, b2, b3, b4, b5, b6, b7, b8, b9⟩ := tf
  have f1012 := f11.trans b9
  have f812 := f811.trans b9
  have al := sp_law_alike_v (K := K) dpf (dp_mono f1012 _ _ td.dp) nice
  refine q_when (b := false) (et_is (et_or (a := false) (b := false) (et_is (et_not (et_B (ev_call (ea_cons (ev_var (v := .ref t') rfl) (ea_cons (ev_var (v := vd) rfl) ea_nil)) al))) rfl) (fun _ => et_test (ev_is (ev_opU (ev_var (v := .ref ph) rfl) (eu_tup (ea_cons (ev_var (v := .ref p) rfl) (ea_cons (ev_var (v := .ref q) rfl) ea_nil)) (by simp)) (fun pt H13 h13 f13 => rv_neD (n := 3) (m := 3) (d := .tuple [.list (ds.map fun d => .tuple d.dat), .list (es.map fun d => .tuple d.dat)]) (e := .tuple [.list (ds.map fun d => .tuple d.dat), .list (es.map fun d => .tuple d.dat)])
      (.tup (SqT.of (f13 _ _ (f812 _ _ hph))) (.cons (PV.dp (SqL.of (f13 _ _ (f812 _ _ hp2))) ((hP8.mono f812).mono f13)) (.cons (PV.dp (SqL.of (f13 _ _ (f812 _ _ hq2))) ((hX8.mono f812).mono f13)) .nil)))
      (.tup (SqT.of h13) (.cons (PV.dp (SqL.of (f13 _ _ (f812 _ _ hp8))) ((hP8.mono f812).mono f13)) (.cons (PV.dp (SqL.of (f13 _ _ (f812 _ _ hq8))) ((hX8.mono f812).mono f13)) .nil))) (sh_two ds es) (sh_two ds es) (by decide) (by decide))) (by rw [(sh_two ds es).eqv]; rfl)))) rfl) (fun z => nomatch z) (fun _ H13 f13 => ?_)
  refine q_app (l := s') (v := .int 9) (f13 _ _ b3) (ev_op (ev_var (v := .ref t') rfl) ev_c (rv_ixT (SqT.of (f13 _ _ b2)) rfl)) ev_c (by rw [List.length_map]; have := fit.ss; omega) fun H14 f14 => ?_
  have g1 : Ex H10 (upd H14 s' (.lst ((out r (begin0 ws ds es)).ss.map wV ++ [.int 9]))) := ((f1012.trans f13).trans f14).mut (fresh_back f11 b6)
  have h4 : (upd H14 s' (.lst ((out r (begin0 ws ds es)).ss.map wV ++ [.int 9]))) o' = some (.lst ((out r (begin0 ws ds es)).os.map wV)) := by rw [upd_ne b8.symm]; exact f14 _ _ (f13 _ _ b4)
  have h2 : (upd H14 s' (.lst ((out r (begin0 ws ds es)).ss.map wV ++ [.int 9]))) t' = some (.tup [.ref s', .ref o', .ref m', .int (out r (begin0 ws ds es)).n]) := by
    rw [upd_ne (ne_of b2 b3 (by intro z; cases z))]
    exact f14 _ _ (f13 _ _ b2)
  exact s_clear (l := o') h4 (ev_op (ev_var (v := .ref t') rfl) ev_c (rv_ixT (SqT.of h2) rfl)) fun H15 f15 => ⟨_, _, rfl, (g1.trans f15).mut (fresh_back f11 b7)⟩

theorem all_mk {l : PySem.W.OpenLaw} {w : World} {K : PySem.W.Frag} {h : Heap} {mg : Str → Option Value} {fa f : Addr} {aR aW aRU aST : Addr} {t4 t40 : Tok} {od an : Option Addr} {sl : Array (Option Value)} {oc kV dc pm cd ct : Value}
    (X : K.In h) (G : h.Ns mainGlobals mg) (hfa : mg "law" = some (.ref fa)) (T : Nb mg) (TP : TxP K mg aR aW t4 t40) (TR : TxR K mg w aRU aST)
    (aL : PySem.W.nsIn K mainGlobals "law" = some (some (.ref f))) (lL : K.lookup f = some ⟨oc, od, .func (PySem.W.fnOf "law" "law" (defArgs s_law) (defBody s_law) (defScope s_law) .none kV dc pm an cd ct), sl⟩) (cL : PySem.W.codeIn K cd "law" = true) (kL : PySem.W.keepIn K (.ref f) = true)
    (h_is_whole : Has K mg "is_whole" s_is_whole) (h_is_cell : Has K mg "is_cell" s_is_cell) (h_is_worth : Has K mg "is_worth" s_is_worth) (h_is_deed : Has K mg "is_deed" s_is_deed) (h_check_cells : Has K mg "check_cells" s_check_cells) (h_check_memory : Has K mg "check_memory" s_check_memory) (h_check_program : Has K mg "check_program" s_check_program) (h_check_programs : HasD K mg "check_programs" s_check_programs [.int 40]) (h_clash : Has K mg "clash" s_clash) (h_read_cell : Has K mg "read_cell" s_read_cell) (h_write_cell : Has K mg "write_cell" s_write_cell) (h_write_both : Has K mg "write_both" s_write_both) (h_step_old : Has K mg "step_old" s_step_old) (h_step_new : Has K mg "step_new" s_step_new) (h_step_left : Has K mg "step_left" s_step_left) (h_step_right : Has K mg "step_right" s_step_right) (h_check_rule : Has K mg "check_rule" s_check_rule) (h_due : Has K mg "due" s_due) (h_play : Has K mg "play" s_play) (h_run : Has K mg "run" s_run) (h_law_mix : Has K mg "_law_mix" s_law_mix) (h_law_next : Has K mg "_law_next" s_law_next) (h_law_alike : Has K mg "_law_alike" s_law_alike) (h_law_deed : Has K mg "_law_deed" s_law_deed) (h_law_program : Has K mg "_law_program" s_law_program) (h_law_memory : Has K mg "_law_memory" s_law_memory) (h_law_meet : Has K mg "_law_meet" s_law_meet) (h_law_at : Has K mg "_law_at" s_law_at) (h_law_beat : Has K mg "_law_beat" s_law_beat) (h_law_run : Has K mg "_law_run" s_law_run) :
    ∃ fd : FuncData, (∀ (s : Shared) (v : Value), BindsTo s fd ⟨[v], []⟩ [("_law_script", v)]) ∧ ∀ base : Heap, K.In base → base.Ns mainGlobals mg → FnOk l.prog w K mg base CX0 7 fa fd ["_law_script"] (sp_law K) := by
  have e := hfa.symm.trans (PySem.W.mg_of X G aL)
  cases e
  have F := fun_mk (st := s_law) lL cL kL
  refine ⟨PySem.W.fnOf "law" "law" (defArgs s_law) (defBody s_law) (defScope s_law) .none kV dc pm an cd ct, fun s v => .of_eq rfl, fun base _ _ => ?_⟩
  · have w1 := d_is_whole (P := l.prog) (w := w) (base := base) T h_is_whole
    have w2 := d_is_cell w1 h_is_cell
    have w3 := d_is_worth TP w1 h_is_worth
    have w4 := d_is_deed T TP w2 w3 h_is_deed
    have w5 := d_check_cells TP w1 h_check_cells
    have w6 := d_check_memory T w5 w3 h_check_memory
    have w7 := d_check_program T TP w4 h_check_program
    have w8 := d_check_programs w7 h_check_programs
    have w9 := d_clash (P := l.prog) (w := w) (base := base) TP h_clash
    have w10 := d_read_cell (P := l.prog) (w := w) (base := base) h_read_cell
    have w11 := d_write_cell (P := l.prog) (w := w) (base := base) h_write_cell
    have w12 := d_write_both w11 h_write_both
    have w13 := d_step_old w10 w11 w12 h_step_old
    have w14 := d_step_new w10 w11 w12 h_step_new
    have w15 := d_step_left w10 w11 w12 h_step_left
    have w16 := d_step_right w15 h_step_right
    have w17 := d_check_rule (P := l.prog) (base := base) TR h_check_rule
    have w18 := d_due (P := l.prog) (w := w) (base := base) T TP h_due
    have w19 := d_play T TP TR w18 w9 w13 w14 w15 w16 h_play
    have w20 := d_run T w17 w6 w8 w19 h_run
    have v1 := d_law_mix (P := l.prog) (w := w) (base := base) T h_law_mix
    have v2 := d_law_next (P := l.prog) (w := w) (base := base) T h_law_next
    have v3 := d_law_deed T v2 h_law_deed
    have v4 := d_law_program T v2 v3 h_law_program
    have v5 := d_law_memory T v2 h_law_memory
    have v6 := d_law_alike (P := l.prog) (w := w) (base := base) T h_law_alike 3
    have v7 := d_law_meet (P := l.prog) (w := w) (base := base) T h_law_meet
    have v8 := d_law_at (P := l.prog) (w := w) (base := base) h_law_at
    have v9 := d_law_beat (P := l.prog) (w := w) (base := base) T h_law_beat
    have v10 := d_law_run T v8 v7 v9 h_law_run
    exact d_law T v1 v2 v5 v4 v10 v6 w20 F
theorem walk {l : PySem.W.OpenLaw} {q : Program} {loose : List Str} {XP : (Str → Option Value) → Heap → Prop} {YP : World → Heap → Prop} {d : DefRec} {K : Params → PySem.W.Frag} (hn : l.most = some 63) (hdf : d.params.defaults = [])
    (hY : ∀ (w : World) (h : Heap), YP w h → (K w.params).In h)
    (F : ∀ (w : World) (mg : Str → Option Value) (fa : Addr) (h : Heap), (K w.params).In h → h.Ns mainGlobals mg → mg d.name = some (.ref fa) →
      ∃ fd : FuncData, (∀ (s : Shared) (u : Value), BindsTo s fd ⟨[u], []⟩ [("_law_script", u)]) ∧ ∀ base : Heap, (K w.params).In base → base.Ns mainGlobals mg → FnOk l.prog w (K w.params) mg base CX0 7 fa fd ["_law_script"] (sp_law (K w.params))) :
    PySem.W.WalkO q loose XP YP l.row.toRowW d [] (fun f vs => PySem.call f vs) :=
  L2.walk_of (n := 63) (k := 7) (x := "_law_script") (CX := fun _ => CX0) (sp := fun w => sp_law (K w.params)) hn (by decide) hdf ⟨rfl, by decide, by decide⟩ hY F (fun _ _ a ns hl _ hS => ⟨a, ns, rfl, hS, hl, fun _ => rfl⟩) fun _ _ _ _ _ z => z

end
end Db

open PySem PySem.W PyProof.Rows
set_option maxRecDepth 100000 in
set_option maxHeartbeats 0 in
theorem PySem.Challenge.cw_doorbeat_k02_whole_run_by_rules_holds : PySem.Challenge.rw_doorbeat_k02_whole_run_by_rules.Holds := by
  w_on; o_law; k_head; (case hw => w_witness2)
  k_fill
  refine Db.walk (l := PySem.Challenge.rw_doorbeat_k02_whole_run_by_rules) rfl rfl (fun w h Y => PySem.W.kIn_of Y) ?F
  case F =>
    intro w mg fa h KX G hmg
    refine' Db.all_mk KX G hmg ?T ?TP ?TR ?aL ?lL ?cL ?kL ?h_is_whole ?h_is_cell ?h_is_worth ?h_is_deed ?h_check_cells ?h_check_memory ?h_check_program ?h_check_programs ?h_clash ?h_read_cell ?h_write_cell ?h_write_both ?h_step_old ?h_step_new ?h_step_left ?h_step_right ?h_check_rule ?h_due ?h_play ?h_run ?h_law_mix ?h_law_next ?h_law_alike ?h_law_deed ?h_law_program ?h_law_memory ?h_law_meet ?h_law_at ?h_law_beat ?h_law_run
    case T => refine' Db.nb_mk KX G ?b1 ?b2 ?b3 ?b4 ?b5 ?b6 ?b7 ?b8 ?b9 ?b10 ?b11 ?b12 <;> k_is
    case TP => (refine' Db.txp_mk KX G ?a1 ?l1 ?a2 ?l2 ?c4 ?c40; (case a1 => k_is); (case l1 => k_is); (case a2 => k_is); (case l2 => k_is); (case c4 => k_is); (case c40 => k_is))
    case TR => (refine' Db.txr_mk KX G ?a1 ?l1 ?a2 ?l2 ?kl ?g1 ?g2 ?g3 ?g4 ?k1 ?k2 ?k3 ?k4 ?k5; (case a1 => k_is); (case l1 => k_is); (case a2 => k_is); (case l2 => k_is); (case kl => exact ⟨⟨_, _, rfl, rfl⟩, ⟨_, _, rfl, rfl⟩, ⟨_, _, rfl, rfl⟩, ⟨_, _, rfl, rfl⟩, ⟨_, _, rfl, rfl⟩, True.intro⟩); (case g1 => k_is); (case g2 => k_is); (case g3 => k_is); (case g4 => k_is); (case k1 => k_is); (case k2 => k_is); (case k3 => k_is); (case k4 => k_is); (case k5 => k_is))
    (case aL => k_is)
    (case lL => k_is)
    (case cL => k_is)
    (case kL => k_is)
    case h_is_whole => (refine' Db.has_mk KX G ?a ?l ?c ?k; (case a => k_is); (case l => k_is); (case c => k_is); (case k => k_is))
    case h_is_cell => (refine' Db.has_mk KX G ?a ?l ?c ?k; (case a => k_is); (case l => k_is); (case c => k_is); (case k => k_is))
    case h_is_worth => (refine' Db.has_mk KX G ?a ?l ?c ?k; (case a => k_is); (case l => k_is); (case c => k_is); (case k => k_is))
    case h_is_deed => (refine' Db.has_mk KX G ?a ?l ?c ?k; (case a => k_is); (case l => k_is); (case c => k_is); (case k => k_is))
    case h_check_cells => (refine' Db.has_mk KX G ?a ?l ?c ?k; (case a => k_is); (case l => k_is); (case c => k_is); (case k => k_is))
    case h_check_memory => (refine' Db.has_mk KX G ?a ?l ?c ?k; (case a => k_is); (case l => k_is); (case c => k_is); (case k => k_is))
    case h_check_program => (refine' Db.has_mk KX G ?a ?l ?c ?k; (case a => k_is); (case l => k_is); (case c => k_is); (case k => k_is))
    case h_check_programs => (refine' Db.hasD_mk KX G ?a ?l ?c ?k ?t; (case a => k_is); (case l => k_is); (case c => k_is); (case k => k_is); (case t => k_is))
    case h_clash => (refine' Db.has_mk KX G ?a ?l ?c ?k; (case a => k_is); (case l => k_is); (case c => k_is); (case k => k_is))
    case h_read_cell => (refine' Db.has_mk KX G ?a ?l ?c ?k; (case a => k_is); (case l => k_is); (case c => k_is); (case k => k_is))
    case h_write_cell => (refine' Db.has_mk KX G ?a ?l ?c ?k; (case a => k_is); (case l => k_is); (case c => k_is); (case k => k_is))
    case h_write_both => (refine' Db.has_mk KX G ?a ?l ?c ?k; (case a => k_is); (case l => k_is); (case c => k_is); (case k => k_is))
    case h_step_old => (refine' Db.has_mk KX G ?a ?l ?c ?k; (case a => k_is); (case l => k_is); (case c => k_is); (case k => k_is))
    case h_step_new => (refine' Db.has_mk KX G ?a ?l ?c ?k; (case a => k_is); (case l => k_is); (case c => k_is); (case k => k_is))
    case h_step_left => (refine' Db.has_mk KX G ?a ?l ?c ?k; (case a => k_is); (case l => k_is); (case c => k_is); (case k => k_is))
    case h_step_right => (refine' Db.has_mk KX G ?a ?l ?c ?k; (case a => k_is); (case l => k_is); (case c => k_is); (case k => k_is))
    case h_check_rule => (refine' Db.has_mk KX G ?a ?l ?c ?k; (case a => k_is); (case l => k_is); (case c => k_is); (case k => k_is))
    case h_due => (refine' Db.has_mk KX G ?a ?l ?c ?k; (case a => k_is); (case l => k_is); (case c => k_is); (case k => k_is))
    case h_play => (refine' Db.has_mk KX G ?a ?l ?c ?k; (case a => k_is); (case l => k_is); (case c => k_is); (case k => k_is))
    case h_run => (refine' Db.has_mk KX G ?a ?l ?c ?k; (case a => k_is); (case l => k_is); (case c => k_is); (case k => k_is))
    case h_law_mix => (refine' Db.has_mk KX G ?a ?l ?c ?k; (case a => k_is); (case l => k_is); (case c => k_is); (case k => k_is))
    case h_law_next => (refine' Db.has_mk KX G ?a ?l ?c ?k; (case a => k_is); (case l => k_is); (case c => k_is); (case k => k_is))
    case h_law_alike => (refine' Db.has_mk KX G ?a ?l ?c ?k; (case a => k_is); (case l => k_is); (case c => k_is); (case k => k_is))
    case h_law_deed => (refine' Db.has_mk KX G ?a ?l ?c ?k; (case a => k_is); (case l => k_is); (case c => k_is); (case k => k_is))
    case h_law_program => (refine' Db.has_mk KX G ?a ?l ?c ?k; (case a => k_is); (case l => k_is); (case c => k_is); (case k => k_is))
    case h_law_memory => (refine' Db.has_mk KX G ?a ?l ?c ?k; (case a => k_is); (case l => k_is); (case c => k_is); (case k => k_is))
    case h_law_meet => (refine' Db.has_mk KX G ?a ?l ?c ?k; (case a => k_is); (case l => k_is); (case c => k_is); (case k => k_is))
    case h_law_at => (refine' Db.has_mk KX G ?a ?l ?c ?k; (case a => k_is); (case l => k_is); (case c => k_is); (case k => k_is))
    case h_law_beat => (refine' Db.has_mk KX G ?a ?l ?c ?k; (case a => k_is); (case l => k_is); (case c => k_is); (case k => k_is))
    case h_law_run => (refine' Db.has_mk KX G ?a ?l ?c ?k; (case a => k_is); (case l => k_is); (case c => k_is); (case k => k_is))
