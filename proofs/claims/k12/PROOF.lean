import PyProof.Rows.All
import Wide.All
import OpenK.AllK
import Wide.FinOn
import HandS.ForMost
import HandS.Evl
import HandS.Wide
import HandS.IsInst
import HandS.CallLocal
import HandS.Defaults
import HandS.Walk
import HandS.More
import KE.KDictZip
import HandS.Star
import HandS.Text
import PyProof.Draws
import PyProof.StrOps2
import PyProof.Rows.StrMul
import PyProof.Rows.RegReprOcc
import PyProof.StrLawsTight
import PyProof.StrLawsChain
import HandS.FStr
import HandS.DictComp
import HandS.Dict
import HandS.ExcInit
import HandS.ExcField
import HandS.ExcIs
import HandS.WordsExc
import OpenK.KCls
import KE.KExcIs
import HandS.Lambda
import HandS.DictSub
import HandS.Style
import PySem.Challenge.RW_doorbeat_k12_texts_that_tell_no_programs
set_option Elab.async false
set_option linter.all false
set_option maxRecDepth 100000
set_option maxHeartbeats 4000000
namespace Db
open PySem L2 Evl

/-! ### a def of the text by its name -/
structure Has (K : PySem.W.Frag) (mg : Str → Option Value) (x : Str) (st : Stmt) : Prop where
  ex : ∃ f fd, Fun K x x st f fd ∧ mg x = some (.ref f)
structure Dn (P : Program) (w : World) (K : PySem.W.Frag) (mg : Str → Option Value) (base : Heap) (CX : CXT) (x : Str) (ps : List Str) (k : Nat) (sp : Sp) : Prop where
  ex : ∃ f fd, FnOk P w K mg base CX k f fd ps sp ∧ mg x = some (.ref f) ∧ PySem.W.keepIn K (.ref f) = true ∧ Binds K fd ps []
theorem dn_of {P : Program} {w : World} {K : PySem.W.Frag} {mg : Str → Option Value} {base : Heap} {CX : CXT} {x : Str} {ps : List Str} {k : Nat} {sp : Sp} {st : Stmt} (h : Has K mg x st)
    (hb : ∀ f fd, Fun K x x st f fd → Binds K fd ps []) (hf : ∀ f fd, Fun K x x st f fd → mg x = some (.ref f) → FnOk P w K mg base CX k f fd ps sp) : Dn P w K mg base CX x ps k sp := by
  obtain ⟨f, fd, F, hm⟩ := h.ex
  exact ⟨f, fd, hf f fd F hm, hm, F.kp, hb f fd F⟩
theorem has_mk {K : PySem.W.Frag} {h : Heap} {mg : Str → Option Value} {x : Str} {st : Stmt} {f : Addr} {oc : Value} {od an : Option Addr} {osl : Array (Option Value)} {kV doc pm cdv ct : Value} (X : K.In h) (G : h.Ns mainGlobals mg)
    (a : PySem.W.nsIn K mainGlobals x = some (some (.ref f)))
    (l : K.lookup f = some ⟨oc, od, .func (PySem.W.fnOf x x (defArgs st) (defBody st) (defScope st) .none kV doc pm an cdv ct), osl⟩)
    (c : PySem.W.codeIn K cdv x = true) (k : PySem.W.keepIn K (.ref f) = true) : Has K mg x st := ⟨f, _, fun_mk l c k, PySem.W.mg_of X G a⟩
section
variable {X : Cx}
theorem pe_dn {CX : CXT} {x : Str} {ps : List Str} {k j : Nat} {sp : Sp} {E : XK} {e : Expr} {es : List Expr} {t : TA} {p pos : Pos} (h : Dn X.prog X.w X.K X.mg X.base CX x ps k sp) (hr : Room j X.A) (hk : k ≤ j) (hx : Passes CX X E)
    (ha : PA X (e :: es) t) (hg : Gl X x := by rfl) (hdb : (x == ("__debug__" : Str)) = false := by decide) (he : starEach (e :: es) X.env = (false, eval e X.env) :: starEach es X.env := by rfl)
    (hpl : (backTo pos (starEach es X.env)).any (·.1) = false := by rfl) : PE X (.Call (.Name x p) (e :: es) [] pos) (tCall sp [] E t) := by
  obtain ⟨f, fd, F, hm, kp, b⟩ := h.ex
  exact pe_call F (hr.mono hk) hg hm kp b .nil hx ha hdb he hpl
end

/-- names of the built-ins that no def or constant hides -/
structure Nb (mg : Str → Option Value) : Prop where
  n_len : mg "len" = none
  n_isinstance : mg "isinstance" = none
  n_max : mg "max" = none
  n_min : mg "min" = none
  n_range : mg "range" = none
  n_enumerate : mg "enumerate" = none
  n_zip : mg "zip" = none
  n_list : mg "list" = none
  n_tuple : mg "tuple" = none
  n_int : mg "int" = none
  n_bool : mg "bool" = none
  n_str : mg "str" = none
/-! ### a def that only looks: R of the arguments, the heap, the value -/
def spF (n : Nat) (R : List V → Hp → V → Prop) : Sp := fun vs H Q _ => vs.length = n ∧ ∃ v, R vs H v ∧ ∀ H', Ex H H' → Q v H'
theorem spF_v {n : Nat} {R : List V → Hp → V → Prop} {vs : List V} {H : Hp} {v : V} (hl : vs.length = n) (h : ∀ H1, Ex H H1 → R vs H1 v) : SpV (spF n R) vs H v := fun H1 e Q q _ => ⟨hl, v, h H1 e, q⟩

/-! ### deeds -/
inductive Deed where
  | rd (c : Nat) | wr (c w : Nat) | rs
  deriving DecidableEq
def Deed.vals : Deed → List V
  | .rd c => [.str "read", .int (c : Int)]
  | .wr c w => [.str "write", .int (c : Int), .int (w : Int)]
  | .rs => [.str "rest"]
def Deed.ok (n : Nat) : Deed → Prop
  | .rd c => c < n
  | .wr c w => c < n ∧ w < 3
  | .rs => True
def Deed.ok.mono {n m : Nat} (h : n ≤ m) : ∀ {d : Deed}, d.ok n → d.ok m
  | .rd _, x => Nat.lt_of_lt_of_le (show _ < n from x) h
  | .wr _ _, x => ⟨Nat.lt_of_lt_of_le x.1 h, x.2⟩
  | .rs, _ => True.intro
/-- the value v is the deed d -/
def DV (K : PySem.W.Frag) (H : Hp) (v : V) (d : Deed) : Prop := ∃ a, v = .ref a ∧ SqT K H a d.vals
theorem DV.mono {K : PySem.W.Frag} {H H' : Hp} {v : V} {d : Deed} (e : Ex H H') (h : DV K H v d) : DV K H' v d := by
  obtain ⟨a, h1, h2⟩ := h
  exact ⟨a, h1, ex_t e h2⟩
def Deed.dat : Deed → List PyData
  | .rd c => [.str "read", .int (c : Int)]
  | .wr c w => [.str "write", .int (c : Int), .int (w : Int)]
  | .rs => [.str "rest"]
theorem DV.dp {K : PySem.W.Frag} {H : Hp} {v : V} {d : Deed} (h : DV K H v d) : Dp K H v (.tuple d.dat) := by
  obtain ⟨a, rfl, h2⟩ := h
  cases d with
  | rd c => exact .tup h2 (.cons (.str _) (.cons (.int _) .nil))
  | wr c w => exact .tup h2 (.cons (.str _) (.cons (.int _) (.cons (.int _) .nil)))
  | rs => exact .tup h2 (.cons (.str _) .nil)
/-- data of no more than n levels, laid out as the library wants it -/
structure Sh (n : Nat) (d : PyData) : Prop where
  lay : d.canLay0 = true
  dep : d.depth ≤ n
theorem Sh.mono {n m : Nat} {d : PyData} (h : Sh n d) (l : n ≤ m) : Sh m d := ⟨h.lay, Nat.le_trans h.dep l⟩
theorem Sh.shaped {n : Nat} {d : PyData} (h : Sh n d) (l : n ≤ 64) : SeqAt.shaped d = true := by
  unfold SeqAt.shaped
  rw [h.lay, decide_eq_true (Nat.le_trans h.dep l)]
  rfl
theorem sh_int {n : Nat} {i : Int} : Sh n (.int i) := ⟨by simp [PyData.canLay0], by simp [PyData.depth]⟩
theorem sh_bool {n : Nat} {i : Bool} : Sh n (.bool i) := ⟨by simp [PyData.canLay0], by simp [PyData.depth]⟩
theorem sh_none {n : Nat} : Sh n .none := ⟨by simp [PyData.canLay0], by simp [PyData.depth]⟩
theorem sh_str {n : Nat} {x : Str} (h : PyData.strOk x = true) : Sh n (.str x) := ⟨by simpa [PyData.canLay0] using h, by simp [PyData.depth]⟩
theorem sh_all {n : Nat} : ∀ {ds : List PyData}, (∀ d ∈ ds, Sh n d) → PyData.canLayAll0 ds = true ∧ PyData.depthAll ds ≤ n
  | [], _ => ⟨by simp [PyData.canLayAll0], by simp [PyData.depthAll]⟩
  | d :: r, h => by
    have h1 := h d List.mem_cons_self
    have h2 := sh_all (ds := r) fun x hx => h x (List.mem_cons_of_mem _ hx)
    refine ⟨?_, ?_⟩
    · rw [PyData.canLayAll0, h1.lay, h2.1]
      rfl
    · rw [PyData.depthAll]
      exact Nat.max_le.mpr ⟨h1.dep, h2.2⟩
theorem sh_tup {n : Nat} {ds : List PyData} (h : ∀ d ∈ ds, Sh n d) : Sh (n + 1) (.tuple ds) := by
  have q := sh_all h
  refine ⟨?_, ?_⟩
  · rw [PyData.canLay0]
    exact q.1
  · rw [PyData.depth]
    exact Nat.succ_le_succ q.2
theorem sh_lst {n : Nat} {ds : List PyData} (h : ∀ d ∈ ds, Sh n d) : Sh (n + 1) (.list ds) := by
  have q := sh_all h
  refine ⟨?_, ?_⟩
  · rw [PyData.canLay0]
    exact q.1
  · rw [PyData.depth]
    exact Nat.succ_le_succ q.2
theorem sh_ints (ns : List Int) : Sh 1 (.list (ns.map PyData.int)) := sh_lst fun d hd => by
  obtain ⟨n, _, rfl⟩ := List.mem_map.mp hd
  exact sh_int
theorem dpa_ints {K : PySem.W.Frag} {H : Hp} : ∀ ns : List Int, DpAll K H (ns.map V.int) (ns.map PyData.int)
  | [] => .nil
  | n :: r => .cons (.int n) (dpa_ints r)
theorem Sh.eqv {n : Nat} {d : PyData} (h : Sh n d) : PyData.eqv d d = true := SeqAt.eqv_refl d h.lay
theorem sk_read : PyData.strOk "read" = true := by decide +kernel
theorem sk_write : PyData.strOk "write" = true := by decide +kernel
theorem sk_rest : PyData.strOk "rest" = true := by decide +kernel
theorem Deed.sh (d : Deed) : Sh 1 (.tuple d.dat) := by
  cases d with
  | rd c => exact sh_tup (by simp only [Deed.dat, List.mem_cons, List.not_mem_nil, or_false]; rintro d (rfl | rfl) <;> first | exact sh_str sk_read | exact sh_int)
  | wr c w => exact sh_tup (by simp only [Deed.dat, List.mem_cons, List.not_mem_nil, or_false]; rintro d (rfl | rfl | rfl) <;> first | exact sh_str sk_write | exact sh_int)
  | rs => exact sh_tup (by simp only [Deed.dat, List.mem_cons, List.not_mem_nil, or_false]; rintro d rfl; exact sh_str sk_rest)
theorem Deed.eqv_rs (d : Deed) : PyData.eqv (.tuple d.dat) (.tuple Deed.rs.dat) = decide (d = .rs) := by
  cases d with
  | rd c => simp [Deed.dat, PyData.eqv, PyData.eqvAll]
  | wr c w => simp [Deed.dat, PyData.eqv, PyData.eqvAll]
  | rs => simp [Deed.dat, PyData.eqv, PyData.eqvAll]
/-- a program: its values, its deeds -/
def PV (K : PySem.W.Frag) (H : Hp) (vs : List V) (ds : List Deed) : Prop := Paired (DV K H) vs ds

/-! ### evaluation, some more -/
section
variable {K : PySem.W.Frag} {σ : L2.St} {H H' : Hp} {ta tb te tx : TE} {t u : TT} {x y z v : V}
theorem rc_len {p : Addr} {xs : List V} (h : SqL K H p xs ∨ SqT K H p xs) : RC (rLenS K) [.ref p] H (.int (xs.length : Int)) := fun H1 e _ q => ⟨p, xs, rfl, h.imp (ex_l e) (ex_t e), q H1 (Ex.refl H1)⟩
theorem rc_lenL {p : Addr} {xs : List V} (h : SqL K H p xs) : RC (rLenS K) [.ref p] H (.int (xs.length : Int)) := rc_len (.inl h)
theorem rc_lenT {p : Addr} {xs : List V} (h : SqT K H p xs) : RC (rLenS K) [.ref p] H (.int (xs.length : Int)) := rc_len (.inr h)
theorem rc_max {i j : Int} : RC rMax2 [.int i, .int j] H (.int (if j > i then j else i)) := fun H1 _ _ q => ⟨i, j, rfl, q H1 (Ex.refl H1)⟩
/-- a value's type that stays -/
def TyS (K : PySem.W.Frag) (H : Hp) (x : V) (t : Value) : Prop := ∀ H1, Ex H H1 → TyX K H1 x t
theorem tys_int {i : Int} : TyS K H (.int i) (.type "int") := fun _ _ => .base (.int i)
theorem tys_str {i : Str} : TyS K H (.str i) (.type "str") := fun _ _ => .base (.str i)
theorem tys_bl {i : Bool} : TyS K H (.bl i) (.type "bool") := fun _ _ => .base (.bl i)
theorem tys_non : TyS K H .non (.type "NoneType") := fun _ _ => .base .non
theorem tys_tup {a : Addr} {xs : List V} (h : SqT K H a xs) : TyS K H (.ref a) (.type "tuple") := fun H1 e => by
  rcases ex_t e h with (h | ⟨o, h⟩) | ⟨o, its, n, h, c, _⟩
  · exact .base (.tup h)
  · exact .fTuple h
  · exact .kTuple h c
theorem tys_lst {a : Addr} {xs : List V} (h : SqL K H a xs) : TyS K H (.ref a) (.type "list") := fun H1 e => by
  rcases ex_l e h with (h | ⟨o, h⟩) | ⟨o, its, n, h, c, _⟩
  · exact .base (.lst h)
  · exact .base (.frz h)
  · exact .kList h c
theorem rc_isi {c : String} {t : Value} {b : Bool} (h : TyS K H x t) (k : PySem.W.kitOne K t (.type c) = some b) : RC (rIsi K) [x, .ty c] H (.bl b) := fun H1 e _ q => ⟨x, .ty c, t, .type c, b, rfl, .ty c, h H1 e, k, q H1 (Ex.refl H1)⟩
theorem rc_isiB {c d : String} {b : Bool} (h : TyS K H x (.type d)) (k : kitB d c = some b) : RC (rIsi K) [x, .ty c] H (.bl b) := rc_isi h (kit_ty k)
/-- isinstance(x, (c, d)) -/
theorem ev_isi2 {c d f : String} {b1 b2 : Bool} (hx : Ev te σ H x) (h : TyS K H x (.type f)) (k1 : kitB f c = some b1) (k2 : kitB f d = some b2) :
    Ev (tCB (rIsiT K) (tCons te (tCons (tTup (tCons (tC (.ty c)) (tCons (tC (.ty d)) tNil))) tNil))) σ H (.bl (b1 || b2)) := fun H1 e Q q =>
  hx H1 e _ fun H2 e2 => ⟨by show 2 ≤ sizeLine; decide, fun p hp => ⟨x, p, [.ty c, .ty d], .type f, [.type c, .type d], b1 || b2, rfl, upd_same, .cons (.ty c) (.cons (.ty d) .nil), h _ ((e.trans e2).trans (Ex.new hp)),
    kitAny_cons (kit_ty k1) (fun h1 => kitAny_cons (kit_ty k2) (fun h2 => by rw [h1, h2]; exact kitAny_nil) (fun h2 => by rw [h2]; cases b1 <;> rfl)) (fun h1 => by rw [h1]; rfl), q _ (e2.trans (Ex.new hp))⟩⟩
/-! == and != of data -/
mutual
theorem dp_mono (e : Ex H H') : ∀ (d : PyData) (v : V), Dp K H v d → Dp K H' v d
  | .none, _, h => by cases h; exact .non
  | .bool b, _, h => by cases h; exact .bl b
  | .int i, _, h => by cases h; exact .int i
  | .str x, _, h => by cases h; exact .str x
  | .list ds, _, h => by
    cases h with
    | lst q r => exact .lst (ex_l e q) (dpAll_mono e ds _ r)
  | .tuple ds, _, h => by
    cases h with
    | tup q r => exact .tup (ex_t e q) (dpAll_mono e ds _ r)
  | .dict kvs, _, h => by cases h
theorem dpAll_mono (e : Ex H H') : ∀ (ds : List PyData) (vs : List V), DpAll K H vs ds → DpAll K H' vs ds
  | [], _, h => by cases h; exact .nil
  | d :: ds, _, h => by
    cases h with
    | cons a b => exact .cons (dp_mono e d _ a) (dpAll_mono e ds _ b)
end
theorem rv_eqD {d e : PyData} {n m : Nat} (hx : Dp K H x d) (hy : Dp K H y e) (hd : Sh n d) (he : Sh m e) (hn : n ≤ 64) (hm : m ≤ 64) : RV (rEqD K) x y H (.bl (PyData.eqv d e)) := fun H1 a _ q =>
  ⟨d, e, dp_mono a d x hx, dp_mono a e y hy, hd.shaped hn, he.shaped hm, q H1 (Ex.refl H1)⟩
theorem rv_neD {d e : PyData} {n m : Nat} (hx : Dp K H x d) (hy : Dp K H y e) (hd : Sh n d) (he : Sh m e) (hn : n ≤ 64) (hm : m ≤ 64) : RV (rNeD K) x y H (.bl (!PyData.eqv d e)) := fun H1 a _ q =>
  ⟨d, e, dp_mono a d x hx, dp_mono a e y hy, hd.shaped hn, he.shaped hm, q H1 (Ex.refl H1)⟩
theorem rv_is {r : R2} {w : V} (h : RV r x y H z) (e : z = w) : RV r x y H w := by
  rw [← e]
  exact h
/-- an if of one kind or the other, the value known -/
theorem ev_ifT (h : EvT t σ H true) (h1 : Ev ta σ H v) : Ev (tIf t ta tb) σ H v := ev_if h (fun _ => h1) (fun z => nomatch z)
theorem ev_ifF (h : EvT t σ H false) (h1 : Ev tb σ H v) : Ev (tIf t ta tb) σ H v := ev_if h (fun z => nomatch z) (fun _ => h1)
/-- a < b < c -/
theorem ev_chain {r r' : R2} {tc : TE} {w : V} {a b : Bool} (h1 : Ev ta σ H x) (h2 : Ev tb σ H y) (hr : RV r x y H (.bl a)) (h3 : a = true → Ev tc σ H w) (hr' : a = true → RV r' y w H (.bl b)) : Ev (tChain r r' ta tb tc) σ H (.bl (a && b)) := fun H1 e Q q =>
  h1 H1 e _ fun H2 e2 => h2 H2 (e.trans e2) _ fun H3 e3 => hr H3 ((e.trans e2).trans e3) _ fun H4 e4 => ⟨a, rfl, by
    have e04 := ((e.trans e2).trans e3).trans e4
    cases a with
    | false =>
      show Q (.bl false) H4
      exact q H4 ((e2.trans e3).trans e4)
    | true =>
      show tc σ H4 _
      exact h3 rfl H4 e04 _ fun H5 e5 => hr' rfl H5 (e04.trans e5) _ fun H6 e6 => q H6 ((((e2.trans e3).trans e4).trans e5).trans e6)⟩
end

/-! ### data of any kind, two of them alike -/
/-- an item of a list or a tuple -/
def rIxA (K : PySem.W.Frag) : R2 := fun x y H Q => rIxL K x y H Q ∨ rIxT K x y H Q
theorem ix_any {X : Cx} : IxR X (rIxA X.K) := fun value slice pins s σ H x y v u Q I rx ry q hs => by
  rcases q with q | q
  · exact ix_list value slice pins s σ H x y v u Q I rx ry q hs
  · exact ix_tup value slice pins s σ H x y v u Q I rx ry q hs
/-! rules that name the written part by itself (for a comprehension's block) -/
section
variable {X : Cx} (K : PySem.W.Frag) (e : X.K = K := by rfl)
include e
theorem ix_anyK : IxR X (rIxA K) := by subst e; exact ix_any
theorem ix_listK : IxR X (rIxL K) := by subst e; exact ix_list
theorem ix_tupK : IxR X (rIxT K) := by subst e; exact ix_tup
theorem call_len_seqK : CallR X (.builtin "len") (rLenS K) := by subst e; exact call_len_seq
theorem call_isiK2 : CallR X (.builtin "isinstance") (rIsi K) := by subst e; exact call_isi
theorem call_isiTK : CallR X (.builtin "isinstance") (rIsiT K) := by subst e; exact call_isiT
theorem op_eqDK (hu : X.A.units + 64 < cLine) : OpR X (compareOp .Eq) (rEqD K) := by subst e; exact op_eqD hu
theorem op_neDK (hu : X.A.units + 64 < cLine) : OpR X (compareOp .NotEq) (rNeD K) := by subst e; exact op_neD hu
theorem op_in_seqK : OpR X (compareOp .In) (rIn K false) := by subst e; exact op_in_seq
theorem op_notIn_seqK : OpR X (compareOp .NotIn) (rIn K true) := by subst e; exact op_notIn_seq
theorem call_list_ofK : CallR X (.type "list") (rListS K) := by subst e; exact call_list_of
end
def SqA (K : PySem.W.Frag) (H : Hp) (p : Addr) (xs : List V) : Prop := SqL K H p xs ∨ SqT K H p xs
theorem ex_a {K : PySem.W.Frag} {H H' : Hp} {p : Addr} {xs : List V} (e : Ex H H') (h : SqA K H p xs) : SqA K H' p xs := h.imp (ex_l e) (ex_t e)
theorem rv_ixA {K : PySem.W.Frag} {H : Hp} {p : Addr} {xs : List V} {i : Int} {v : V} (h : SqA K H p xs) (ha : atI xs i = some v) : RV (rIxA K) (.ref p) (.int i) H v := fun H1 e _ q => by
  rcases ex_a e h with h | h
  · exact .inl ⟨p, xs, i, v, rfl, rfl, h, ha, q H1 (Ex.refl H1)⟩
  · exact .inr ⟨p, xs, i, v, rfl, rfl, h, ha, q H1 (Ex.refl H1)⟩
/-- data of up to n levels, each list of up to a thousand -/
inductive Nice : Nat → PyData → Prop where
  | non {n : Nat} : Nice n .none
  | bl {n : Nat} (b : Bool) : Nice n (.bool b)
  | int {n : Nat} (i : Int) : Nice n (.int i)
  | str {n : Nat} {x : Str} : PyData.strOk x = true → Nice n (.str x)
  | lst {n : Nat} {ds : List PyData} : ds.length ≤ 1000 → (∀ d ∈ ds, Nice n d) → Nice (n + 1) (.list ds)
  | tup {n : Nat} {ds : List PyData} : ds.length ≤ 1000 → (∀ d ∈ ds, Nice n d) → Nice (n + 1) (.tuple ds)
theorem Nice.sh : ∀ {n : Nat} {d : PyData}, Nice n d → Sh n d
  | _, _, .non => sh_none
  | _, _, .bl _ => sh_bool
  | _, _, .int _ => sh_int
  | _, _, .str h => sh_str h
  | _, _, .lst _ h => sh_lst fun d hd => Nice.sh (h d hd)
  | _, _, .tup _ h => sh_tup fun d hd => Nice.sh (h d hd)
theorem Nice.mono {n : Nat} {d : PyData} (h : Nice n d) : ∀ {m : Nat}, n ≤ m → Nice m d := by
  induction h with
  | non => intro m _; exact .non
  | bl b => intro m _; exact .bl b
  | int i => intro m _; exact .int i
  | str h => intro m _; exact .str h
  | lst hl _ ih =>
    intro m hm
    obtain ⟨k, rfl⟩ : ∃ k, m = k + 1 := ⟨m - 1, by omega⟩
    exact .lst hl fun d hd => ih d hd (by omega)
  | tup hl _ ih =>
    intro m hm
    obtain ⟨k, rfl⟩ : ∃ k, m = k + 1 := ⟨m - 1, by omega⟩
    exact .tup hl fun d hd => ih d hd (by omega)
theorem dpa_len {K : PySem.W.Frag} {H : Hp} : ∀ {vs : List V} {ds : List PyData}, DpAll K H vs ds → vs.length = ds.length
  | _, _, .nil => rfl
  | _, _, .cons _ h => congrArg (· + 1) (dpa_len h)
theorem dpa_get {K : PySem.W.Frag} {H : Hp} : ∀ {vs : List V} {ds : List PyData} {i : Nat} {d : PyData}, DpAll K H vs ds → ds[i]? = some d → ∃ v, vs[i]? = some v ∧ Dp K H v d
  | _, _, _, _, .nil, e => by simp at e
  | _, _, 0, _, .cons r _, e => by simp at e; subst e; exact ⟨_, rfl, r⟩
  | _, _, i + 1, x, .cons _ t, e => by
    obtain ⟨u, h1, h2⟩ := dpa_get (i := i) (d := x) t (by simpa using e)
    exact ⟨u, by simpa using h1, h2⟩
theorem dpa_of {K : PySem.W.Frag} {H : Hp} {vs : List V} {ds : List Deed} (h : Paired (DV K H) vs ds) : DpAll K H vs (ds.map fun d => .tuple d.dat) := by
  induction h with
  | nil => exact .nil
  | cons a _ ih => exact .cons a.dp ih
section
variable {K : PySem.W.Frag} {σ : L2.St} {H : Hp} {te : TE} {t : TT}
/-- a comprehension over a new tuple, over a tuple -/
theorem el_lcNT {xs : List V} {tl : TE} {j : Nat} {vs : List Nat} (f : Nat → Bool) (v : Nat → V) (h : EvU tl σ H xs) (hz : xs.length ≤ 40000) (hw : ∀ x, wipe ((wipe σ vs).set j (some x)) vs = wipe σ vs)
    (ht : ∀ (i : Nat) (x : V) H1, Ex H H1 → xs[i]? = some x → EvT t ((wipe σ vs).set j (some x)) H1 (f i)) (he : ∀ (i : Nat) (x : V) H1, Ex H H1 → xs[i]? = some x → f i = true → Ev te ((wipe σ vs).set j (some x)) H1 (v i)) :
    EvL (tLc (iTup K tl) (gName j) t te vs) σ H (given xs.length f v) := fun H0 e Q q => h H0 e _ fun a H1 ha e1 hx => ⟨a, rfl, ⟨xs, st_of hx⟩, fun Dl hD =>
  lc_tup (xs := xs) (Cw H1 f v Dl) ⟨hD, Ex.new hD, upd_same⟩ (fun i H' _ p => st_of (p.2.1 a _ hx)) (fun i x H' hi p => ⟨hw x, cw_turn p (by have := (List.getElem?_eq_some_iff.mp hi).1; omega) (ht i x H1 (e.trans e1) hi) (fun hf => he i x H1 (e.trans e1) hi hf)⟩)
    (fun H' p => q Dl H' (fresh_back e1 p.1) (e1.trans p.2.1) p.2.2)⟩
theorem el_lcT {a : Addr} {xs : List V} {tl : TE} {j : Nat} {vs : List Nat} (f : Nat → Bool) (v : Nat → V) (h : Ev tl σ H (.ref a)) (hx : SqT K H a xs) (hz : xs.length ≤ 40000) (hw : ∀ x, wipe ((wipe σ vs).set j (some x)) vs = wipe σ vs)
    (ht : ∀ (i : Nat) (x : V) H1, Ex H H1 → xs[i]? = some x → EvT t ((wipe σ vs).set j (some x)) H1 (f i)) (he : ∀ (i : Nat) (x : V) H1, Ex H H1 → xs[i]? = some x → f i = true → Ev te ((wipe σ vs).set j (some x)) H1 (v i)) :
    EvL (tLc (iTup K tl) (gName j) t te vs) σ H (given xs.length f v) := fun H0 e Q q => h H0 e _ fun H1 e1 => ⟨a, rfl, ⟨xs, ex_t (e.trans e1) hx⟩, fun Dl hD =>
  lc_tup (xs := xs) (Cw H1 f v Dl) ⟨hD, Ex.new hD, upd_same⟩ (fun i H' _ p => ex_t ((e.trans e1).trans p.2.1) hx) (fun i x H' hi p => ⟨hw x, cw_turn p (by have := (List.getElem?_eq_some_iff.mp hi).1; omega) (ht i x H1 (e.trans e1) hi) (fun hf => he i x H1 (e.trans e1) hi hf)⟩)
    (fun H' p => q Dl H' (fresh_back e1 p.1) (e1.trans p.2.1) p.2.2)⟩
end
theorem given_two (f : Nat → Bool) (v : Nat → V) : given 2 f v = (if f 0 then [v 0] else []) ++ (if f 1 then [v 1] else []) := by
  have e : given 2 f v = (([0, 1] : List Nat).filter f).map v := rfl
  rw [e]
  cases h0 : f 0 <;> cases h1 : f 1 <;> simp [List.filter, h0, h1]
def Deed.tag : Deed → Str
  | .rd _ => "read"
  | .wr _ _ => "write"
  | .rs => "rest"
def Deed.cell : Deed → Option Nat
  | .rd c => some c
  | .wr c _ => some c
  | .rs => none
def Deed.isW : Deed → Bool
  | .wr _ _ => true
  | _ => false
/-- whether both are at one cell, and one writes -/
def clashD (d e : Deed) : Bool := match d.cell, e.cell with
  | some a, some b => decide (a = b) && (d.isW || e.isW)
  | _, _ => false
theorem DV.tag {K : PySem.W.Frag} {H : Hp} {a : Addr} {d : Deed} (h : SqT K H a d.vals) : RV (rIxT K) (.ref a) (.int 0) H (.str d.tag) := rv_ixT h (by cases d <;> rfl)
theorem in_ww : inV (.str "write") [.str "write", .str "write"] = true := by decide +kernel
theorem in_wr : inV (.str "write") [.str "write", .str "read"] = true := by decide +kernel
theorem in_rw : inV (.str "write") [.str "read", .str "write"] = true := by decide +kernel
theorem in_rr : inV (.str "write") [.str "read", .str "read"] = false := by decide +kernel
theorem tag_rest (d : Deed) : (!decide (V.str d.tag = V.str "rest")) = !decide (d = .rs) := by
  cases d with
  | rd c =>
    have h : decide (V.str (Deed.rd c).tag = V.str "rest") = false := (show decide (V.str "read" = V.str "rest") = false by decide +kernel)
    rw [h]
    simp
  | wr c w =>
    have h : decide (V.str (Deed.wr c w).tag = V.str "rest") = false := (show decide (V.str "write" = V.str "rest") = false by decide +kernel)
    rw [h]
    simp
  | rs => simp [Deed.tag]
theorem cut_at (us : List V) (i : Nat) : cutV us (some (i : Int)) (some ((i : Int) + 1)) = (us.drop i).take 1 := by
  unfold cutV
  have e1 : HT.sIx us.length 0 (some (i : Int)) = min i us.length := HT.sIx_nat _ _ _
  have e2 : HT.sIx us.length us.length (some ((i : Int) + 1)) = min (i + 1) us.length := HT.sIx_nat us.length us.length (i + 1)
  rw [e1, e2]
  by_cases h : i < us.length
  · have h1 : min i us.length = i := by omega
    have h2 : min (i + 1) us.length = i + 1 := by omega
    rw [h1, h2]
    have h3 : i + 1 - i = 1 := by omega
    rw [h3]
  · have h1 : min i us.length = us.length := by omega
    rw [h1, List.drop_of_length_le (Nat.le_refl _), List.drop_of_length_le (by omega)]
    simp
theorem cut_tail (us : List V) : cutV us (some 1) none = us.drop 1 := by
  unfold cutV
  have e1 : HT.sIx us.length 0 (some ((1 : Nat) : Int)) = min 1 us.length := HT.sIx_nat _ _ _
  have e2 : HT.sIx us.length us.length none = us.length := HT.sIx_none _ _
  have e3 : (some (1 : Int)) = some ((1 : Nat) : Int) := rfl
  rw [e3, e1, e2]
  cases us with
  | nil => rfl
  | cons a r =>
    have h1 : min 1 (a :: r).length = 1 := by simp
    rw [h1]
    simp
theorem PV.drop {K : PySem.W.Frag} {H : Hp} : ∀ {vs : List V} {ds : List Deed} (n : Nat), PV K H vs ds → PV K H (vs.drop n) (ds.drop n)
  | _, _, 0, h => h
  | _, _, n + 1, .nil => .nil
  | _, _, n + 1, .cons _ t => PV.drop n t
theorem sqt_K {K : PySem.W.Frag} {a : Addr} {d : Option Addr} {its : Array Value} {n : Nat} {sl : Array (Option Value)} {xs : List V} (l : K.lookup a = some ⟨.type "tuple", d, .seq its n, sl⟩) (hz : its.size ≤ sizeLine) (r : Vals xs its.toList) (H : Hp) : SqT K H a xs :=
  .inr ⟨_, its, n, l, rfl, rfl, hz, r⟩
/-- the written things of the program's first files -/
structure TxP (K : PySem.W.Frag) (mg : Str → Option Value) (aREST aWORTHS : Addr) (t4 t40 : Tok) : Prop where
  g_REST : mg "REST" = some (.ref aREST)
  REST : ∀ H, SqT K H aREST Deed.rs.vals
  g_WORTHS : mg "WORTHS" = some (.ref aWORTHS)
  WORTHS : ∀ H, SqT K H aWORTHS [.int 0, .int 1, .int 2]
  g_MOST_CELLS : mg "MOST_CELLS" = some (.int 4 t4)
  g_MOST_DEEDS : mg "MOST_DEEDS" = some (.int 40 t40)
theorem in_worths (i : Int) : inV (.int i) [.int 0, .int 1, .int 2] = decide (0 ≤ i ∧ i < 3) := by
  rw [Bool.eq_iff_iff]
  simp only [inV, eqV, List.any_cons, List.any_nil, Bool.or_false, Bool.or_eq_true, beq_iff_eq, decide_eq_true_eq]
  omega
theorem given_none (n : Nat) (v : Nat → V) : given n (fun _ => false) v = [] := by
  unfold given
  rw [List.filter_eq_nil_iff.mpr (fun _ _ => by decide)]
  rfl

/-! ### what is kept but at some places -/
def Bt (S : List Addr) (H H' : Hp) : Prop := ∀ b o, ¬ b ∈ S → H b = some o → H' b = some o
theorem Bt.refl {S : List Addr} (H : Hp) : Bt S H H := fun _ _ _ h => h
theorem Bt.trans {S : List Addr} {H H1 H2 : Hp} (a : Bt S H H1) (b : Bt S H1 H2) : Bt S H H2 := fun c o n h => b c o n (a c o n h)
theorem Bt.of_ex {S : List Addr} {H H' : Hp} (e : Ex H H') : Bt S H H' := fun c o _ h => e c o h
theorem Bt.ex {S : List Addr} {H H' : Hp} (a : Bt S H H') (h : ∀ b ∈ S, ∀ o, H b = some o → H' b = some o) : Ex H H' := fun c o q => by
  by_cases hc : c ∈ S
  · exact h c hc o q
  · exact a c o hc q
theorem Bt.mono {S T : List Addr} {H H' : Hp} (a : Bt S H H') (h : ∀ b ∈ S, b ∈ T) : Bt T H H' := fun c o n q => a c o (fun z => n (h c z)) q
theorem Bt.upd {S : List Addr} {H H' : Hp} {p : Addr} {o : HO} (a : Bt S H H') (hp : p ∈ S ∨ H p = none) : Bt S H (upd H' p o) := fun c u n q => by
  have hc : c ≠ p := by
    rintro rfl
    rcases hp with hp | hp
    · exact n hp
    · rw [hp] at q
      cases q
  rw [upd_ne hc]
  exact a c u n q
theorem Bt.free {S : List Addr} {H H' : Hp} {p : Addr} (a : Bt S H H') (hp : ¬ p ∈ S) (h : H' p = none) : H p = none := by
  cases q : H p with
  | none => rfl
  | some o =>
    rw [a p o hp q] at h
    cases h

/-! ### the draws: a list at h of a number, a list at l, a number -/
structure Draw (H : Hp) (h l : Addr) : Prop where
  st : ∃ (a p : Int) (ns : List Int), H h = some (.lst [.int a, .ref l, .int p]) ∧ H l = some (.lst (ns.map V.int)) ∧ ns.length ≤ 63
theorem Draw.ne {H : Hp} {h l : Addr} (D : Draw H h l) : h ≠ l := by
  obtain ⟨a, p, ns, h1, h2, _⟩ := D.st
  refine ne_of h1 h2 fun z => ?_
  injection z with z
  cases ns with
  | nil => cases z
  | cons n r =>
    cases r with
    | nil => cases z
    | cons m r =>
      injection z with _ z
      injection z with z _
      cases z
theorem Draw.mono {H H' : Hp} {h l : Addr} (e : Ex H H') (D : Draw H h l) : Draw H' h l := by
  obtain ⟨a, p, ns, h1, h2, h3⟩ := D.st
  exact ⟨a, p, ns, e _ _ h1, e _ _ h2, h3⟩
/-- a tuple stays through draws -/
theorem Draw.t {K : PySem.W.Frag} {H H' : Hp} {h l a : Addr} {xs : List V} (D : Draw H h l) (e : Bt [h, l] H H') (q : SqT K H a xs) : SqT K H' a xs := by
  obtain ⟨_, _, _, h1, h2, _⟩ := D.st
  rcases q with (q | ⟨o, q⟩) | q
  · refine .inl (.inl (e a _ ?_ q))
    simp only [List.mem_cons, List.not_mem_nil, or_false]
    rintro (rfl | rfl)
    · rw [h1] at q; cases q
    · rw [h2] at q; cases q
  · refine .inl (.inr ⟨o, e a _ ?_ q⟩)
    simp only [List.mem_cons, List.not_mem_nil, or_false]
    rintro (rfl | rfl)
    · rw [h1] at q; cases q
    · rw [h2] at q; cases q
  · exact .inr q
theorem Draw.dv {K : PySem.W.Frag} {H H' : Hp} {h l : Addr} {v : V} {d : Deed} (D : Draw H h l) (e : Bt [h, l] H H') (q : DV K H v d) : DV K H' v d := by
  obtain ⟨a, h1, h2⟩ := q
  exact ⟨a, h1, D.t e h2⟩
theorem pv_map {K : PySem.W.Frag} {H H' : Hp} {vs : List V} {ds : List Deed} (f : ∀ v d, DV K H v d → DV K H' v d) (q : PV K H vs ds) : PV K H' vs ds := L2.Paired.mapP q f
theorem Draw.pv {K : PySem.W.Frag} {H H' : Hp} {h l : Addr} {vs : List V} {ds : List Deed} (D : Draw H h l) (e : Bt [h, l] H H') (q : PV K H vs ds) : PV K H' vs ds := pv_map (fun _ _ => D.dv e) q
theorem PV.mono {K : PySem.W.Frag} {H H' : Hp} {vs : List V} {ds : List Deed} (e : Ex H H') (q : PV K H vs ds) : PV K H' vs ds := pv_map (fun _ _ => DV.mono e) q
theorem PV.length {K : PySem.W.Frag} {H : Hp} {vs : List V} {ds : List Deed} (q : PV K H vs ds) : vs.length = ds.length := Paired.length q
theorem PV.get {K : PySem.W.Frag} {H : Hp} : ∀ {vs : List V} {ds : List Deed} {i : Nat} {v : V}, PV K H vs ds → vs[i]? = some v → ∃ d, ds[i]? = some d ∧ DV K H v d
  | _, _, _, _, .nil, e => by simp at e
  | _, _, 0, _, .cons r _, e => by simp at e; subst e; exact ⟨_, rfl, r⟩
  | _, _, i + 1, x, .cons _ t, e => by
    obtain ⟨u, h1, h2⟩ := PV.get (i := i) (v := x) t (by simpa using e)
    exact ⟨u, by simpa using h1, h2⟩
theorem PV.snoc {K : PySem.W.Frag} {H : Hp} {v : V} {d : Deed} (r : DV K H v d) : ∀ {vs : List V} {ds : List Deed}, PV K H vs ds → PV K H (vs ++ [v]) (ds ++ [d])
  | _, _, .nil => .cons r .nil
  | _, _, .cons q t => .cons q (PV.snoc r t)
/-- a deed stays where a list is changed -/
theorem dv_but {K : PySem.W.Frag} {H H' : Hp} {p : Addr} {us : List V} {v : V} {d : Deed} (b : Bt [p] H H') (hp : H p = some (.lst us)) (q : DV K H v d) : DV K H' v d := by
  obtain ⟨a, h1, h2⟩ := q
  refine ⟨a, h1, ?_⟩
  have ne : ∀ o, H a = some o → (∀ xs, o ≠ .lst xs) → ¬ a ∈ [p] := by
    intro o ho no hm
    rw [List.mem_singleton.mp hm, hp] at ho
    exact no us (Option.some.inj ho).symm
  rcases h2 with (h2 | ⟨o, h2⟩) | h2
  · exact .inl (.inl (b a _ (ne _ h2 (fun _ z => by cases z)) h2))
  · exact .inl (.inr ⟨o, b a _ (ne _ h2 (fun _ z => by cases z)) h2⟩)
  · exact .inr h2
/-- a worth -/
def wV (n : Nat) : V := .int (n : Int)
/-- what a drawer promises of the heap -/
structure Drew (H H' : Hp) (h l : Addr) : Prop where
  dr : Draw H' h l
  bt : Bt [h, l] H H'
theorem Drew.refl {H : Hp} {h l : Addr} (D : Draw H h l) : Drew H H h l := ⟨D, Bt.refl H⟩
theorem Drew.trans {H H1 H2 : Hp} {h l : Addr} (a : Drew H H1 h l) (b : Drew H1 H2 h l) : Drew H H2 h l := ⟨b.dr, a.bt.trans b.bt⟩
theorem Drew.of_ex {H H1 H2 : Hp} {h l : Addr} (a : Drew H H1 h l) (e : Ex H1 H2) : Drew H H2 h l := ⟨a.dr.mono e, a.bt.trans (Bt.of_ex e)⟩
theorem Drew.new {H H1 : Hp} {h l p : Addr} {o : HO} (a : Drew H H1 h l) (hp : H1 p = none) : Drew H (upd H1 p o) h l := a.of_ex (Ex.new hp)

/-! ### a def with a default -/
structure HasD (K : PySem.W.Frag) (mg : Str → Option Value) (x : Str) (st : Stmt) (dvs : List V) : Prop where
  ex : ∃ f fd, FunD K x x (defArgs st) (defBody st) (defScope st) dvs [] f fd ∧ mg x = some (.ref f)
/-- called so that these fill up its last parameters -/
structure Dq (P : Program) (w : World) (K : PySem.W.Frag) (mg : Str → Option Value) (base : Heap) (CX : CXT) (x : Str) (ps : List Str) (dvs : List V) (k : Nat) (sp : Sp) : Prop where
  ex : ∃ f fd ds, FnOk P w K mg base CX k f fd ps sp ∧ mg x = some (.ref f) ∧ PySem.W.keepIn K (.ref f) = true ∧ Binds K fd ps ds ∧ Vals dvs ds
section
variable {P : Program} {w : World} {K : PySem.W.Frag} {mg : Str → Option Value} {base : Heap} {x : Str} {st : Stmt} {dvs : List V}
theorem FunD.ok0 {qual : Str} {f : Addr} {fd : FuncData} {N ps : List Str} {k : Nat} {sp : Sp} (F : FunD K x qual (defArgs st) (defBody st) (defScope st) dvs [] f fd) (S : FnScope N ps (defScope st)) (len : ∀ vs H Q E, sp vs H Q E → vs.length = ps.length)
    (hbody : ∀ (cdv : Value) (A : Around) (outer : List Env) (s : Shared) (H : Hp) (vs : List V) (Q : VK) (E : XK), Room k (A.deeper (PyProof.Rows.envOfC qual (defScope st) s.heap.objs.size f cdv)) → sp vs H Q E →
      ∃ t, PSs (cxOf CX0 P w K mg base N qual (defScope st) f cdv A outer s H E).nox (defBody st) t ∧ t { nx := fun _ H' => Q .non H', rt := Q } (start N vs) H) : FnOk P w K mg base CX0 (k + 1) f fd ps sp :=
  F.ok S len fun cdv A outer s H vs Q E hr hsp => by
    obtain ⟨t, h, q⟩ := hbody cdv A outer s H vs Q E hr hsp
    exact ⟨t, h.nox, q⟩
theorem dq_of {CX : CXT} {ps : List Str} {k : Nat} {sp : Sp} (n j : Nat) (h : HasD K mg x st dvs) (hd : dvs ≠ []) (hn : n + (dvs.length - j) = ps.length)
    (hb : ∀ (T : Addr) (kV doc pm : Value) (an : Option Addr) (cdv ct : Value) (us its : List Value), us.length = n → its.length = dvs.length →
      ∃ k, bindArgs (PySem.W.fnOf x x (defArgs st) (defBody st) (defScope st) (.ref T) kV doc pm an cdv ct) ⟨us, []⟩ = seqItems? (.ref T) >>= k ∧ k (some its.toArray) = pure (ps.zip (us ++ its.drop j)))
    (hf : ∀ f fd, FunD K x x (defArgs st) (defBody st) (defScope st) dvs [] f fd → FnOk P w K mg base CX k f fd ps sp) : Dq P w K mg base CX x ps (dvs.drop j) k sp := by
  obtain ⟨f, fd, F, hm⟩ := h.ex
  obtain ⟨ds, r, b⟩ := F.binds1 n j hd hn hb
  exact ⟨f, fd, ds, hf f fd F, hm, F.kp, b, r⟩
theorem hasD_mk {h : Heap} {f T : Addr} {oc cT : Value} {od an dT : Option Addr} {osl slT : Array (Option Value)} {kV doc pm cdv ct : Value} {i : Int} {tk : Tok} {n : Nat} (X : K.In h) (G : h.Ns mainGlobals mg)
    (a : PySem.W.nsIn K mainGlobals x = some (some (.ref f)))
    (l : K.lookup f = some ⟨oc, od, .func (PySem.W.fnOf x x (defArgs st) (defBody st) (defScope st) (.ref T) kV doc pm an cdv ct), osl⟩)
    (c : PySem.W.codeIn K cdv x = true) (k : PySem.W.keepIn K (.ref f) = true) (lT : K.lookup T = some ⟨cT, dT, .seq #[.int i tk] n, slT⟩) : HasD K mg x st [.int i] :=
  ⟨f, _, ⟨⟨oc, od, .ref T, kV, doc, pm, an, cdv, ct, osl, rfl, l, c, .inr ⟨by simp, T, _, [.int i tk], n, rfl, lT, rfl, .cons ⟨_, rfl⟩ .nil⟩, .inl rfl⟩, k⟩, PySem.W.mg_of X G a⟩
end
section
variable {X : Cx}
theorem pe_dq {CX : CXT} {x : Str} {ps : List Str} {dvs : List V} {k j : Nat} {sp : Sp} {E : XK} {e : Expr} {es : List Expr} {t : TA} {p pos : Pos} (h : Dq X.prog X.w X.K X.mg X.base CX x ps dvs k sp) (hr : Room j X.A) (hk : k ≤ j) (hx : Passes CX X E)
    (ha : PA X (e :: es) t) (hg : Gl X x := by rfl) (hdb : (x == ("__debug__" : Str)) = false := by decide) (he : starEach (e :: es) X.env = (false, eval e X.env) :: starEach es X.env := by rfl)
    (hpl : (backTo pos (starEach es X.env)).any (·.1) = false := by rfl) : PE X (.Call (.Name x p) (e :: es) [] pos) (tCall sp dvs E t) := by
  obtain ⟨f, fd, ds, F, hm, kp, b, r⟩ := h.ex
  exact pe_call F (hr.mono hk) hg hm kp b r hx ha hdb he hpl
end
end Db

namespace Db
open PySem L2 Evl
/-! ### the five rules, beat by beat -/
inductive Rule where
  | old | new | left | right | wait
  deriving DecidableEq
def Rule.name : Rule → Str
  | .old => "old" | .new => "new" | .left => "left" | .right => "right" | .wait => "wait"
def rdl (ws : List Nat) : Deed → List Nat
  | .rd c => [ws.getD c 0]
  | _ => []
def wrl (ws : List Nat) : Deed → List Nat
  | .wr c x => ws.set c x
  | _ => ws
theorem wrl_length (ws : List Nat) (d : Deed) : (wrl ws d).length = ws.length := by
  cases d <;> simp [wrl]
theorem rdl_length (ws : List Nat) (d : Deed) : (rdl ws d).length ≤ 1 := by
  cases d <;> simp [rdl]
theorem wrl_small {ws : List Nat} {d : Deed} {n : Nat} (h : ∀ x ∈ ws, x < 3) (hd : d.ok n) : ∀ x ∈ wrl ws d, x < 3 := by
  intro x hx
  cases d with
  | rd c => exact h x hx
  | rs => exact h x hx
  | wr c y =>
    rcases List.mem_or_eq_of_mem_set hx with hx | rfl
    · exact h x hx
    · exact hd.2
/-- what is told of a beat: the worths behind it, what is read at each door -/
def beat : Rule → List Nat → Deed → Deed → List Nat × List Nat × List Nat
  | .old, ws, d, e => (wrl (wrl ws e) d, rdl ws d, rdl ws e)
  | .new, ws, d, e => (wrl (wrl ws e) d, rdl (wrl (wrl ws e) d) d, rdl (wrl (wrl ws e) d) e)
  | .right, ws, d, e => (wrl (wrl ws e) d, rdl (wrl ws e) d, rdl ws e)
  | _, ws, d, e => (wrl (wrl ws d) e, rdl ws d, rdl (wrl ws d) e)
theorem beat_length (r : Rule) (ws : List Nat) (d e : Deed) : (beat r ws d e).1.length = ws.length := by
  cases r <;> simp [beat, wrl_length]
theorem beat_seen (r : Rule) (ws : List Nat) (d e : Deed) : (beat r ws d e).2.1.length ≤ 1 := by
  cases r <;> exact rdl_length _ _
theorem beat_others (r : Rule) (ws : List Nat) (d e : Deed) : (beat r ws d e).2.2.length ≤ 1 := by
  cases r <;> exact rdl_length _ _
theorem beat_small {r : Rule} {ws : List Nat} {d e : Deed} {n : Nat} (h : ∀ x ∈ ws, x < 3) (hd : d.ok n) (he : e.ok n) : ∀ x ∈ (beat r ws d e).1, x < 3 := by
  cases r
  case old => exact wrl_small (wrl_small h he) hd
  case new => exact wrl_small (wrl_small h he) hd
  case left => exact wrl_small (wrl_small h hd) he
  case right => exact wrl_small (wrl_small h he) hd
  case wait => exact wrl_small (wrl_small h hd) he
structure Sts where
  ws : List Nat
  l : List Deed
  r : List Deed
  ss : List Nat
  os : List Nat
  n : Nat
def Sts.done (S : Sts) : Prop := S.l = [] ∧ S.r = []
instance (S : Sts) : Decidable S.done := inferInstanceAs (Decidable (_ ∧ _))
/-- whether the right door waits -/
def waits (r : Rule) (S : Sts) : Bool := decide (r = .wait) && clashD (S.l.headD .rs) (S.r.headD .rs)
def after (S : Sts) (b : List Nat × List Nat × List Nat) (w : Bool) : Sts := { ws := b.1, l := S.l.tail, r := if w then S.r else S.r.tail, ss := S.ss ++ b.2.1, os := S.os ++ b.2.2, n := S.n + 1 }
def one (r : Rule) (S : Sts) : Sts := if waits r S = true then after S (beat .left S.ws (S.l.headD .rs) .rs) true else after S (beat r S.ws (S.l.headD .rs) (S.r.headD .rs)) false
def stepS (r : Rule) (S : Sts) : Sts := if S.done then S else one r S
def Sts.meas (S : Sts) : Nat := S.l.length + S.r.length
theorem waits_l {r : Rule} {S : Sts} (h : waits r S = true) : S.l ≠ [] := by
  intro z
  unfold waits at h
  rw [z] at h
  have e : clashD (([] : List Deed).headD .rs) (S.r.headD .rs) = false := rfl
  rw [e, Bool.and_false] at h
  cases h
theorem one_less {r : Rule} {S : Sts} (h : ¬ S.done) : (one r S).meas < S.meas := by
  unfold one
  by_cases hw : waits r S = true
  · rw [if_pos hw]
    have hl := waits_l hw
    unfold Sts.meas after
    cases hS : S.l with
    | nil => exact absurd hS hl
    | cons d t => simp
  · rw [if_neg hw]
    unfold Sts.meas after
    cases hl : S.l with
    | nil =>
      cases hr : S.r with
      | nil => exact absurd ⟨hl, hr⟩ h
      | cons e t => simp
    | cons d t =>
      cases hr : S.r with
      | nil => simp
      | cons e u => simp; omega
theorem stepS_of {r : Rule} {S : Sts} (h : ¬ S.done) : stepS r S = one r S := if_neg h
theorem stepS_done {r : Rule} {S : Sts} (h : S.done) : stepS r S = S := if_pos h
def runF (r : Rule) : Nat → Sts → Sts
  | 0, S => S
  | n + 1, S => runF r n (stepS r S)
theorem runF_done {r : Rule} {S : Sts} (h : S.done) : ∀ n, runF r n S = S
  | 0 => rfl
  | n + 1 => by
    rw [runF, stepS_done h]
    exact runF_done h n
theorem runF_more {r : Rule} : ∀ (n : Nat) (S : Sts), S.meas ≤ n → runF r n S = runF r S.meas S
  | 0, S, h => by rw [show S.meas = 0 by omega]
  | n + 1, S, h => by
    by_cases hd : S.done
    · rw [runF_done hd, runF_done hd]
    · have hl := one_less (r := r) hd
      obtain ⟨m, hm⟩ : ∃ m, S.meas = m + 1 := ⟨S.meas - 1, by omega⟩
      rw [hm, runF, runF, stepS_of hd, runF_more n _ (by omega)]
      by_cases e : m = n
      · rw [e, runF_more n _ (by omega)]
      · exact (runF_more m _ (by omega)).symm
  termination_by n => n
/-- what stands when all is done -/
def out (r : Rule) (S : Sts) : Sts := runF r S.meas S
theorem out_done {r : Rule} {S : Sts} (h : S.done) : out r S = S := runF_done h _
theorem out_one {r : Rule} {S : Sts} (h : ¬ S.done) : out r (one r S) = out r S := by
  unfold out
  have hl := one_less (r := r) h
  obtain ⟨m, hm⟩ : ∃ m, S.meas = m + 1 := ⟨S.meas - 1, by omega⟩
  rw [hm, runF, stepS_of h, runF_more m _ (by omega)]
def begin0 (ws : List Nat) (l r : List Deed) : Sts := ⟨ws, l, r, [], [], 0⟩
/-- what stays of a state through all beats: sizes, worths, deeds -/
structure Fit (c : Nat) (m : Nat) (S : Sts) : Prop where
  len : S.ws.length = c
  small : ∀ x ∈ S.ws, x < 3
  okl : ∀ d ∈ S.l, d.ok c
  okr : ∀ d ∈ S.r, d.ok c
  ss : S.ss.length + S.meas ≤ m
  os : S.os.length + S.meas ≤ m
  n : S.n + S.meas ≤ m
theorem ok_headD {c : Nat} {l : List Deed} (h : ∀ d ∈ l, d.ok c) : (l.headD .rs).ok c := by
  cases l with
  | nil => exact True.intro
  | cons d t => exact h d List.mem_cons_self
theorem mem_tail {l : List Deed} {d : Deed} (h : d ∈ l.tail) : d ∈ l := by
  cases l with
  | nil => exact h
  | cons e t => exact List.mem_cons_of_mem _ h
theorem Fit.one {c m : Nat} {S : Sts} {r : Rule} (F : Fit c m S) (h : ¬ S.done) : Fit c m (one r S) := by
  have hl := one_less (r := r) h
  have h1 := ok_headD F.okl
  have h2 := ok_headD F.okr
  by_cases hw : waits r S = true
  · have e : Db.one r S = after S (beat .left S.ws (S.l.headD .rs) .rs) true := if_pos hw
    rw [e] at hl ⊢
    have a1 := beat_seen .left S.ws (S.l.headD .rs) .rs
    have a2 := beat_others .left S.ws (S.l.headD .rs) .rs
    refine ⟨(beat_length _ _ _ _).trans F.len, beat_small F.small h1 (e := .rs) (n := c) True.intro, fun d hd => F.okl d (mem_tail hd), fun d hd => F.okr d hd, ?_, ?_, ?_⟩
    · have := F.ss
      show (S.ss ++ _).length + _ ≤ m
      rw [List.length_append]; omega
    · have := F.os
      show (S.os ++ _).length + _ ≤ m
      rw [List.length_append]; omega
    · have := F.n
      show S.n + 1 + _ ≤ m
      omega
  · have e : Db.one r S = after S (beat r S.ws (S.l.headD .rs) (S.r.headD .rs)) false := if_neg hw
    rw [e] at hl ⊢
    have a1 := beat_seen r S.ws (S.l.headD .rs) (S.r.headD .rs)
    have a2 := beat_others r S.ws (S.l.headD .rs) (S.r.headD .rs)
    refine ⟨(beat_length _ _ _ _).trans F.len, beat_small F.small h1 h2, fun d hd => F.okl d (mem_tail hd), fun d hd => F.okr d (mem_tail hd), ?_, ?_, ?_⟩
    · have := F.ss
      show (S.ss ++ _).length + _ ≤ m
      rw [List.length_append]; omega
    · have := F.os
      show (S.os ++ _).length + _ ≤ m
      rw [List.length_append]; omega
    · have := F.n
      show S.n + 1 + _ ≤ m
      omega
theorem Fit.begin0 {c : Nat} {ws : List Nat} {l r : List Deed} (h1 : ws.length = c) (h2 : ∀ x ∈ ws, x < 3) (h3 : ∀ d ∈ l, d.ok c) (h4 : ∀ d ∈ r, d.ok c) : Fit c (l.length + r.length) (begin0 ws l r) :=
  ⟨h1, h2, h3, h4, by show 0 + _ ≤ _; unfold Sts.meas; simp [Db.begin0], by show 0 + _ ≤ _; unfold Sts.meas; simp [Db.begin0], by show 0 + _ ≤ _; unfold Sts.meas; simp [Db.begin0]⟩
theorem fit_runF {c m : Nat} {r : Rule} : ∀ (n : Nat) (S : Sts), Fit c m S → Fit c m (runF r n S)
  | 0, _, F => F
  | n + 1, S, F => by
    rw [runF]
    refine fit_runF n _ ?_
    by_cases h : S.done
    · rw [stepS_done h]; exact F
    · rw [stepS_of h]; exact F.one h
theorem fit_out {c m : Nat} {r : Rule} {S : Sts} (F : Fit c m S) : Fit c m (out r S) := fit_runF _ _ F

/-! ### deeds through changes of lists -/
theorem t_but {K : PySem.W.Frag} {H H' : Hp} {S : List Addr} {a : Addr} {xs : List V} (b : Bt S H H') (hp : ∀ p ∈ S, ∃ us, H p = some (.lst us)) (q : SqT K H a xs) : SqT K H' a xs := by
  have ne : ∀ o, H a = some o → (∀ xs, o ≠ .lst xs) → ¬ a ∈ S := by
    intro o ho no hm
    obtain ⟨us, h⟩ := hp a hm
    rw [h] at ho
    exact no us (Option.some.inj ho).symm
  rcases q with (h2 | ⟨o, h2⟩) | h2
  · exact .inl (.inl (b a _ (ne _ h2 (fun _ z => by cases z)) h2))
  · exact .inl (.inr ⟨o, b a _ (ne _ h2 (fun _ z => by cases z)) h2⟩)
  · exact .inr h2
theorem dv_buts {K : PySem.W.Frag} {H H' : Hp} {S : List Addr} {v : V} {d : Deed} (b : Bt S H H') (hp : ∀ p ∈ S, ∃ us, H p = some (.lst us)) (q : DV K H v d) : DV K H' v d := by
  obtain ⟨a, h1, h2⟩ := q
  exact ⟨a, h1, t_but b hp h2⟩
theorem pv_buts {K : PySem.W.Frag} {H H' : Hp} {S : List Addr} {vs : List V} {ds : List Deed} (b : Bt S H H') (hp : ∀ p ∈ S, ∃ us, H p = some (.lst us)) (q : PV K H vs ds) : PV K H' vs ds := pv_map (fun _ _ => dv_buts b hp) q
theorem Bt.set {S : List Addr} {H H' : Hp} {p : Addr} {o : HO} (a : Bt S H H') (hp : p ∈ S) : Bt S H (L2.upd H' p o) := a.upd (.inl hp)
/-- a name is set: on with what follows -/
theorem gn {i : Nat} {v : V} {σ : L2.St} {H : Hp} {Q : L2.St → Hp → Prop} (h : Q (σ.set i (some v)) H) : gName i v σ H Q := h
theorem headD_drop : ∀ (ds : List Deed) (i : Nat), (ds.drop i).headD .rs = ds.getD i .rs
  | [], i => by simp
  | d :: r, 0 => rfl
  | d :: r, i + 1 => by
    have h := headD_drop r i
    simpa using h
theorem Dn.up {P : Program} {w : World} {K : PySem.W.Frag} {mg : Str → Option Value} {base : Heap} {CX : CXT} {x : Str} {ps : List Str} {j k : Nat} {sp : Sp} (h : Dn P w K mg base CX x ps j sp) (hk : j ≤ k) : Dn P w K mg base CX x ps k sp := by
  obtain ⟨f, fd, F, a, b, c⟩ := h.ex
  exact ⟨f, fd, F.mono hk, a, b, c⟩
/-- an extension of what stood ahead, if the places were new -/
theorem Bt.ex_back {S : List Addr} {H H1 H2 : Hp} (b : Bt S H H1) (f : Ex H1 H2) (h : ∀ p ∈ S, H p = none) : Ex H H2 := fun a o q => by
  refine f _ _ (b a o (fun hm => ?_) q)
  rw [h a hm] at q
  cases q
def ruleNames : List V := [.str "old", .str "new", .str "left", .str "right", .str "wait"]
/-! ### more of evaluation -/
section
variable {K : PySem.W.Frag} {σ : L2.St} {H : Hp} {ta tb te : TE} {t : TT} {D : Ends}
theorem el_if {b : Bool} {xs : List V} (h : EvT t σ H b) (h1 : b = true → EvL ta σ H xs) (h2 : b = false → EvL tb σ H xs) : EvL (tIf t ta tb) σ H xs := fun H1 e Q q => h H1 e _ fun H2 e2 => by
  cases b with
  | true =>
    show ta σ H2 Q
    exact h1 rfl H2 (e.trans e2) Q fun p H3 hp e3 h3 => q p H3 (fresh_back e2 hp) (e2.trans e3) h3
  | false =>
    show tb σ H2 Q
    exact h2 rfl H2 (e.trans e2) Q fun p H3 hp e3 h3 => q p H3 (fresh_back e2 hp) (e2.trans e3) h3
theorem el_cat {a b : Addr} {xs ys : List V} (ha : Ev ta σ H (.ref a)) (hb : Ev tb σ H (.ref b)) (h1 : H a = some (.lst xs)) (h2 : H b = some (.lst ys)) (hz : xs.length + ys.length ≤ 100000) : EvL (tOp rCat ta tb) σ H (xs ++ ys) := fun H1 e Q q =>
  ha H1 e _ fun H2 e2 => hb H2 (e.trans e2) _ fun H3 e3 => ⟨a, b, xs, ys, rfl, rfl, ((e.trans e2).trans e3) _ _ h1, ((e.trans e2).trans e3) _ _ h2, sz_of hz, fun p hp => q p _ (fresh_back (e2.trans e3) hp) ((e2.trans e3).trans (Ex.new hp)) upd_same⟩
theorem el_listA {p : Addr} {xs : List V} (ha : Ev ta σ H (.ref p)) (h : SqA K H p xs) : EvL (tCB (rListS K) (tCons ta tNil)) σ H xs := fun H1 e Q q =>
  ha H1 e _ fun H2 e2 => ⟨p, xs, rfl, ex_a (e.trans e2) h, fun l hl => q l _ (fresh_back e2 hl) (e2.trans (Ex.new hl)) upd_same⟩
/-- if the deed in a slot is a write, it is done at the list in another -/
theorem wr_body {i j : Nat} {p : Addr} {x : V} {dd : Deed} {u : List Nat} (hx : σ[i]? = some (some x)) (hp : σ[j]? = some (some (.ref p))) (dv : DV K H x dd) (h : H p = some (.lst (u.map wV))) (ho : dd.ok u.length)
    (k : ∀ H', Bt [p] H H' → H' p = some (.lst ((wrl u dd).map wV)) → D.nx σ H') :
    tIfS (tTest (tOp rEq (tOp (rIxT K) (tVar i) (tC (.int 0))) (tC (.str "write")))) (tAsg (tOp (rIxT K) (tVar i) (tC (.int 2))) (gSub (tVar j) (tOp (rIxT K) (tVar i) (tC (.int 1))) rSetL)) tNext D σ H := by
  obtain ⟨a, rfl, h1⟩ := dv
  refine s_when (b := decide (V.str dd.tag = V.str "write")) (et_test (ev_op (ev_op (ev_var hx) ev_c (DV.tag h1)) ev_c (rv_eq rfl))) (fun hb H1 f1 => ?_) (fun hb H1 f1 => ?_)
  · cases dd with
    | rd c => exact absurd hb (by show ¬ decide (V.str "read" = V.str "write") = true; decide +kernel)
    | rs => exact absurd hb (by show ¬ decide (V.str "rest" = V.str "write") = true; decide +kernel)
    | wr c y =>
      have g1 := ex_t f1 h1
      obtain ⟨hc, hy⟩ : c < u.length ∧ y < 3 := ho
      refine s_setL (l := p) (v := wV y) (j := c) (f1 _ _ h) (ev_op (ev_var hx) ev_c (rv_ixT g1 rfl)) (ev_var hp) (ev_op (ev_var hx) ev_c (rv_ixT g1 rfl)) (by rw [List.length_map]; exact hc) fun H2 f2 => ?_
      refine k _ ((Bt.of_ex (f1.trans f2)).upd (.inl (by simp))) ?_
      rw [upd_same, wrl, List.map_set]
  · refine k _ (Bt.of_ex f1) ?_
    cases dd with
    | wr c y => exact absurd hb (by show ¬ decide (V.str "write" = V.str "write") = false; decide +kernel)
    | rd c => exact f1 _ _ h
    | rs => exact f1 _ _ h
end
section
variable {K : PySem.W.Frag} {σ : L2.St} {H : Hp} {ta tb te : TE} {t : TT} {D : Ends} {tz : TS}
/-- xs.extend(ys), two lists -/
theorem s_ext {l b : Addr} {xs zs : List V} (hl : H l = some (.lst xs)) (hb : H b = some (.lst zs)) (ha : Ev ta σ H (.ref l)) (h : Ev te σ H (.ref b)) (hz : xs.length + zs.length ≤ 100000) (k : ∀ H1, Ex H H1 → D.nx σ (upd H1 l (.lst (xs ++ zs)))) :
    tDrop (tBM K "list" rExtend ta (tCons te tNil)) D σ H := ha H (Ex.refl H) _ fun H1 e1 =>
  ⟨Or.inl ⟨rfl, xs, sq_of (e1 l _ hl)⟩, h H1 e1 _ fun H2 e2 => ⟨l, b, xs, zs, rfl, rfl, e2 l _ (e1 l _ hl), e2 b _ (e1 b _ hb), sz_of hz, k H2 (e1.trans e2)⟩⟩
theorem q_ext {l b : Addr} {xs zs : List V} (hl : H l = some (.lst xs)) (hb : H b = some (.lst zs)) (ha : Ev ta σ H (.ref l)) (h : Ev te σ H (.ref b)) (hz : xs.length + zs.length ≤ 100000) (k : ∀ H1, Ex H H1 → tz D σ (upd H1 l (.lst (xs ++ zs)))) :
    tSeq (tDrop (tBM K "list" rExtend ta (tCons te tNil))) tz D σ H := s_ext (D := { D with nx := tz D }) hl hb ha h hz k
/-- xs.clear() -/
theorem s_clear {l : Addr} {xs : List V} (hl : H l = some (.lst xs)) (ha : Ev ta σ H (.ref l)) (k : ∀ H1, Ex H H1 → D.nx σ (upd H1 l (.lst []))) : tDrop (tBM0 K "list" rClear ta) D σ H := ha H (Ex.refl H) _ fun H1 e1 =>
  ⟨Or.inl ⟨rfl, xs, sq_of (e1 l _ hl)⟩, ⟨l, xs, rfl, rfl, e1 l _ hl, k H1 e1⟩⟩
end
theorem PV.append {K : PySem.W.Frag} {H : Hp} : ∀ {us vs : List V} {ds es : List Deed}, PV K H us ds → PV K H vs es → PV K H (us ++ vs) (ds ++ es)
  | _, _, _, _, .nil, h => h
  | _, _, _, _, .cons a t, h => .cons a (PV.append t h)
theorem sh_deeds (ds : List Deed) : Sh 2 (.list (ds.map fun d => .tuple d.dat)) := sh_lst fun x hx => by
  obtain ⟨d, _, rfl⟩ := List.mem_map.mp hx
  exact d.sh
theorem sh_two (ds es : List Deed) : Sh 3 (.tuple [.list (ds.map fun d => .tuple d.dat), .list (es.map fun d => .tuple d.dat)]) := sh_tup fun x hx => by
  simp only [List.mem_cons, List.not_mem_nil, or_false] at hx
  rcases hx with rfl | rfl
  · exact sh_deeds _
  · exact sh_deeds _
theorem PV.dp {K : PySem.W.Frag} {H : Hp} {p : Addr} {us : List V} {ds : List Deed} (h : SqL K H p us) (q : PV K H us ds) : Dp K H (.ref p) (.list (ds.map fun d => .tuple d.dat)) := .lst h (dpa_of q)
theorem eqv_deeds_nil (ds : List Deed) : PyData.eqv (.list (ds.map fun d => .tuple d.dat)) (.list []) = decide (ds = []) := by
  cases ds with
  | nil => simp [PyData.eqv, PyData.eqvAll]
  | cons d r => simp [PyData.eqv, PyData.eqvAll]
theorem getD_zero (ds : List Deed) : ds.getD 0 .rs = ds.headD .rs := by cases ds <;> rfl
/-- the rule that a beat is done by -/
def rule2 (r : Rule) : Rule := if r = .wait then .left else r
theorem rule2_ne (r : Rule) : rule2 r ≠ .wait := by cases r <;> decide
theorem one_eq (r : Rule) (S : Sts) : one r S = after S (beat (rule2 r) S.ws (S.l.headD .rs) (if waits r S = true then .rs else S.r.headD .rs)) (waits r S) := by
  unfold one
  by_cases h : waits r S = true
  · have hr : r = .wait := by
      unfold waits at h
      rw [Bool.and_eq_true] at h
      exact of_decide_eq_true h.1
    rw [if_pos h, if_pos h, h, hr]
    rfl
  · have h2 : waits r S = false := by
      cases q : waits r S with
      | true => exact absurd q h
      | false => rfl
    rw [if_neg h, if_neg h, h2]
    cases r <;> rfl
theorem Draw.out {H : Hp} {h l p : Addr} (D : Draw H h l) (hp : H p = none) : ¬ p ∈ [h, l] := by
  obtain ⟨_, _, _, q1, q2, _⟩ := D.st
  simp only [List.mem_cons, List.not_mem_nil, or_false]
  rintro (rfl | rfl)
  · rw [hp] at q1; cases q1
  · rw [hp] at q2; cases q2
theorem rule_at {i : Nat} {x : V} (h : ruleNames[i]? = some x) : ∃ r : Rule, x = .str r.name := by
  match i, h with
  | 0, h => exact ⟨.old, (Option.some.inj h).symm⟩
  | 1, h => exact ⟨.new, (Option.some.inj h).symm⟩
  | 2, h => exact ⟨.left, (Option.some.inj h).symm⟩
  | 3, h => exact ⟨.right, (Option.some.inj h).symm⟩
  | 4, h => exact ⟨.wait, (Option.some.inj h).symm⟩
  | i + 5, h => simp [ruleNames] at h
/-- worths as data -/
def wD (ws : List Nat) : List PyData := ws.map fun (n : Nat) => PyData.int (n : Int)
theorem dpa_w {K : PySem.W.Frag} {H : Hp} : ∀ ws : List Nat, DpAll K H (ws.map wV) (wD ws)
  | [] => .nil
  | n :: r => .cons (.int (n : Int)) (dpa_w r)
theorem nice_w {ws : List Nat} {n : Nat} (h : ws.length ≤ 1000) : Nice (n + 1) (.list (wD ws)) := .lst (by unfold wD; rw [List.length_map]; exact h) fun d hd => by
  obtain ⟨x, _, rfl⟩ := List.mem_map.mp hd
  exact .int _
theorem nice_wT {ws : List Nat} {n : Nat} (h : ws.length ≤ 1000) : Nice (n + 1) (.tuple (wD ws)) := .tup (by unfold wD; rw [List.length_map]; exact h) fun d hd => by
  obtain ⟨x, _, rfl⟩ := List.mem_map.mp hd
  exact .int _
theorem rdl_wrl (u : List Nat) (d : Deed) : rdl (wrl u d) d = rdl u d := by cases d <;> rfl
def looksK (a b c d : V) : List (Key × V) := [(.inr "old", a), (.inr "new", b), (.inr "left", c), (.inr "right", d)]
def lookOf (r : Rule) (a b c d : V) : V := match r with
  | .old => a | .new => b | .left => c | .right => d | .wait => c
theorem looks_at (r : Rule) (hr : r ≠ .wait) (a b c d : V) : valV (mergeK [] (looksK a b c d)) (.inr r.name) = some (lookOf r a b c d) := by
  cases r with
  | old => rfl
  | new => rfl
  | left => rfl
  | right => rfl
  | wait => exact absurd rfl hr
/-- the written things of the rules' file: the text of the rules, their defs -/
def Rule.step : Rule → Str
  | .old => "step_old" | .new => "step_new" | .left => "step_left" | .right => "step_right" | .wait => "step_left"
theorem in_rules (r : Rule) : inV (.str r.name) ruleNames = true := by cases r <;> decide +kernel
structure TxR (K : PySem.W.Frag) (mg : Str → Option Value) (w : World) (aRULES aSTEPS : Addr) : Prop where
  g_RULES : mg "RULES" = some (.ref aRULES)
  RULES : ∀ H, SqT K H aRULES ruleNames
  g_STEPS : mg "STEPS" = some (.ref aSTEPS)
  STEPS : ∀ r : Rule, ∃ f, mg r.step = some (.ref f) ∧ KDct K w aSTEPS r.name (.ref f)
/-- the beats in which two programs clash -/
def clashesD (ds es : List Deed) : List Nat := (List.range (min ds.length es.length)).filter fun i => clashD (ds.getD i .rs) (es.getD i .rs)
theorem clashD_comm (d e : Deed) : clashD d e = clashD e d := by
  unfold clashD
  cases d.cell with
  | none => cases e.cell <;> rfl
  | some a =>
    cases e.cell with
    | none => rfl
    | some b =>
      show (decide (a = b) && (d.isW || e.isW)) = (decide (b = a) && (e.isW || d.isW))
      rw [Bool.or_comm, show decide (a = b) = decide (b = a) from decide_eq_decide.mpr eq_comm]
theorem clashesD_comm (ds es : List Deed) : clashesD ds es = clashesD es ds := by
  unfold clashesD
  rw [Nat.min_comm]
  congr 1
  funext i
  exact clashD_comm _ _
/-- those ahead of a beat -/
def clashesTo (ds es : List Deed) (n : Nat) : List Nat := (List.range n).filter fun i => clashD (ds.getD i .rs) (es.getD i .rs)
theorem clashesTo_succ (ds es : List Deed) (n : Nat) : clashesTo ds es (n + 1) = if clashD (ds.getD n .rs) (es.getD n .rs) = true then clashesTo ds es n ++ [n] else clashesTo ds es n := by
  unfold clashesTo
  rw [List.range_succ, List.filter_append, List.filter_cons, List.filter_nil]
  split
  · rfl
  · rw [List.append_nil]
theorem clashesTo_length (ds es : List Deed) (n : Nat) : (clashesTo ds es n).length ≤ n := by
  have h := List.length_filter_le (fun i => clashD (ds.getD i .rs) (es.getD i .rs)) (List.range n)
  rw [List.length_range] at h
  exact h
theorem rc_min {H : Hp} {i j : Int} : RC (fun xs H Q => ∃ i j, xs = [V.int i, V.int j] ∧ Q (.int (if j < i then j else i)) H) [.int i, .int j] H (.int (if j < i then j else i)) := fun H1 _ _ q => ⟨i, j, rfl, q H1 (Ex.refl H1)⟩
/-! ### what the top has written -/
theorem txp_mk {K : PySem.W.Frag} {h : Heap} {mg : Str → Option Value} {aR aW : Addr} {t4 t40 t1 u0 u1 u2 : Tok} {d1 d2 : Option Addr} {n1 n2 : Nat} {sl1 sl2 : Array (Option Value)} (X : K.In h) (G : h.Ns mainGlobals mg)
    (a1 : PySem.W.nsIn K mainGlobals "REST" = some (some (.ref aR))) (l1 : K.lookup aR = some ⟨.type "tuple", d1, .seq #[.str "rest" t1] n1, sl1⟩)
    (a2 : PySem.W.nsIn K mainGlobals "WORTHS" = some (some (.ref aW))) (l2 : K.lookup aW = some ⟨.type "tuple", d2, .seq #[.int 0 u0, .int 1 u1, .int 2 u2] n2, sl2⟩)
    (c4 : PySem.W.nsIn K mainGlobals "MOST_CELLS" = some (some (.int 4 t4))) (c40 : PySem.W.nsIn K mainGlobals "MOST_DEEDS" = some (some (.int 40 t40))) : TxP K mg aR aW t4 t40 :=
  ⟨PySem.W.mg_of X G a1, sqt_K l1 (by show 1 ≤ sizeLine; decide) (.cons ⟨_, rfl⟩ .nil), PySem.W.mg_of X G a2, sqt_K l2 (by show 3 ≤ sizeLine; decide) (.cons ⟨_, rfl⟩ (.cons ⟨_, rfl⟩ (.cons ⟨_, rfl⟩ .nil))), PySem.W.mg_of X G c4, PySem.W.mg_of X G c40⟩
theorem txr_mk {K : PySem.W.Frag} {h : Heap} {mg : Str → Option Value} {w : World} {aR aS : Addr} {t1 t2 t3 t4 t5 : Tok} {d1 : Option Addr} {n1 n : Nat} {sl1 : Array (Option Value)} {es : Array DictEntry} {f1 f2 f3 f4 : Addr} (X : K.In h) (G : h.Ns mainGlobals mg)
    (a1 : PySem.W.nsIn K mainGlobals "RULES" = some (some (.ref aR))) (l1 : K.lookup aR = some ⟨.type "tuple", d1, .seq #[.str "old" t1, .str "new" t2, .str "left" t3, .str "right" t4, .str "wait" t5] n1, sl1⟩)
    (a2 : PySem.W.nsIn K mainGlobals "STEPS" = some (some (.ref aS))) (l2 : K.lookup aS = some ⟨.type "dict", none, .dict es n, #[]⟩) (kl : PySem.W.KeysLit w.params es.toList)
    (g1 : PySem.W.nsIn K mainGlobals "step_old" = some (some (.ref f1))) (g2 : PySem.W.nsIn K mainGlobals "step_new" = some (some (.ref f2))) (g3 : PySem.W.nsIn K mainGlobals "step_left" = some (some (.ref f3))) (g4 : PySem.W.nsIn K mainGlobals "step_right" = some (some (.ref f4)))
    (k1 : PySem.W.nsIn K aS "old" = some (some (.ref f1))) (k2 : PySem.W.nsIn K aS "new" = some (some (.ref f2))) (k3 : PySem.W.nsIn K aS "left" = some (some (.ref f3))) (k4 : PySem.W.nsIn K aS "right" = some (some (.ref f4))) (k5 : PySem.W.nsIn K aS "wait" = some (some (.ref f3))) : TxR K mg w aR aS := by
  refine ⟨PySem.W.mg_of X G a1, sqt_K l1 (by show 5 ≤ sizeLine; decide) (.cons ⟨_, rfl⟩ (.cons ⟨_, rfl⟩ (.cons ⟨_, rfl⟩ (.cons ⟨_, rfl⟩ (.cons ⟨_, rfl⟩ .nil))))), PySem.W.mg_of X G a2, fun r => ?_⟩
  cases r with
  | old => exact ⟨f1, PySem.W.mg_of X G g1, es, n, _, l2, kl, k1, rfl⟩
  | new => exact ⟨f2, PySem.W.mg_of X G g2, es, n, _, l2, kl, k2, rfl⟩
  | left => exact ⟨f3, PySem.W.mg_of X G g3, es, n, _, l2, kl, k3, rfl⟩
  | right => exact ⟨f4, PySem.W.mg_of X G g4, es, n, _, l2, kl, k4, rfl⟩
  | wait => exact ⟨f3, PySem.W.mg_of X G g3, es, n, _, l2, kl, k5, rfl⟩
theorem nb_mk {K : PySem.W.Frag} {h : Heap} {mg : Str → Option Value} (X : K.In h) (G : h.Ns mainGlobals mg)
    (h1 : PySem.W.nsIn K mainGlobals "len" = some none) (h2 : PySem.W.nsIn K mainGlobals "isinstance" = some none) (h3 : PySem.W.nsIn K mainGlobals "max" = some none) (h4 : PySem.W.nsIn K mainGlobals "min" = some none)
    (h5 : PySem.W.nsIn K mainGlobals "range" = some none) (h6 : PySem.W.nsIn K mainGlobals "enumerate" = some none) (h7 : PySem.W.nsIn K mainGlobals "zip" = some none) (h8 : PySem.W.nsIn K mainGlobals "list" = some none)
    (h9 : PySem.W.nsIn K mainGlobals "tuple" = some none) (h10 : PySem.W.nsIn K mainGlobals "int" = some none) (h11 : PySem.W.nsIn K mainGlobals "bool" = some none) (h12 : PySem.W.nsIn K mainGlobals "str" = some none) : Nb mg :=
  ⟨PySem.W.mg_none_of X G h1, PySem.W.mg_none_of X G h2, PySem.W.mg_none_of X G h3, PySem.W.mg_none_of X G h4, PySem.W.mg_none_of X G h5, PySem.W.mg_none_of X G h6, PySem.W.mg_none_of X G h7, PySem.W.mg_none_of X G h8, PySem.W.mg_none_of X G h9, PySem.W.mg_none_of X G h10, PySem.W.mg_none_of X G h11, PySem.W.mg_none_of X G h12⟩
end Db

namespace Zen
open PySem PySem.Spec PyProof.Rows L2
section
variable {prog : Program} {w : World} {A : Around} {E : Value → Shared → Prop} {s : Shared}
/-- a zip between two draws: its own tuple never given away, or given away (whether that one still lives is not known) -/
def ZipAt (h : Heap) (z TI TO : Addr) : Prop := IsZip h z TI TO .none ∨ ∃ (T : Addr) (f : Bool), IsZipHeld h z TI TO T f
theorem ZipAt.lt {h : Heap} {z TI TO : Addr} (q : ZipAt h z TI TO) : ∃ o, h.get? z = some o ∧ ∀ v, o.data ≠ .cell v := by
  rcases q with q | ⟨T, f, q⟩
  · exact ⟨_, q, fun v c => nomatch c⟩
  · exact ⟨_, q, fun v c => nomatch c⟩
theorem ZipAt.keep {h h' : Heap} {z TI TO : Addr} (q : ZipAt h z TI TO) (k : ∀ o, h.get? z = some o → h'.get? z = some o) : ZipAt h' z TI TO := by
  rcases q with q | ⟨T, f, q⟩
  · exact .inl (k _ q)
  · exact .inr ⟨T, f, k _ q⟩
/-- what a draw leaves -/
structure Drawn2 (h h' : Heap) (z TI TO i1 i2 l1 l2 : Addr) (k : Nat) (x y : Value) : Prop where
  zip : ZipAt h' z TI TO
  own : ∃ a b, IsPair h' TO a b
  it1 : h'.IsListIter i1 l1 (k + 1)
  it2 : h'.IsListIter i2 l2 (k + 1)
  new : IsPair h' h.objs.size x y
  size : h'.objs.size = h.objs.size + 1
  keep : ∀ c o, c ≠ z → c ≠ TO → c ≠ i1 → c ≠ i2 → h.get? c = some o → h'.get? c = some o
theorem gone {a : Addr} {Q : Option Obj → Shared → Prop} (ho : s.heap.get? a = none) (h : Q none s) : wpAny (model prog w) A (loadIfAlive a) Q E s := by
  have q : Q (s.heap.get? a) s := by rw [ho]; exact h
  exact fun _ _ _ => q
theorem free_dead {z TI TO T : Addr} {f : Bool} {Q : Bool → Shared → Prop} (hz : IsZipHeld s.heap z TI TO T f) (hT : s.heap.get? T = none) (h : Q true s) : wpAny (model prog w) A (Builtin.SmallTypes.ownedTupleIsFree (.ref z)) Q E s := by
  unfold Builtin.SmallTypes.ownedTupleIsFree
  refine wpAny_bind (wpAny_field hz rfl (x := rawInt T) rfl ?_)
  show wpAny _ _ (loadIfAlive ((T : Int).toNat) >>= _) _ _ _
  rw [Int.toNat_natCast]
  refine wpAny_bind (gone hT ?_)
  exact wpAny_pure h
/-- the next pair, the tuple that was given away dead -/
theorem item_dead {z TI TO T i1 i2 l1 l2 : Addr} {f : Bool} {k : Nat} {xs ys : Array Value} {x y a b : Value} {Q : Value → Shared → Prop} (D : ZipApart z TI TO i1 i2 l1 l2) (hz : IsZipHeld s.heap z TI TO T f) (hT : s.heap.get? T = none)
    (hTI : IsPair s.heap TI (.ref i1) (.ref i2)) (hTO : IsPair s.heap TO a b) (h1 : s.heap.IsListIter i1 l1 k) (h2 : s.heap.IsListIter i2 l2 k) (hl1 : s.heap.IsList l1 xs) (hl2 : s.heap.IsList l2 ys) (hx : xs[k]? = some x) (hy : ys[k]? = some y)
    (hQ : ∀ g, Drawn2 s.heap g z TI TO i1 i2 l1 l2 k x y → Q (.ref s.heap.objs.size) { s with heap := g }) :
    wpAny (model prog w) A (Builtin.«zip.__next__» ⟨[.ref z], []⟩) (fun fin s' => ∃ v, fin = .done (.ret v) ∧ Q v s') E s := by
  show wpAny _ _ (field (.ref z) 2 >>= _) _ _ _
  refine wpAny_bind (wpAny_field hz rfl (x := .bool false) rfl ?_)
  show wpAny _ _ (field (.ref z) 3 >>= _) _ _ _
  refine wpAny_bind (wpAny_field hz rfl (x := .ref TI) rfl ?_)
  refine wpAny_bind (wpAny_seqItems hTI rfl ?_)
  show wpAny _ _ (Builtin.SmallTypes.ownedTupleIsFree (.ref z) >>= _) _ _ _
  refine wpAny_bind (free_dead hz hT ?_)
  simp only [if_true]
  refine wpAny_bind (wpAny_rule (wpAny_bind (wpAny_field hz rfl (x := .ref TO) rfl ?_)))
  refine wpAny_bind (wpAny_setField_rec hz (by simp) fun g1 zg1 e1 => ?_)
  replace zg1 : g1.get? z = some { cls := .type "zip", dict := none, data := .fields #[.ellipsis, .bool f, .bool false, .ref TI, .ref TO], slots := #[] } := zg1
  refine wpAny_bind ?_
  simp only [List.zipIdx_cons, List.zipIdx_nil, List.forIn_cons, List.forIn_nil]
  refine wpAny_bind (wpAny_bind (wpAny_onRaise ?_))
  show wpAny _ _ (Builtin.SmallTypes.nextOf (.ref i1) >>= _) _ _ _
  refine wpAny_bind (wpAny_nextOf_list_item (h1.extBut e1.extBut D.i1z) (hl1.extBut e1.extBut D.l1z) hx fun g2 a1 e2 => wpAny_pure ?_)
  have p2 : IsPair g2 TO a b := e2.extBut _ _ D.TOi1 (e1.extBut _ _ D.TOz hTO)
  refine wpAny_bind (wpAny_seqItems p2 rfl (wpAny_bind (wpAny_updateSeq_pair p2 fun g3 p3 e3 => ?_)))
  replace p3 : IsPair g3 TO x b := p3
  refine wpAny_bind (wpAny_letGo (wpAny_pure (wpAny_bind (wpAny_bind (wpAny_onRaise ?_)))))
  show wpAny _ _ (Builtin.SmallTypes.nextOf (.ref i2) >>= _) _ _ _
  refine wpAny_bind (wpAny_nextOf_list_item (((h2.extBut e1.extBut D.i2z).extBut e2.extBut D.i12.symm).extBut e3.extBut D.TOi2.symm) (((hl2.extBut e1.extBut D.l2z).extBut e2.extBut D.l2i1).extBut e3.extBut D.l2TO) hy fun g4 a2 e4 => wpAny_pure ?_)
  have p4 : IsPair g4 TO x b := e4.extBut _ _ D.TOi2 p3
  refine wpAny_bind (wpAny_seqItems p4 rfl (wpAny_bind (wpAny_updateSeq_pair p4 fun g5 p5 e5 => ?_)))
  replace p5 : IsPair g5 TO x y := p5
  refine wpAny_bind (wpAny_letGo (wpAny_pure (wpAny_pure (wpAny_bind (wpAny_seqItems p5 rfl (wpAny_bind (wpAny_newTuple ?_)))))))
  have n5 : g5.objs.size = s.heap.objs.size := by rw [e5.1, e4.1, e3.1, e2.1, e1.1]
  have z5 : g5.get? z = some { cls := .type "zip", dict := none, data := .fields #[.ellipsis, .bool f, .bool false, .ref TI, .ref TO], slots := #[] } := e5.extBut _ _ D.TOz.symm (e4.extBut _ _ D.i2z.symm (e3.extBut _ _ D.TOz.symm (e2.extBut _ _ D.i1z.symm zg1)))
  have k5 : ∀ c o, c ≠ z → c ≠ TO → c ≠ i1 → c ≠ i2 → s.heap.get? c = some o → g5.get? c = some o := fun c o q1 q2 q3 q4 q => e5.extBut _ _ q2 (e4.extBut _ _ q4 (e3.extBut _ _ q2 (e2.extBut _ _ q3 (e1.extBut _ _ q1 q))))
  have b1 : g5.IsListIter i1 l1 (k + 1) := ((a1.extBut e3.extBut D.TOi1.symm).extBut e4.extBut D.i12).extBut e5.extBut D.TOi1.symm
  have b2 : g5.IsListIter i2 l2 (k + 1) := a2.extBut e5.extBut D.TOi2.symm
  have zlt : z < g5.objs.size := Heap.lt_size z5
  show wpAny _ _ (Builtin.SmallTypes.ownedTupleHandOut (.ref z) (.ref g5.objs.size) >>= _) _ _ _
  refine wpAny_bind ?_
  unfold Builtin.SmallTypes.ownedTupleHandOut
  refine wpAny_bind (wpAny_setField_rec (Heap.get?_push_of_some _ z5) (by simp) fun g7 z7 e7 => wpAny_setField_rec z7 (by simp) fun g8 z8 e8 => wpAny_pure ⟨_, rfl, ?_⟩)
  have up : ∀ c o, c ≠ z → g5.get? c = some o → g8.get? c = some o := fun c o q1 q => e8.extBut _ _ q1 (e7.extBut _ _ q1 (Heap.get?_push_of_some _ q))
  have t8 : IsPair g8 g5.objs.size x y := e8.extBut _ _ (Nat.ne_of_gt zlt) (e7.extBut _ _ (Nat.ne_of_gt zlt) (Heap.get?_push_size _ rfl))
  have n8 : g8.objs.size = g5.objs.size + 1 := by rw [e8.1, e7.1, Heap.size_push]
  show Q (.ref g5.objs.size) _
  have zh : IsZipHeld g8 z TI TO g5.objs.size false := z8
  rw [n5] at zh t8 n8 ⊢
  exact hQ g8 ⟨.inr ⟨_, _, zh⟩, ⟨_, _, up _ _ D.TOz p5⟩, b1.at fun o q => up _ o D.i1z q, b2.at fun o q => up _ o D.i2z q, t8, n8, fun c o q1 q2 q3 q4 q => up c o q1 (k5 c o q1 q2 q3 q4 q)⟩
/-- the next pair, at any place between two draws -/
theorem item_any {z TI TO i1 i2 l1 l2 : Addr} {k : Nat} {xs ys : Array Value} {x y a b : Value} {Q : Value → Shared → Prop} (D : ZipApart z TI TO i1 i2 l1 l2) (hz : ZipAt s.heap z TI TO)
    (hTI : IsPair s.heap TI (.ref i1) (.ref i2)) (hTO : IsPair s.heap TO a b) (h1 : s.heap.IsListIter i1 l1 k) (h2 : s.heap.IsListIter i2 l2 k) (hl1 : s.heap.IsList l1 xs) (hl2 : s.heap.IsList l2 ys) (hx : xs[k]? = some x) (hy : ys[k]? = some y)
    (hQ : ∀ g, Drawn2 s.heap g z TI TO i1 i2 l1 l2 k x y → Q (.ref s.heap.objs.size) { s with heap := g }) :
    wpAny (model prog w) A (Builtin.«zip.__next__» ⟨[.ref z], []⟩) (fun fin s' => ∃ v, fin = .done (.ret v) ∧ Q v s') E s := by
  rcases hz with hz | ⟨T, f, hz⟩
  · exact zip_next_item D hz hTI hTO h1 h2 hl1 hl2 hx hy fun g q1 q2 q3 q4 q5 q6 q7 => hQ g ⟨.inr ⟨_, false, q1⟩, ⟨_, _, q2⟩, q3, q4, q5, q6, q7⟩
  · cases hT : s.heap.get? T with
    | none => exact item_dead D hz hT hTI hTO h1 h2 hl1 hl2 hx hy hQ
    | some oT => exact zip_next_item_held D hz hT hTI h1 h2 hl1 hl2 hx hy fun g q1 q3 q4 q5 q6 q7 => hQ g ⟨.inr ⟨_, _, q1⟩, ⟨_, _, q7 _ _ D.TOz D.TOi1 D.TOi2 hTO⟩, q3, q4, q5, q6, fun c o c1 _ c3 c4 q => q7 c o c1 c3 c4 q⟩
/-- no more pairs -/
theorem end_dead {z TI TO T i1 i2 l1 l2 : Addr} {f : Bool} {k : Nat} {xs ys : Array Value} {a b : Value} {Q : Fin → Shared → Prop} (hh : A.handled = none) (D : ZipApart z TI TO i1 i2 l1 l2) (hz : IsZipHeld s.heap z TI TO T f) (hT : s.heap.get? T = none)
    (hTI : IsPair s.heap TI (.ref i1) (.ref i2)) (hTO : IsPair s.heap TO a b) (h1 : s.heap.IsListIter i1 l1 k) (h2 : s.heap.IsListIter i2 l2 k) (hl1 : s.heap.IsList l1 xs) (hl2 : s.heap.IsList l2 ys) (hend : xs[k]? = none ∨ ys[k]? = none)
    (hE : ∀ g e, (∀ c o, c ≠ z → c ≠ TO → c ≠ i1 → c ≠ i2 → s.heap.get? c = some o → g.get? c = some o) → (∃ o, g.get? e = some o ∧ o.cls = .type "StopIteration") → E (.ref e) { s with heap := g }) :
    wpAny (model prog w) A (Builtin.«zip.__next__» ⟨[.ref z], []⟩) Q E s := by
  show wpAny _ _ (field (.ref z) 2 >>= _) _ _ _
  refine wpAny_bind (wpAny_field hz rfl (x := .bool false) rfl ?_)
  show wpAny _ _ (field (.ref z) 3 >>= _) _ _ _
  refine wpAny_bind (wpAny_field hz rfl (x := .ref TI) rfl ?_)
  refine wpAny_bind (wpAny_seqItems hTI rfl ?_)
  show wpAny _ _ (Builtin.SmallTypes.ownedTupleIsFree (.ref z) >>= _) _ _ _
  refine wpAny_bind (free_dead hz hT ?_)
  simp only [if_true]
  refine wpAny_bind (wpAny_rule (wpAny_bind (wpAny_field hz rfl (x := .ref TO) rfl ?_)))
  refine wpAny_bind (wpAny_setField_rec hz (by simp) fun g1 zg1 e1 => ?_)
  replace zg1 : g1.get? z = some { cls := .type "zip", dict := none, data := .fields #[.ellipsis, .bool f, .bool false, .ref TI, .ref TO], slots := #[] } := zg1
  refine wpAny_bind ?_
  simp only [List.zipIdx_cons, List.zipIdx_nil, List.forIn_cons, List.forIn_nil]
  refine wpAny_bind (wpAny_bind (wpAny_onRaise ?_))
  show wpAny _ _ (Builtin.SmallTypes.nextOf (.ref i1) >>= _) _ _ _
  cases hx : xs[k]? with
  | none =>
    refine wpAny_bind (wpAny_nextOf_list_end hh (h1.extBut e1.extBut D.i1z) (hl1.extBut e1.extBut D.l1z) hx fun g2 e e2 he => ?_)
    obtain ⟨oe, hoe, hce⟩ := he
    have z2 := e2 _ _ D.i1z.symm zg1
    have nez : e ≠ z := fun q => by subst q; rw [z2] at hoe; cases hoe; simp at hce
    exact wpAny_setField_rec z2 (by simp) fun g3 _ e3 => hE g3 e (fun c o c1 _ c3 _ q => e3.extBut _ _ c1 (e2 _ _ c3 (e1.extBut _ _ c1 q))) ⟨oe, e3.extBut _ _ nez hoe, hce⟩
  | some x =>
    have hy : ys[k]? = none := by
      rcases hend with q | q
      · rw [hx] at q; cases q
      · exact q
    refine wpAny_bind (wpAny_nextOf_list_item (h1.extBut e1.extBut D.i1z) (hl1.extBut e1.extBut D.l1z) hx fun g2 a1 e2 => wpAny_pure ?_)
    have p2 : IsPair g2 TO a b := e2.extBut _ _ D.TOi1 (e1.extBut _ _ D.TOz hTO)
    refine wpAny_bind (wpAny_seqItems p2 rfl (wpAny_bind (wpAny_updateSeq_pair p2 fun g3 p3 e3 => wpAny_bind (wpAny_letGo (wpAny_pure ?_)))))
    refine wpAny_bind (wpAny_bind (wpAny_onRaise ?_))
    show wpAny _ _ (Builtin.SmallTypes.nextOf (.ref i2) >>= _) _ _ _
    refine wpAny_bind (wpAny_nextOf_list_end hh (((h2.extBut e1.extBut D.i2z).extBut e2.extBut D.i12.symm).extBut e3.extBut D.TOi2.symm) (((hl2.extBut e1.extBut D.l2z).extBut e2.extBut D.l2i1).extBut e3.extBut D.l2TO) hy fun g4 e e4 he => ?_)
    obtain ⟨oe, hoe, hce⟩ := he
    have z4 := e4 _ _ D.i2z.symm (e3.extBut _ _ D.TOz.symm (e2.extBut _ _ D.i1z.symm zg1))
    have nez : e ≠ z := fun q => by subst q; rw [z4] at hoe; cases hoe; simp at hce
    exact wpAny_setField_rec z4 (by simp) fun g5 _ e5 => hE g5 e (fun c o c1 c2 c3 c4 q => e5.extBut _ _ c1 (e4 _ _ c4 (e3.extBut _ _ c2 (e2.extBut _ _ c3 (e1.extBut _ _ c1 q))))) ⟨oe, e5.extBut _ _ nez hoe, hce⟩
theorem end_any {z TI TO i1 i2 l1 l2 : Addr} {k : Nat} {xs ys : Array Value} {a b : Value} {Q : Fin → Shared → Prop} (hh : A.handled = none) (D : ZipApart z TI TO i1 i2 l1 l2) (hz : ZipAt s.heap z TI TO)
    (hTI : IsPair s.heap TI (.ref i1) (.ref i2)) (hTO : IsPair s.heap TO a b) (h1 : s.heap.IsListIter i1 l1 k) (h2 : s.heap.IsListIter i2 l2 k) (hl1 : s.heap.IsList l1 xs) (hl2 : s.heap.IsList l2 ys) (hend : xs[k]? = none ∨ ys[k]? = none)
    (hE : ∀ g e, (∀ c o, c ≠ z → c ≠ TO → c ≠ i1 → c ≠ i2 → s.heap.get? c = some o → g.get? c = some o) → (∃ o, g.get? e = some o ∧ o.cls = .type "StopIteration") → E (.ref e) { s with heap := g }) :
    wpAny (model prog w) A (Builtin.«zip.__next__» ⟨[.ref z], []⟩) Q E s := by
  rcases hz with hz | ⟨T, f, hz⟩
  · exact zip_next_end hh D hz hTI hTO h1 h2 hl1 hl2 hend hE
  · cases hT : s.heap.get? T with
    | none => exact end_dead hh D hz hT hTI hTO h1 h2 hl1 hl2 hend hE
    | some oT => exact zip_next_end_held hh D hz hT hTI h1 h2 hl1 hl2 hend fun g e q r => hE g e (fun c o c1 _ c3 c4 x => q c o c1 c3 c4 x) r
theorem ZipAt.ty {z TI TO : Addr} (q : ZipAt s.heap z TI TO) : s.TypeIs (.ref z) "zip" := by
  rcases q with q | ⟨T, f, q⟩
  · exact ⟨_, q, rfl⟩
  · exact ⟨_, q, rfl⟩
/-- an enumerate over a zip: the next pair of a number and a pair -/
theorem en_item {e z TI TO i1 i2 l1 l2 : Addr} {k : Nat} {xs ys : Array Value} {x y a b old : Value} {Q : Option Value → Shared → Prop} (D : ZipApart z TI TO i1 i2 l1 l2) (he : IsEnum s.heap e z ((k : Nat) : Int) old) (hne : e ≠ z ∧ e ≠ TO ∧ e ≠ i1 ∧ e ≠ i2 ∧ e ≠ TI) (hz : ZipAt s.heap z TI TO)
    (hTI : IsPair s.heap TI (.ref i1) (.ref i2)) (hTO : IsPair s.heap TO a b) (h1 : s.heap.IsListIter i1 l1 k) (h2 : s.heap.IsListIter i2 l2 k) (hl1 : s.heap.IsList l1 xs) (hl2 : s.heap.IsList l2 ys) (hx : xs[k]? = some x) (hy : ys[k]? = some y)
    (hQ : ∀ g g1, Drawn2 s.heap g1 z TI TO i1 i2 l1 l2 k x y → IsEnumOut g e z ((k : Int) + 1) (.ref s.heap.objs.size) (s.heap.objs.size + 1) → g.get? (s.heap.objs.size + 1) = some { cls := .type "tuple", data := .seq #[.int k s.toks, .ref s.heap.objs.size] } →
      g.objs.size = s.heap.objs.size + 2 → (∀ c o, c ≠ e → g1.get? c = some o → g.get? c = some o) → Q (some (.ref (s.heap.objs.size + 1))) { s with heap := g, toks := s.toks + 1 }) :
    wpAny (model prog w) A (pyNext (.ref e)) Q E s := by
  have ty : s.TypeIs (.ref e) "enumerate" := ⟨_, he, rfl⟩
  unfold pyNext
  refine wpAny_bind (wpAny_attempt (wpAny_callSpecial?_slot (name := Str.ofString "__next__") ty F.slot_enumerate_next (wpAny_call_entry F.slot_enumerate_next ty F.entry_enumerate_next ?_ (F.args_enumerate_next_1 _))))
  show wpAny _ _ (field (.ref e) 2 >>= _) _ _ _
  refine wpAny_bind (wpAny_field he rfl (x := .ref z) rfl ?_)
  refine wpAny_bind ?_
  unfold Builtin.SmallTypes.nextOf
  refine wpAny_bind (wpAny_callSpecial?_slot (name := Str.ofString "__next__") hz.ty F.slot_zip_next (wpAny_call_entry F.slot_zip_next hz.ty F.entry_zip_next (item_any D hz hTI hTO h1 h2 hl1 hl2 hx hy fun g1 d1 => ?_) (F.args_zip_next_1 _)))
  refine wpAny_pure ?_
  have he1 : IsEnum g1 e z ((k : Nat) : Int) old := d1.keep _ _ hne.1 hne.2.1 hne.2.2.1 hne.2.2.2.1 he
  have elt : e < s.heap.objs.size := Heap.lt_size he
  show wpAny _ _ (field (.ref e) 3 >>= _) _ _ _
  refine wpAny_bind (wpAny_field he1 rfl (x := rawInt ((k : Nat) : Int)) rfl ?_)
  show wpAny _ _ (field (.ref e) 4 >>= _) _ _ _
  refine wpAny_bind (wpAny_field he1 rfl (x := .none) rfl ?_)
  show wpAny _ _ (mkInt ((k : Nat) : Int) >>= _) _ _ _
  refine wpAny_bind (wpAny_mkInt ?_)
  show wpAny _ _ (setField (.ref e) 3 (rawInt ((k : Int) + 1)) >>= _) _ _ _
  refine wpAny_bind (wpAny_setField_rec he1 (by simp) fun g2 he2 e2 => ?_)
  replace he2 : IsEnum g2 e z ((k : Int) + 1) old := he2
  show wpAny _ _ (setField (.ref e) 4 .none >>= _) _ _ _
  refine wpAny_bind (wpAny_setField_rec he2 (by simp) fun g3 he3 e3 => ?_)
  replace he3 : IsEnum g3 e z ((k : Int) + 1) old := he3
  have n3 : g3.objs.size = s.heap.objs.size + 1 := by rw [e3.1, e2.1]; exact d1.size
  show wpAny _ _ (newTuple [.int k s.toks, .ref s.heap.objs.size] >>= _) _ _ _
  refine wpAny_bind (wpAny_newTuple ?_)
  show wpAny _ _ (Builtin.SmallTypes.ownedTupleIsFree (.ref e) >>= _) _ _ _
  have he4 : IsEnum (g3.push { cls := .type "tuple", data := .seq #[.int k s.toks, .ref s.heap.objs.size] }) e z ((k : Int) + 1) old := Heap.get?_push_of_some _ he3
  have t4 : (g3.push { cls := .type "tuple", data := .seq #[.int k s.toks, .ref s.heap.objs.size] }).get? (s.heap.objs.size + 1) = some { cls := .type "tuple", data := .seq #[.int k s.toks, .ref s.heap.objs.size] } := by rw [← n3]; exact Heap.get?_push_size _ rfl
  have n4 : (g3.push { cls := .type "tuple", data := .seq #[.int k s.toks, .ref s.heap.objs.size] }).objs.size = s.heap.objs.size + 2 := by rw [Heap.size_push, n3]
  have k4 : ∀ c o, c ≠ e → g1.get? c = some o → (g3.push { cls := .type "tuple", data := .seq #[.int k s.toks, .ref s.heap.objs.size] }).get? c = some o := fun c o q r => Heap.get?_push_of_some _ (e3.extBut _ _ q (e2.extBut _ _ q r))
  rw [n3]
  generalize g3.push { cls := .type "tuple", data := .seq #[.int k s.toks, .ref s.heap.objs.size] } = g4 at he4 t4 n4 k4
  refine wpAny_bind ?_
  unfold Builtin.SmallTypes.ownedTupleIsFree
  refine wpAny_bind (wpAny_field he4 rfl (x := .none) rfl (wpAny_pure ?_))
  simp only [if_true]
  refine wpAny_bind (wpAny_rule (wpAny_bind (wpAny_field he4 rfl (x := old) rfl ?_)))
  refine wpAny_bind (wpAny_setField_rec he4 (by simp) fun g5 he5 e5 => ?_)
  replace he5 : IsEnum g5 e z ((k : Int) + 1) (.ref s.heap.objs.size) := he5
  show wpAny _ _ (Builtin.SmallTypes.ownedTupleHandOut (.ref e) (.ref (s.heap.objs.size + 1)) >>= _) _ _ _
  refine wpAny_bind ?_
  unfold Builtin.SmallTypes.ownedTupleHandOut
  refine wpAny_bind (wpAny_setField_rec he5 (by simp) fun g6 he6 e6 => wpAny_setField_rec he6 (by simp) fun g7 he7 e7 => wpAny_bind (wpAny_letGo (wpAny_pure ⟨_, rfl, wpAny_pure ?_⟩)))
  have up : ∀ c o, c ≠ e → g4.get? c = some o → g7.get? c = some o := fun c o q r => e7.extBut _ _ q (e6.extBut _ _ q (e5.extBut _ _ q r))
  refine hQ g7 g1 d1 he7 (up _ _ (Nat.ne_of_gt (Nat.lt_succ_of_lt elt)) t4) (by rw [e7.1, e6.1, e5.1, n4]) fun c o q r => up c o q (k4 c o q r)
theorem en_end {e z TI TO i1 i2 l1 l2 : Addr} {k : Nat} {xs ys : Array Value} {a b old : Value} {Q : Option Value → Shared → Prop} (hh : A.handled = none) (D : ZipApart z TI TO i1 i2 l1 l2) (he : IsEnum s.heap e z ((k : Nat) : Int) old) (hz : ZipAt s.heap z TI TO)
    (hTI : IsPair s.heap TI (.ref i1) (.ref i2)) (hTO : IsPair s.heap TO a b) (h1 : s.heap.IsListIter i1 l1 k) (h2 : s.heap.IsListIter i2 l2 k) (hl1 : s.heap.IsList l1 xs) (hl2 : s.heap.IsList l2 ys) (hend : xs[k]? = none ∨ ys[k]? = none)
    (hQ : ∀ g, (∀ c o, c ≠ z → c ≠ TO → c ≠ i1 → c ≠ i2 → s.heap.get? c = some o → g.get? c = some o) → Q none { s with heap := g }) : wpAny (model prog w) A (pyNext (.ref e)) Q E s := by
  have ty : s.TypeIs (.ref e) "enumerate" := ⟨_, he, rfl⟩
  unfold pyNext
  refine wpAny_bind (wpAny_attempt (wpAny_callSpecial?_slot (name := Str.ofString "__next__") ty F.slot_enumerate_next (wpAny_call_entry F.slot_enumerate_next ty F.entry_enumerate_next ?_ (F.args_enumerate_next_1 _))))
  show wpAny _ _ (field (.ref e) 2 >>= _) _ _ _
  refine wpAny_bind (wpAny_field he rfl (x := .ref z) rfl ?_)
  refine wpAny_bind ?_
  unfold Builtin.SmallTypes.nextOf
  refine wpAny_bind (wpAny_callSpecial?_slot (name := Str.ofString "__next__") hz.ty F.slot_zip_next (wpAny_call_entry F.slot_zip_next hz.ty F.entry_zip_next (end_any hh D hz hTI hTO h1 h2 hl1 hl2 hend fun g x q r => ?_) (F.args_zip_next_1 _)))
  obtain ⟨ox, hox, hcx⟩ := r
  exact wpAny_bind (wpAny_isInstance (T := "StopIteration") (b := true) ⟨ox, hox, hcx⟩ isSubtype_stop (wpAny_pure (hQ _ q)))
end
/-- the two lists as they stand at each turn: a number and a new pair of both items, in a new pair -/
def Itez (K : PySem.W.Frag) (a b : Addr) : It :=
  ⟨fun i H => ∃ (xs ys : List V) (x y : V), SqL K H a xs ∧ SqL K H b ys ∧ xs[i]? = some x ∧ ys[i]? = some y,
    fun i H v H' => ∃ (T U : Addr) (x y : V), v = .ref U ∧ H T = none ∧ (upd H T (.tup [x, y])) U = none ∧ H' = upd (upd H T (.tup [x, y])) U (.tup [.int (i : Nat), .ref T]) ∧ (∀ xs, SqL K H a xs → xs[i]? = some x) ∧ ∀ ys, SqL K H b ys → ys[i]? = some y,
    fun i H => ∃ xs ys : List V, SqL K H a xs ∧ SqL K H b ys ∧ (xs.length ≤ i ∨ ys.length ≤ i)⟩
theorem turn_ez {P : Program} {w : World} {K : PySem.W.Frag} {elts : List Expr} {kk : Nat} {tpos : Pos} {a b e z TI TO i1 i2 : Addr} (D : ZipApart z TI TO i1 i2 a b) (ne : e ≠ z ∧ e ≠ TO ∧ e ≠ i1 ∧ e ≠ i2 ∧ e ≠ TI) :
    Turn P w K (.Tuple elts kk tpos) (Itez K a b) [e, z, TI, TO, i1, i2] e (fun i h => (∃ old, IsEnum h e z ((i : Nat) : Int) old) ∧ ZipAt h z TI TO ∧ IsPair h TI (.ref i1) (.ref i2) ∧ (∃ x y, IsPair h TO x y) ∧ h.IsListIter i1 a i ∧ h.IsListIter i2 b i) where
  mem := by simp
  obj := fun i h st c hc => by
    obtain ⟨⟨old, he⟩, hz, hTI, ⟨x, y, hTO⟩, ⟨o1, e1, _, d1⟩, ⟨o2, e2, _, d2⟩⟩ := st
    have cs : c = e ∨ c = z ∨ c = TI ∨ c = TO ∨ c = i1 ∨ c = i2 := by simpa using hc
    rcases cs with q | q | q | q | q | q
    · rw [q]; exact ⟨_, he, fun v q => nomatch q⟩
    · rw [q]; exact hz.lt
    · rw [q]; exact ⟨_, hTI, fun v q => nomatch q⟩
    · rw [q]; exact ⟨_, hTO, fun v q => nomatch q⟩
    · rw [q]; exact ⟨o1, e1, fun v q => by rw [d1] at q; cases q⟩
    · rw [q]; exact ⟨o2, e2, fun v q => by rw [d2] at q; cases q⟩
  keep := fun i h h' st k => by
    obtain ⟨⟨old, he⟩, hz, hTI, ⟨x, y, hTO⟩, h1, h2⟩ := st
    exact ⟨⟨old, k e (by simp) _ he⟩, hz.keep fun o q => k z (by simp) o q, k TI (by simp) _ hTI, ⟨x, y, k TO (by simp) _ hTO⟩, h1.at fun o q => k i1 (by simp) o q, h2.at fun o q => k i2 (by simp) o q⟩
  item := by
    intro X hP hw hK hc i pins s σ H E I hf st hg
    subst hP hw hK
    obtain ⟨⟨old, he⟩, hz, hTI, ⟨x0, y0, hTO⟩, h1, h2⟩ := st
    obtain ⟨xs, ys, x, y, qx, qy, hx, hy⟩ := hg
    obtain ⟨its, rv, p1, _⟩ := I.list qx
    obtain ⟨jts, rw', p2, _⟩ := I.list qy
    obtain ⟨u, hu, ru⟩ := rv.get hx
    obtain ⟨u2, hu2, ru2⟩ := rw'.get hy
    have elt : e < s.heap.objs.size := Heap.lt_size he
    refine en_item D he ne hz hTI hTO h1 h2 p1.isList p2.isList (x := u) (y := u2) (by simpa using hu) (by simpa using hu2) fun g g1 d1 eo t2 n2 k2 => ?_
    refine ⟨_, rfl, wpAny_letOwnedTupleGo_enum (s := { s with heap := g, toks := s.toks + 1 }) eo fun g' he' sb => ?_⟩
    have m0 : ∀ c, c < s.heap.objs.size + 1 → c ≠ s.heap.objs.size + 1 := fun c q => Nat.ne_of_lt q
    have kk : ∀ c o, c ≠ e → g1.get? c = some o → g'.get? c = some o := fun c o q r => (sb.2 c q).trans (k2 c o q r)
    have tp : g'.get? s.heap.objs.size = some { cls := .type "tuple", data := .seq #[u, u2] } := kk _ _ (Nat.ne_of_gt elt) d1.new
    have tq : g'.get? (s.heap.objs.size + 1) = some { cls := .type "tuple", data := .seq #[.int i s.toks, .ref s.heap.objs.size] } := (sb.2 _ (Nat.ne_of_gt (Nat.lt_succ_of_lt elt))).trans t2
    have old' : ∀ c o, c ∉ [e, z, TI, TO, i1, i2] → s.heap.get? c = some o → g'.get? c = some o := fun c o q r => by
      simp only [List.mem_cons, List.not_mem_nil, or_false, not_or] at q
      exact kk _ _ q.1 (d1.keep _ _ q.2.1 q.2.2.2.1 q.2.2.2.2.1 q.2.2.2.2.2 r)
    have f0 : H s.heap.objs.size = none := I.hok.fresh (Nat.le_refl _)
    have tp1 : g1.get? s.heap.objs.size = some { cls := .type "tuple", data := .seq #[u, u2] } := d1.new
    have new1 : ObjOk X.prog X.w (upd H s.heap.objs.size (.tup [x, y])) g1 s.heap.objs.size (.tup [x, y]) := ⟨by show 2 ≤ sizeLine; decide, [u, u2], .cons ru (.cons ru2 .nil), ⟨_, tp1, rfl, _, rfl⟩⟩
    have I1 : Inv X pins σ (upd H s.heap.objs.size (.tup [x, y])) { s with heap := g1, toks := s.toks } := I.turnedNew (ch := [e, z, TI, TO, i1, i2]) (fun c o q r => by
      simp only [List.mem_cons, List.not_mem_nil, or_false, not_or] at q
      exact d1.keep _ _ q.2.1 q.2.2.2.1 q.2.2.2.2.1 q.2.2.2.2.2 r) hf (Nat.le_refl _) new1
    have fe : FpOk X pins (upd H s.heap.objs.size (.tup [x, y])) e := by
      obtain ⟨q0, q⟩ := hf e (by simp)
      exact ⟨by rw [upd_ne (Nat.ne_of_lt elt)]; exact q0, q⟩
    have new2 : ObjOk X.prog X.w (upd (upd H s.heap.objs.size (.tup [x, y])) (s.heap.objs.size + 1) (.tup [.int (i : Nat), .ref s.heap.objs.size])) g' (s.heap.objs.size + 1) (.tup [.int (i : Nat), .ref s.heap.objs.size]) :=
      ⟨by show 2 ≤ sizeLine; decide, [.int i s.toks, .ref s.heap.objs.size], .cons ⟨_, rfl⟩ (.cons rfl .nil), ⟨_, tq, rfl, _, rfl⟩⟩
    have I2 : Inv X pins σ (upd (upd H s.heap.objs.size (.tup [x, y])) (s.heap.objs.size + 1) (.tup [.int (i : Nat), .ref s.heap.objs.size])) { s with heap := g', toks := s.toks + 1 } :=
      I1.turnedNew (t' := s.toks + 1) (ch := [e]) (fun c o q r => kk c o (fun z => q (by simp [z])) r) (fun c hc => by rw [List.mem_singleton.mp hc]; exact fe) (Nat.le_of_eq d1.size) new2
    have gU : (upd H s.heap.objs.size (.tup [x, y])) (s.heap.objs.size + 1) = none := I1.hok.fresh (Nat.le_of_eq d1.size)
    refine ⟨.ref (s.heap.objs.size + 1), _, I2, rfl, ⟨_, _, x, y, rfl, f0, gU, rfl, fun l hl => by rw [I.list_inj hl qx]; exact hx, fun l hl => by rw [I.list_inj hl qy]; exact hy⟩, ⟨⟨.ref s.heap.objs.size, ?_⟩, ?_, ?_, ?_, ?_, ?_⟩, fun c hcm => ?_⟩
    · have q : ((i + 1 : Nat) : Int) = (i : Int) + 1 := by omega
      rw [q]; exact he'
    · exact d1.zip.keep fun o r => kk _ _ ne.1.symm r
    · exact kk _ _ ne.2.2.2.2.symm (d1.keep _ _ D.TIz D.TITO D.TIi1 D.TIi2 hTI)
    · obtain ⟨a1, a2, q⟩ := d1.own
      exact ⟨a1, a2, kk _ _ ne.2.1.symm q⟩
    · exact d1.it1.at fun o r => kk _ _ ne.2.2.1.symm r
    · exact d1.it2.at fun o r => kk _ _ ne.2.2.2.1.symm r
    · have lt : c < s.heap.objs.size := by
        have cs : c = e ∨ c = z ∨ c = TI ∨ c = TO ∨ c = i1 ∨ c = i2 := by simpa using hcm
        obtain ⟨oz, hoz, _⟩ := hz.lt
        rcases cs with q | q | q | q | q | q
        · rw [q]; exact elt
        · rw [q]; exact Heap.lt_size hoz
        · rw [q]; exact Heap.lt_size hTI
        · rw [q]; exact Heap.lt_size hTO
        · rw [q]; obtain ⟨_, e1, _⟩ := h1; exact Heap.lt_size e1
        · rw [q]; obtain ⟨_, e2, _⟩ := h2; exact Heap.lt_size e2
      rw [upd_ne (Nat.ne_of_lt (Nat.lt_succ_of_lt lt)), upd_ne (Nat.ne_of_lt lt)]
      exact (hf c hcm).1
  done := by
    intro X hP hw hK hc i pins s σ H E I hf st hg
    subst hP hw hK
    obtain ⟨⟨old, he⟩, hz, hTI, ⟨x0, y0, hTO⟩, h1, h2⟩ := st
    obtain ⟨xs, ys, qx, qy, hend⟩ := hg
    obtain ⟨its, rv, p1, _⟩ := I.list qx
    obtain ⟨jts, rw', p2, _⟩ := I.list qy
    have l1 := rv.length
    have l2 := rw'.length
    have hn : its.toArray[i]? = none ∨ jts.toArray[i]? = none := by
      rcases hend with q | q
      · exact .inl (by simp; omega)
      · exact .inr (by simp; omega)
    exact en_end (I.ok.hd hc) D he hz hTI hTO h1 h2 p1.isList p2.isList hn fun g hk => ⟨rfl, I.turnedL (t' := s.toks) (ch := [e, z, TI, TO, i1, i2]) (fun c o q r =>
      hk c o (fun q' => q (by simp [q'])) (fun q' => q (by simp [q'])) (fun q' => q (by simp [q'])) (fun q' => q (by simp [q'])) r) hf⟩
  self := fun A i s Q E st h => let ⟨⟨_, he⟩, _⟩ := st; wpAny_pyIter_enum he h
end Zen

namespace Zen
open PySem PySem.Spec PyProof.Rows L2
theorem meets_en (z TI TO : Addr) : Meets (Builtin.«enumerate.__new__» ⟨[.type "enumerate", .ref z], []⟩) (fun _ R s => IsZip s.heap z TI TO .none ∧
    R (.ok (.ret (.ref s.heap.objs.size))) { s with heap := s.heap.push { cls := .type "enumerate", data := .fields #[.none, .bool false, .ref z, rawInt 0, .none, .none] } }) :=
  .of_wp fun prog w A R s h => by
    obtain ⟨hp, g, d, tk, os⟩ := s
    obtain ⟨h1, h⟩ := h
    have hsub := sub_enumerate
    have q1 : ∀ {A' : Around} {E : Value → Shared → Prop} {Q : Value → Shared → Prop}, Q (.ref z) ⟨hp, g, d, tk, os⟩ → wpAny (model prog w) A' (pyIter (.ref z)) Q E ⟨hp, g, d, tk, os⟩ := fun q => wpAny_pyIter_zip (s := ⟨hp, g, d, tk, os⟩) h1 q
    wp_walk using q1
    refine wpAny_stack_any fun st => wpAny_pure ?_
    split
    · rename_i c _ _ _ _ _
      cases (c == Value.type "enumerate")
      · wp_walk using q1
        exact ⟨_, rfl, h⟩
      · wp_walk using q1
        exact ⟨_, rfl, h⟩
    · wp_walk using q1
      exact ⟨_, rfl, h⟩
end Zen

namespace Zen
open PySem PySem.Spec PyProof.Rows L2
theorem call_en {prog : Program} {w : World} {A : Around} {E : Value → Shared → Prop} {s : Shared} {z TI TO : Addr} {Q : Value → Shared → Prop} (hz : IsZip s.heap z TI TO .none)
    (h : ∀ g, IsEnum g s.heap.objs.size z 0 .none → (∀ b o, s.heap.get? b = some o → g.get? b = some o) → Q (.ref s.heap.objs.size) { s with heap := g }) : wpAny (model prog w) A (call (.type "enumerate") [.ref z]) Q E s := by
  refine callType_new F.called_enumerate (by decide) (F.typeCall_enumerate_1 _) (F.newCall_enumerate_1 _) (fun obj => F.args_object_init_2 obj _) F.entry_enumerate_new (meets_en z TI TO) ⟨hz, ?_⟩
  have he : IsEnum (s.heap.push { cls := .type "enumerate", data := .fields #[.none, .bool false, .ref z, rawInt 0, .none, .none] }) s.heap.objs.size z 0 .none := Heap.get?_push_size s.heap rfl
  exact ⟨⟨_, he, rfl⟩, h _ he fun b o x => Heap.get?_push_of_some _ x⟩
def iEz (K : PySem.W.Frag) (ta : TA) : TI := fun σ H R => ta σ H fun vs H1 => ∃ a b xs ys, vs = [.ref a, .ref b] ∧ SqL K H1 a xs ∧ SqL K H1 b ys ∧ R (Itez K a b) H1
theorem pi_ez {X : Cx} {e e2 : Expr} {ta : TA} {p p2 pos pos2 tpos : Pos} {elts : List Expr} {kk : Nat} (hg : Gl X "enumerate") (hm : X.mg "enumerate" = none) (hg2 : Gl X "zip") (hm2 : X.mg "zip" = none) (ha : PA X [e, e2] ta)
    (hs1 : starEach [.Call (.Name "zip" p2) [e, e2] [] pos2] X.env = [(false, eval (.Call (.Name "zip" p2) [e, e2] [] pos2) X.env)] := by rfl)
    (hs : starEach [e, e2] X.env = (false, eval e X.env) :: starEach [e2] X.env := by rfl) (hpl : (backTo pos2 (starEach [e2] X.env)).any (·.1) = false := by rfl) :
    PI X (.Tuple elts kk tpos) (.Call (.Name "enumerate" p) [.Call (.Name "zip" p2) [e, e2] [] pos2] [] pos) (iEz X.K ta) := by
  refine ⟨fun pins s σ H R I h => ?_⟩
  refine Call_ (ld_blt I hg hm boot_enumerate (PyProof.Rows.callWith_type1 ?_ hs1 rfl))
  rw [hs1]
  show wpAny _ _ (spliced ((false, eval (.Call (.Name "zip" p2) [e, e2] [] pos2) X.env) :: backTo pos [])) _ _ s
  refine Calls.spliced_cons ?_
  refine Call_ (ld_blt I hg2 hm2 PyProof.Rows.boot_zip (PyProof.Rows.callWith_type1 (thn (ha.run pos2 pins s σ H _ I h) fun us s1 ⟨vs, H1, I1, r1, q1⟩ => ?_) hs hpl))
  obtain ⟨a, b, xs, ys, ex, hqx, hqy, q⟩ := q1
  subst ex
  cases r1 with
  | cons r rr =>
    cases rr with
    | cons r' rr =>
      cases rr
      cases r
      cases r'
      obtain ⟨its, rv, p1', _⟩ := I1.list hqx
      obtain ⟨jts, rv2, p2', _⟩ := I1.list hqy
      have la : a < s1.heap.objs.size := p1'.lt
      have lb : b < s1.heap.objs.size := p2'.lt
      refine call_zip_2 p1'.isList p2'.isList fun g hz hTI hTO h1 h2 hsz hk => ?_
      refine Calls.spliced_nil ?_
      refine call_en (s := { s1 with heap := g }) hz fun g' he k' => wpAny_pyIter_enum he ?_
      have n0 : g.objs.size = s1.heap.objs.size + 5 := hsz
      show PIE X pins σ _ R (.ref g.objs.size) _
      have he : IsEnum g' g.objs.size (s1.heap.objs.size + 4) 0 .none := he
      rw [n0] at he ⊢
      have I2 : Inv X pins σ H1 { s1 with heap := g' } := I1.kept (t' := s1.toks) fun b o q => k' _ _ (hk _ _ q)
      have ne : ∀ j : Nat, j < 5 → s1.heap.objs.size + 5 ≠ s1.heap.objs.size + j := fun j hj q => by
        have := Nat.add_left_cancel q
        omega
      refine ⟨s1.heap.objs.size + 5, [s1.heap.objs.size + 5, s1.heap.objs.size + 4, s1.heap.objs.size + 2, s1.heap.objs.size + 3, s1.heap.objs.size, s1.heap.objs.size + 1], _, _, H1, rfl, I2, turn_ez (PySem.W.ktu_apart s1.heap.objs.size a b la lb) ⟨ne 4 (by decide), ne 3 (by decide), ne 0 (by decide), ne 1 (by decide), ne 2 (by decide)⟩,
        ⟨⟨.none, he⟩, .inl (k' _ _ hz), k' _ _ hTI, ⟨_, _, k' _ _ hTO⟩, h1.at fun o q => k' _ _ q, h2.at fun o q => k' _ _ q⟩, fun c hcm => ?_, q⟩
      have hle : s1.heap.objs.size ≤ c := by
        have cs : c = s1.heap.objs.size + 5 ∨ c = s1.heap.objs.size + 4 ∨ c = s1.heap.objs.size + 2 ∨ c = s1.heap.objs.size + 3 ∨ c = s1.heap.objs.size ∨ c = s1.heap.objs.size + 1 := by simpa using hcm
        rcases cs with z | z | z | z | z | z
        · rw [z]; exact Nat.le_add_right _ _
        · rw [z]; exact Nat.le_add_right _ _
        · rw [z]; exact Nat.le_add_right _ _
        · rw [z]; exact Nat.le_add_right _ _
        · rw [z]; exact Nat.le_refl _
        · rw [z]; exact Nat.le_add_right _ _
      exact I1.fpOk hle (I1.hok.fresh hle)
/-- its turns -/
theorem walk_ez {K : PySem.W.Frag} {a b : Addr} {xs ys : List V} {n : Nat} (hn : n = min xs.length ys.length) : Walk (Itez K a b) n (fun H => SqL K H a xs ∧ SqL K H b ys)
    (fun i H v H' => ∃ (T U : Addr) (x y : V), v = .ref U ∧ H T = none ∧ (upd H T (.tup [x, y])) U = none ∧ H' = upd (upd H T (.tup [x, y])) U (.tup [.int (i : Nat), .ref T]) ∧ xs[i]? = some x ∧ ys[i]? = some y) := by
  subst hn
  refine ⟨fun i _ hi q => ?_, fun _ q => ⟨xs, ys, q.1, q.2, by omega⟩, fun i H v H' _ q y => ?_⟩
  · have h1 : i < xs.length := by omega
    have h2 : i < ys.length := by omega
    exact ⟨xs, ys, xs[i], ys[i], q.1, q.2, by simp [h1], by simp [h2]⟩
  · obtain ⟨T, U, x, z, e1, e2, e3, e4, e5, e6⟩ := y
    exact ⟨T, U, x, z, e1, e2, e3, e4, e5 xs q.1, e6 ys q.2⟩
theorem pg_tupK {X : Cx} {K : PySem.W.Frag} {es : List Expr} {k : Nat} {t : TGs} {n : Nat} {pos : Pos} (hc : X.calm = true) (h : PGs X es t) (e : X.K = K := by rfl)
    (hn : (assignEach es X.env).length = n := by rfl) (hst : (assignEach es X.env).findIdx? (·.1) = none := by rfl) : PG X (.Tuple es k pos) (gTup K n t) := by
  subst e
  exact pg_tup hc h hn hst
end Zen

namespace Db
open PySem L2 Evl StX
section
variable {X : Cx} (K : PySem.W.Frag) {tg l : Expr} {tl te : TE} {t : TA} {es : List Expr} {p : Pos}
theorem pi_tupK (h : PE X l tl) (e : X.K = K := by rfl) : PI X tg l (iTup K tl) := by subst e; exact pi_tup h
theorem pi_listK (h : PE X l tl) (e : X.K = K := by rfl) : PI X tg l (iList K tl) := by subst e; exact pi_list h
theorem pa_starK {x : Expr} (he : PE X x te) (hr : PA X es t) (e : X.K = K := by rfl) (hs : starEach (.Starred x p :: es) X.env = (true, eval x X.env) :: starEach es X.env := by rfl) : PA X (.Starred x p :: es) (tStar K te t) := by
  subst e
  exact pa_star he hr hs
end
/-- memories, each a tuple -/
def MV (K : PySem.W.Frag) (H : Hp) (v : V) (ws : List Nat) : Prop := ∃ a, v = .ref a ∧ SqT K H a (ws.map wV)
def MVs (K : PySem.W.Frag) (H : Hp) (vs : List V) (ms : List (List Nat)) : Prop := Paired (MV K H) vs ms
theorem MVs.mono {K : PySem.W.Frag} {H H' : Hp} {vs : List V} {ms : List (List Nat)} (e : Ex H H') (q : MVs K H vs ms) : MVs K H' vs ms := Paired.mapP q fun _ _ ⟨a, h, s⟩ => ⟨a, h, ex_t e s⟩
theorem MVs.length {K : PySem.W.Frag} {H : Hp} {vs : List V} {ms : List (List Nat)} (q : MVs K H vs ms) : vs.length = ms.length := Paired.length q
theorem MVs.get {K : PySem.W.Frag} {H : Hp} : ∀ {vs : List V} {ms : List (List Nat)} {i : Nat} {v : V}, MVs K H vs ms → vs[i]? = some v → ∃ m, ms[i]? = some m ∧ MV K H v m
  | _, _, _, _, .nil, e => by simp at e
  | _, _, 0, _, .cons r _, e => by simp at e; subst e; exact ⟨_, rfl, r⟩
  | _, _, i + 1, x, .cons _ t, e => by
    obtain ⟨u, h1, h2⟩ := MVs.get (i := i) (v := x) t (by simpa using e)
    exact ⟨u, by simpa using h1, h2⟩
theorem MVs.append {K : PySem.W.Frag} {H : Hp} : ∀ {us vs : List V} {ds es : List (List Nat)}, MVs K H us ds → MVs K H vs es → MVs K H (us ++ vs) (ds ++ es)
  | _, _, _, _, .nil, h => h
  | _, _, _, _, .cons r t, h => .cons r (MVs.append t h)
/-- all memories of so many cells, in their order -/
def grow (m : List Nat) : List (List Nat) := [m ++ [0], m ++ [1], m ++ [2]]
def mems : Nat → List (List Nat)
  | 0 => [[]]
  | n + 1 => (mems n).flatMap grow
theorem mems_length : ∀ n, (mems n).length = 3 ^ n
  | 0 => rfl
  | n + 1 => by
    have h : ∀ l : List (List Nat), (l.flatMap grow).length = 3 * l.length := by
      intro l
      induction l with
      | nil => rfl
      | cons a l ih => rw [List.flatMap_cons, List.length_append, ih]; show 3 + _ = _; rw [List.length_cons]; omega
    show ((mems n).flatMap grow).length = _
    rw [h, mems_length n, Nat.pow_succ]
    omega
theorem mems_mem : ∀ {n : Nat} {m : List Nat}, m ∈ mems n → m.length = n ∧ ∀ x ∈ m, x < 3
  | 0, m, h => by
    cases List.mem_singleton.mp h
    exact ⟨rfl, fun x hx => nomatch hx⟩
  | n + 1, m, h => by
    obtain ⟨u, hu, hm⟩ := List.mem_flatMap.mp h
    obtain ⟨l, s⟩ := mems_mem hu
    have : m = u ++ [0] ∨ m = u ++ [1] ∨ m = u ++ [2] := by simpa [grow] using hm
    rcases this with rfl | rfl | rfl <;> refine ⟨by simp [l], fun x hx => ?_⟩ <;> (rcases List.mem_append.mp hx with z | z; exact s x z; have := List.mem_singleton.mp z; omega)
/-- what both read and what stands, as data -/
def datO (S : Sts) : PyData := .tuple [.list (wD S.ss), .list (wD S.os), .tuple (wD S.ws)]
/-- the same is read and stands -/
def same3 (S U : Sts) : Bool := decide (S.ss = U.ss) && (decide (S.os = U.os) && decide (S.ws = U.ws))
def partRow (c : List Nat) (ds es : List Deed) : Option (List Nat × Rule) := ([Rule.new, .left, .right, .wait].find? fun r => !same3 (out r (begin0 c ds es)) (out .old (begin0 c ds es))).map fun r => (c, r)
def partD (c : Nat) (ds es : List Deed) : Option (List Nat × Rule) := (mems c).findSome? fun m => partRow m ds es
def datP : Option (List Nat × Rule) → PyData
  | none => .none
  | some (m, r) => .tuple [.tuple (wD m), .str "old", .str r.name]
theorem MVs.buts {K : PySem.W.Frag} {H H' : Hp} {S : List Addr} {vs : List V} {ms : List (List Nat)} (b : Bt S H H') (hp : ∀ p ∈ S, ∃ us, H p = some (.lst us)) (q : MVs K H vs ms) : MVs K H' vs ms := Paired.mapP q fun _ _ ⟨a, h, s⟩ => ⟨a, h, t_but b hp s⟩
theorem it_list {K : PySem.W.Frag} {a : Addr} {xs : List V} {H0 : Hp} {B : V → Hp → (Hp → Prop) → Prop} {Qd : Hp → Prop} (Pv : Nat → Hp → Prop) (h0 : Pv 0 H0) (hl : ∀ i H, i ≤ xs.length → Pv i H → SqL K H a xs)
    (hs : ∀ i x H, xs[i]? = some x → Pv i H → B x H (Pv (i + 1))) (hd : ∀ H, Pv xs.length H → Qd H) :
    ∃ W : Nat → Nat → Hp → Prop, (∃ m, W 0 m H0) ∧ ∀ i m H, W i m H →
      ((Itl K a).stop i H ∧ Qd H) ∨ ((Itl K a).go i H ∧ ∃ Nx : Hp → Prop, (∀ H', Nx H' → ∃ m', m' < m ∧ W (i + 1) m' H') ∧ ∀ x H', (Itl K a).yld i H x H' → B x H' Nx) := by
  refine ⟨fun i m H => m = xs.length - i ∧ i ≤ xs.length ∧ Pv i H, ⟨xs.length, by simp, Nat.zero_le _, h0⟩, ?_⟩
  rintro i m H ⟨rfl, hi, p⟩
  have q := hl i H hi p
  by_cases hlt : i < xs.length
  · refine .inr ⟨⟨xs, xs[i], q, by simp [hlt]⟩, Pv (i + 1), fun H' p' => ⟨xs.length - (i + 1), by omega, rfl, hlt, p'⟩, fun x H' y => ?_⟩
    obtain ⟨e, y⟩ := y
    subst e
    exact hs i x _ (y xs q) p
  · have e : i = xs.length := by omega
    subst e
    exact .inl ⟨⟨xs, q, Nat.le_refl _⟩, hd H p⟩
theorem it_tup {K : PySem.W.Frag} {a : Addr} {xs : List V} {H0 : Hp} {B : V → Hp → (Hp → Prop) → Prop} {Qd : Hp → Prop} (Pv : Nat → Hp → Prop) (h0 : Pv 0 H0) (hl : ∀ i H, i ≤ xs.length → Pv i H → SqT K H a xs)
    (hs : ∀ i x H, xs[i]? = some x → Pv i H → B x H (Pv (i + 1))) (hd : ∀ H, Pv xs.length H → Qd H) :
    ∃ W : Nat → Nat → Hp → Prop, (∃ m, W 0 m H0) ∧ ∀ i m H, W i m H →
      ((Itt K a).stop i H ∧ Qd H) ∨ ((Itt K a).go i H ∧ ∃ Nx : Hp → Prop, (∀ H', Nx H' → ∃ m', m' < m ∧ W (i + 1) m' H') ∧ ∀ x H', (Itt K a).yld i H x H' → B x H' Nx) := by
  refine ⟨fun i m H => m = xs.length - i ∧ i ≤ xs.length ∧ Pv i H, ⟨xs.length, by simp, Nat.zero_le _, h0⟩, ?_⟩
  rintro i m H ⟨rfl, hi, p⟩
  have q := hl i H hi p
  by_cases hlt : i < xs.length
  · refine .inr ⟨⟨xs, xs[i], q, by simp [hlt]⟩, Pv (i + 1), fun H' p' => ⟨xs.length - (i + 1), by omega, rfl, hlt, p'⟩, fun x H' y => ?_⟩
    obtain ⟨e, y⟩ := y
    subst e
    exact hs i x _ (y xs q) p
  · have e : i = xs.length := by omega
    subst e
    exact .inl ⟨⟨xs, q, Nat.le_refl _⟩, hd H p⟩
theorem grow_at {m : List Nat} {k : Nat} (h : k < 3) : (grow m).take (k + 1) = (grow m).take k ++ [m ++ [k]] := by
  match k, h with
  | 0, _ => rfl
  | 1, _ => rfl
  | 2, _ => rfl
theorem flat_at {l : List (List Nat)} {j : Nat} {m : List Nat} (h : l[j]? = some m) : (l.take (j + 1)).flatMap grow = (l.take j).flatMap grow ++ grow m := by
  rw [List.take_add_one, h, List.flatMap_append]
  simp
section
variable {K : PySem.W.Frag} {te tl th : TE} {tu tz : TS} {D : Ends} {σ : L2.St} {H : Hp} {j : Nat} {R : Addr → Hp → Prop}
theorem q_forX (h : ∀ Q : VK, (∀ l H2, R l H2 → Q (.ref l) H2) → te σ H Q) (k : ∀ l H2, R l H2 → tSeq (tFor (iList K (tC (.ref l))) (gName j) tu) tz D σ H2) : tSeq (tFor (iList K te) (gName j) tu) tz D σ H := h _ fun l H2 r => k l H2 r
theorem s_forXT (h : ∀ Q : VK, (∀ l H2, R l H2 → Q (.ref l) H2) → te σ H Q) (k : ∀ l H2, R l H2 → tFor (iTup K (tC (.ref l))) (gName j) tu D σ H2) : tFor (iTup K te) (gName j) tu D σ H := h _ fun l H2 r => k l H2 r
end
theorem eqvA_w : ∀ a b : List Nat, PyData.eqvAll (wD a) (wD b) = decide (a = b)
  | [], [] => by simp [wD, PyData.eqvAll]
  | [], y :: b => by simp [wD, PyData.eqvAll]
  | x :: a, [] => by simp [wD, PyData.eqvAll]
  | x :: a, y :: b => by
    have h := eqvA_w a b
    show PyData.eqvAll (.int x :: wD a) (.int y :: wD b) = _
    rw [PyData.eqvAll, h]
    have e : PyData.eqv (.int (x : Int)) (.int (y : Int)) = decide (x = y) := by
      by_cases z : x = y
      · subst z
        simp [PyData.eqv]
      · rw [decide_eq_false z]
        simp only [PyData.eqv]
        have z2 : ¬ (x : Int) = (y : Int) := by omega
        simpa using z2
    rw [e]
    by_cases hx : x = y <;> by_cases hr : a = b <;> simp [hx, hr]
theorem eqv_o (S U : Sts) : PyData.eqv (datO S) (datO U) = same3 S U := by
  unfold datO same3
  simp only [PyData.eqv, PyData.eqvAll, eqvA_w, Bool.and_true]
theorem sh_w (ws : List Nat) : Sh 1 (.list (wD ws)) := sh_lst fun d hd => by
  obtain ⟨n, _, rfl⟩ := List.mem_map.mp hd
  exact sh_int
theorem sh_wT (ws : List Nat) : Sh 1 (.tuple (wD ws)) := sh_tup fun d hd => by
  obtain ⟨n, _, rfl⟩ := List.mem_map.mp hd
  exact sh_int
theorem sh_o (S : Sts) : Sh 2 (datO S) := sh_tup fun d hd => by
  simp only [List.mem_cons, List.not_mem_nil, or_false] at hd
  rcases hd with rfl | rfl | rfl
  · exact sh_w _
  · exact sh_w _
  · exact sh_wT _
theorem findSome_at {α β : Type} {f : α → Option β} : ∀ {l : List α} {i : Nat} {a : α} {b : β}, l[i]? = some a → (∀ j a', j < i → l[j]? = some a' → f a' = none) → f a = some b → l.findSome? f = some b
  | [], _, _, _, h, _, _ => by simp at h
  | x :: l, 0, a, b, h, _, e => by
    cases h
    rw [List.findSome?_cons, e]
  | x :: l, i + 1, a, b, h, n, e => by
    rw [List.findSome?_cons, n 0 x (by omega) rfl]
    exact findSome_at (l := l) (i := i) (by simpa using h) (fun j a' hj hb => n (j + 1) a' (by omega) (by simpa using hb)) e
theorem findSome_no {α β : Type} {f : α → Option β} : ∀ {l : List α}, (∀ j a', j < l.length → l[j]? = some a' → f a' = none) → l.findSome? f = none
  | [], _ => rfl
  | x :: l, n => by
    rw [List.findSome?_cons, n 0 x (by simp) rfl]
    exact findSome_no (l := l) fun j a' hj hb => n (j + 1) a' (by simp; omega) (by simpa using hb)
def others : List Rule := [.new, .left, .right, .wait]
theorem partRow_find (c : List Nat) (ds es : List Deed) : partRow c ds es = others.findSome? fun r => if same3 (out r (begin0 c ds es)) (out .old (begin0 c ds es)) = true then none else some (c, r) := by
  unfold partRow
  show (others.find? _).map _ = _
  generalize others = l
  induction l with
  | nil => rfl
  | cons r l ih =>
    rw [List.find?_cons, List.findSome?_cons]
    cases h : same3 (out r (begin0 c ds es)) (out .old (begin0 c ds es)) with
    | true => simpa [h] using ih
    | false => simp [h]
theorem s_forTn {K : PySem.W.Frag} {tl : TE} {tu : TS} {D : Ends} {σ : L2.St} {H : Hp} {a : Addr} {xs : List V} {j : Nat} (h : Ev tl σ H (.ref a)) (hx : SqT K H a xs) (Pv : Nat → L2.St → Hp → Prop) (h0 : ∀ H1, Ex H H1 → Pv 0 σ H1) (hl : ∀ i σ' H', i ≤ xs.length → Pv i σ' H' → SqT K H' a xs)
    (hs : ∀ i x σ' H', xs[i]? = some x → Pv i σ' H' → tu { D with nx := Pv (i + 1), ct := Pv (i + 1), bk := D.nx } (σ'.set j (some x)) H') (hd : ∀ σ' H', Pv xs.length σ' H' → D.nx σ' H') : tFor (iTup K tl) (gName j) tu D σ H :=
  s_forT h hx Pv h0 hl hs hd
theorem sl_tupK {X : Cx} (K : PySem.W.Frag) (e : X.K = K := by rfl) : SlR X (rSlT K) := by subst e; exact sl_tup
section
variable {K : PySem.W.Frag} {te tb : TE} {σ : L2.St} {H : Hp} {xs : List V} {v : V} {i : Int}
/-- a cell of a new list -/
theorem ev_ixNew (h : EvL te σ H xs) (hb : Ev tb σ H (.int i)) (ha : atI xs i = some v) : Ev (tOp (rIxL K) te tb) σ H v := fun H1 e Q q => h H1 e _ fun p H2 hp e2 hx => hb H2 (e.trans e2) _ fun H3 e3 => ⟨p, _, i, _, rfl, rfl, SqL.of (e3 _ _ hx), ha, q H3 (e2.trans e3)⟩
theorem eu_tupleOf (h : EvL te σ H xs) : EvU (tCB (fun xs H Q => ∃ p ys, xs = [.ref p] ∧ ((SqL K H p ys ∧ ∀ l, H l = none → Q (.ref l) (upd H l (.tup ys))) ∨ (SqT K H p ys ∧ Q (.ref p) H))) (tCons te tNil)) σ H xs := fun H1 e Q q =>
  h H1 e _ fun p H2 hp e2 hx => ⟨p, xs, rfl, .inl ⟨SqL.of hx, fun l hl => q l _ (fresh_back e2 hl) (e2.trans (Ex.new hl)) upd_same⟩⟩
end
/-- the i-th memory of so many cells, digit by digit -/
def dig (c i : Nat) : List Nat := (List.range c).map fun k => i / 3 ^ (c - 1 - k) % 3
theorem mems_dig : ∀ c, 1 ≤ c → c ≤ 4 → mems c = (List.range (3 ^ c)).map (dig c)
  | 1, _, _ => by decide +kernel
  | 2, _, _ => by decide +kernel
  | 3, _, _ => by decide +kernel
  | 4, _, _ => by decide +kernel
  | 0, h, _ => absurd h (by decide)
  | n + 5, _, h => absurd h (by omega)
theorem given_all (n : Nat) (v : Nat → V) : given n (fun _ => true) v = (List.range n).map v := by
  unfold given
  rw [List.filter_eq_self.mpr (fun _ _ => rfl)]
def t3 (S : Sts) : List Nat × List Nat × List Nat := (S.ss, S.os, S.ws)
theorem same3_iff (S U : Sts) : same3 S U = true ↔ t3 S = t3 U := by
  unfold same3 t3
  simp
theorem same3_comm (S U : Sts) : same3 S U = same3 U S := by
  rw [Bool.eq_iff_iff, same3_iff, same3_iff]
  exact ⟨Eq.symm, Eq.symm⟩
def rulesL : List Rule := [.old, .new, .left, .right, .wait]
def pairA : List V := [.int 0, .int 0, .int 0, .int 0, .int 1, .int 1, .int 1, .int 2, .int 2, .int 3]
def pairB : List V := [.int 1, .int 2, .int 3, .int 4, .int 2, .int 3, .int 4, .int 3, .int 4, .int 4]
theorem pair_at {k : Nat} (h : k < 10) : ∃ (a b : Nat) (rA rB : Rule), pairA[k]? = some (.int a) ∧ pairB[k]? = some (.int b) ∧ rulesL[a]? = some rA ∧ rulesL[b]? = some rB ∧ ((k < 4 ∧ rA = .old ∧ others[k]? = some rB) ∨ 4 ≤ k) := by
  match k, h with
  | 0, _ => exact ⟨0, 1, _, _, rfl, rfl, rfl, rfl, .inl ⟨by decide, rfl, rfl⟩⟩
  | 1, _ => exact ⟨0, 2, _, _, rfl, rfl, rfl, rfl, .inl ⟨by decide, rfl, rfl⟩⟩
  | 2, _ => exact ⟨0, 3, _, _, rfl, rfl, rfl, rfl, .inl ⟨by decide, rfl, rfl⟩⟩
  | 3, _ => exact ⟨0, 4, _, _, rfl, rfl, rfl, rfl, .inl ⟨by decide, rfl, rfl⟩⟩
  | 4, _ => exact ⟨1, 2, _, _, rfl, rfl, rfl, rfl, .inr (by decide)⟩
  | 5, _ => exact ⟨1, 3, _, _, rfl, rfl, rfl, rfl, .inr (by decide)⟩
  | 6, _ => exact ⟨1, 4, _, _, rfl, rfl, rfl, rfl, .inr (by decide)⟩
  | 7, _ => exact ⟨2, 3, _, _, rfl, rfl, rfl, rfl, .inr (by decide)⟩
  | 8, _ => exact ⟨2, 4, _, _, rfl, rfl, rfl, rfl, .inr (by decide)⟩
  | 9, _ => exact ⟨3, 4, _, _, rfl, rfl, rfl, rfl, .inr (by decide)⟩
  | n + 10, h => omega
theorem names_at {a : Nat} {r : Rule} (h : rulesL[a]? = some r) : ruleNames[a]? = some (.str r.name) := by
  have e : ruleNames = rulesL.map fun r => V.str r.name := rfl
  rw [e, List.getElem?_map, h]
  rfl
/-- told of the three, apart from a list -/
def O3 (K : PySem.W.Frag) (D : Addr) (X : Hp) (v : V) (S : Sts) : Prop := ∃ t s o m, v = .ref t ∧ X t = some (.tup [.ref s, .ref o, .ref m]) ∧ X s = some (.lst (S.ss.map wV)) ∧ X o = some (.lst (S.os.map wV)) ∧ SqT K X m (S.ws.map wV) ∧ s ≠ D ∧ o ≠ D
theorem O3.mono {K : PySem.W.Frag} {D : Addr} {X Y : Hp} {v : V} {S : Sts} (e : Ex X Y) (h : O3 K D X v S) : O3 K D Y v S := by
  obtain ⟨t, s, o, m, h1, h2, h3, h4, h5, h6, h7⟩ := h
  exact ⟨t, s, o, m, h1, e _ _ h2, e _ _ h3, e _ _ h4, ex_t e h5, h6, h7⟩
theorem O3.set {K : PySem.W.Frag} {D : Addr} {X : Hp} {v : V} {S : Sts} {bs cs : List V} (hD : X D = some (.lst bs)) (h : O3 K D X v S) : O3 K D (upd X D (.lst cs)) v S := by
  obtain ⟨t, s, o, m, h1, h2, h3, h4, h5, h6, h7⟩ := h
  have b : Bt [D] X (upd X D (.lst cs)) := (Bt.refl X).set (by simp)
  have nt : t ≠ D := ne_of h2 hD (by intro z; cases z)
  exact ⟨t, s, o, m, h1, b _ _ (by simp [nt]) h2, b _ _ (by simp [h6]) h3, b _ _ (by simp [h7]) h4, t_but b (by simp [hD]) h5, h6, h7⟩
/-! ### without a clash no rule matters -/
theorem beat_nc {r : Rule} {ws : List Nat} {d e : Deed} (h : clashD d e = false) : beat r ws d e = beat .old ws d e := by
  have cm : ∀ (a b x y : Nat), a ≠ b → (ws.set a x).set b y = (ws.set b y).set a x := fun a b x y n => List.set_comm x y n
  cases d with
  | rs => cases e <;> cases r <;> simp [beat, wrl, rdl]
  | rd c =>
    cases e with
    | rs => cases r <;> simp [beat, wrl, rdl]
    | rd c' => cases r <;> simp [beat, wrl, rdl]
    | wr c' y =>
      have n : c ≠ c' := fun z => by subst z; simp [clashD, Deed.cell, Deed.isW] at h
      cases r <;> simp [beat, wrl, rdl, List.getElem?_set, n, n.symm, List.getD_eq_getElem?_getD]
  | wr c x =>
    cases e with
    | rs => cases r <;> simp [beat, wrl, rdl]
    | rd c' =>
      have n : c ≠ c' := fun z => by subst z; simp [clashD, Deed.cell, Deed.isW] at h
      cases r <;> simp [beat, wrl, rdl, List.getElem?_set, n, n.symm, List.getD_eq_getElem?_getD]
    | wr c' y =>
      have n : c ≠ c' := fun z => by subst z; simp [clashD, Deed.cell, Deed.isW] at h
      cases r <;> simp [beat, wrl, rdl, cm c c' x y n]
theorem getD_tail (l : List Deed) (i : Nat) : l.tail.getD i .rs = l.getD (i + 1) .rs := by cases l <;> simp
theorem runF_nc {r : Rule} : ∀ (n : Nat) (S : Sts), (∀ i, clashD (S.l.getD i .rs) (S.r.getD i .rs) = false) → runF r n S = runF .old n S
  | 0, _, _ => rfl
  | n + 1, S, h => by
    have h0 : clashD (S.l.headD .rs) (S.r.headD .rs) = false := by
      have z := h 0
      rwa [getD_zero, getD_zero] at z
    show runF r n (stepS r S) = runF .old n (stepS .old S)
    by_cases hd : S.done
    · rw [stepS_done hd, stepS_done hd]
      exact runF_nc n S h
    · rw [stepS_of hd, stepS_of hd]
      have w : ∀ q : Rule, waits q S = false := fun q => by unfold waits; rw [h0, Bool.and_false]
      have e : ∀ q : Rule, one q S = after S (beat .old S.ws (S.l.headD .rs) (S.r.headD .rs)) false := fun q => by
        unfold one
        rw [w q, beat_nc h0]
        rfl
      rw [e r, e .old]
      refine runF_nc n _ fun i => ?_
      show clashD (S.l.tail.getD i .rs) (S.r.tail.getD i .rs) = false
      rw [getD_tail, getD_tail]
      exact h (i + 1)
theorem partD_nc {c : Nat} {ds es : List Deed} (h : clashesD ds es = []) : partD c ds es = none := by
  have nc : ∀ i, clashD (ds.getD i .rs) (es.getD i .rs) = false := fun i => by
    by_cases hi : i < min ds.length es.length
    · have z := List.filter_eq_nil_iff.mp h i (List.mem_range.mpr hi)
      simpa using z
    · by_cases h1 : i < ds.length
      · have e : es.getD i .rs = .rs := by rw [List.getD_eq_getElem?_getD, List.getElem?_eq_none (by omega)]; rfl
        rw [e]
        unfold clashD
        cases (ds.getD i .rs).cell <;> rfl
      · have e : ds.getD i .rs = .rs := by rw [List.getD_eq_getElem?_getD, List.getElem?_eq_none (by omega)]; rfl
        rw [e]
        rfl
  refine findSome_no fun j m _ _ => ?_
  rw [partRow_find]
  refine findSome_no fun k r _ _ => ?_
  rw [if_pos ((same3_iff _ _).mpr _)]
  have e : out r (begin0 m ds es) = out .old (begin0 m ds es) := runF_nc _ _ nc
  rw [e]
theorem nice_P {c : Nat} {ds es : List Deed} (hc : c ≤ 4) : Nice 2 (datP (partD c ds es)) := by
  cases h : partD c ds es with
  | none => exact .non
  | some z =>
    obtain ⟨m, r⟩ := z
    have hm : m ∈ mems c := by
      obtain ⟨a, ha, hb⟩ := List.exists_of_findSome?_eq_some h
      unfold partRow at hb
      obtain ⟨x, _, hx⟩ := Option.map_eq_some_iff.mp hb
      cases hx
      exact ha
    have hl := (mems_mem hm).1
    refine .tup (by simp) fun d hd => ?_
    simp only [List.mem_cons, List.not_mem_nil, or_false] at hd
    rcases hd with rfl | rfl | rfl
    · exact nice_wT (by omega)
    · exact .str (by decide +kernel)
    · exact .str (by cases r <;> decide +kernel)
/-- the deeds made over -/
def conv : Deed → Deed
  | .wr _ _ => .wr 0 1
  | _ => .rs
theorem conv_ok {d : Deed} {n : Nat} (h : 0 < n) : (conv d).ok n := by
  cases d with
  | wr c x => exact ⟨h, by decide⟩
  | rd c => exact True.intro
  | rs => exact True.intro
theorem eu_if {t : TT} {ta tb : TE} {σ : L2.St} {H : Hp} {b : Bool} {xs : List V} (h : EvT t σ H b) (h1 : b = true → EvU ta σ H xs) (h2 : b = false → EvU tb σ H xs) : EvU (tIf t ta tb) σ H xs := fun H1 e Q q => h H1 e _ fun H2 e2 => by
  cases b with
  | true =>
    show ta σ H2 Q
    exact h1 rfl H2 (e.trans e2) Q fun p H3 hp e3 h3 => q p H3 (fresh_back e2 hp) (e2.trans e3) h3
  | false =>
    show tb σ H2 Q
    exact h2 rfl H2 (e.trans e2) Q fun p H3 hp e3 h3 => q p H3 (fresh_back e2 hp) (e2.trans e3) h3
theorem conv_at {l : List Deed} {j : Nat} {d : Deed} (h : l[j]? = some d) : (l.take (j + 1)).map conv = (l.take j).map conv ++ [conv d] := by
  rw [List.take_add_one, h, List.map_append]
  rfl
theorem s_ifX {t : TT} {tu tw : TS} {D : Ends} {σ : L2.St} {H : Hp} {R : Bool → Hp → Prop} (h : ∀ Q : Bool → Hp → Prop, (∀ b H2, R b H2 → Q b H2) → t σ H Q) (h1 : ∀ H2, R true H2 → tu D σ H2) (h2 : ∀ H2, R false H2 → tw D σ H2) : tIfS t tu tw D σ H := h _ fun b H2 r => by
  cases b with
  | true =>
    show tu D σ H2
    exact h1 H2 r
  | false =>
    show tw D σ H2
    exact h2 H2 r
theorem s_conv {K : PySem.W.Frag} {i : Nat} {D : Ends} {σ : L2.St} {H : Hp} {p : Addr} {us : List V} {ds : List Deed} (hi : σ[i]? = some (some (.ref p))) (hl : SqL K H p us) (hP : PV K H us ds) (hz : ds.length ≤ 40) (hw : ∀ x, wipe ((wipe σ [9]).set 9 (some x)) [9] = wipe σ [9]) (hx : ∀ x, ((wipe σ [9]).set 9 (some x))[9]? = some (some x))
    (k : ∀ p' us' H', H p' = none → Ex H H' → H' p' = some (.lst us') → PV K H' us' (ds.map conv) → D.nx (σ.set i (some (.ref p'))) H') :
    tAsg (tLc (iList K (tVar i)) (gName 9) tYes (tIf (tTest (tOp rEq (tOp (rIxT K) (tVar 9) (tC (.int 0))) (tC (.str "write")))) (tTup (tCons (tC (.str "write")) (tCons (tC (.int 0)) (tCons (tC (.int 1)) tNil)))) (tTup (tCons (tC (.str "rest")) tNil))) [9]) (gName i) D σ H := by
  refine ⟨_, hi, p, rfl, ⟨us, hl⟩, fun L hL => ?_⟩
  have hlen := hP.length
  refine it_list (xs := us) (fun j X => ∃ bs, X L = some (.lst bs) ∧ PV K X bs ((ds.take j).map conv) ∧ Ex H X ∧ bs.length = j) ⟨[], upd_same, .nil, Ex.new hL, rfl⟩ (fun j X _ ⟨_, _, _, e, _⟩ => ex_l e hl) ?_ ?_
  · rintro j x X hj ⟨bs, hb, hB, eX, hn⟩
    have hju := (List.getElem?_eq_some_iff.mp hj).1
    obtain ⟨d, hd, a, rfl, hv⟩ := (hP.mono eX).get hj
    refine gn ?_
    refine ⟨hw _, ?_⟩
    have wd : decide (V.str d.tag = V.str "write") = d.isW := by
      cases d with
      | rd c => exact (by decide +kernel : decide (V.str "read" = V.str "write") = false)
      | wr c x => exact (by decide +kernel : decide (V.str "write" = V.str "write") = true)
      | rs => exact (by decide +kernel : decide (V.str "rest" = V.str "write") = false)
    have ev : EvU (tIf (tTest (tOp rEq (tOp (rIxT K) (tVar 9) (tC (.int 0))) (tC (.str "write")))) (tTup (tCons (tC (.str "write")) (tCons (tC (.int 0)) (tCons (tC (.int 1)) tNil)))) (tTup (tCons (tC (.str "rest")) tNil))) ((wipe σ [9]).set 9 (some (.ref a))) X (conv d).vals :=
      eu_if (b := d.isW) (et_test (ev_is (ev_op (x := .str d.tag) (y := .str "write") (ev_op (ev_var (hx _)) ev_c (DV.tag hv)) ev_c (rv_eq rfl)) (by rw [wd])))
        (fun hb => by
          cases d with
          | wr c x => exact eu_tup (vs := [.str "write", .int 0, .int 1]) (ea_cons ev_c (ea_cons ev_c (ea_cons ev_c ea_nil))) (by simp)
          | rd c => cases hb
          | rs => cases hb)
        (fun hb => by
          cases d with
          | wr c x => cases hb
          | rd c => exact eu_tup (vs := [.str "rest"]) (ea_cons ev_c ea_nil) (by simp)
          | rs => exact eu_tup (vs := [.str "rest"]) (ea_cons ev_c ea_nil) (by simp))
    refine ev X (Ex.refl X) _ fun t Y nt eY ht => ?_
    have hb2 := eY _ _ hb
    have b2 : Bt [L] Y (upd Y L (.lst (bs ++ [.ref t]))) := (Bt.refl Y).set (by simp)
    have l2 : ∀ q ∈ [L], ∃ us, Y q = some (.lst us) := by simp [hb2]
    refine ⟨bs, hb2, by show bs.length < 2 ^ 24; omega, bs ++ [.ref t], upd_same, ?_, (eX.trans eY).mut hL, by rw [List.length_append, hn]; rfl⟩
    rw [conv_at hd]
    exact (pv_buts b2 l2 (hB.mono eY)).append (.cons ⟨t, rfl, t_but b2 l2 (SqT.of ht)⟩ .nil)
  · rintro X ⟨bs, hb, hB, eX, hn⟩
    rw [hlen, List.take_length] at hB
    exact gn (k L bs X hL eX hb hB)
theorem q_conv {K : PySem.W.Frag} {i : Nat} {tz : TS} {D : Ends} {σ : L2.St} {H : Hp} {p : Addr} {us : List V} {ds : List Deed} (hi : σ[i]? = some (some (.ref p))) (hl : SqL K H p us) (hP : PV K H us ds) (hz : ds.length ≤ 40) (hw : ∀ x, wipe ((wipe σ [9]).set 9 (some x)) [9] = wipe σ [9]) (hx : ∀ x, ((wipe σ [9]).set 9 (some x))[9]? = some (some x))
    (k : ∀ p' us' H', H p' = none → Ex H H' → H' p' = some (.lst us') → PV K H' us' (ds.map conv) → tz D (σ.set i (some (.ref p'))) H') :
    tSeq (tAsg (tLc (iList K (tVar i)) (gName 9) tYes (tIf (tTest (tOp rEq (tOp (rIxT K) (tVar 9) (tC (.int 0))) (tC (.str "write")))) (tTup (tCons (tC (.str "write")) (tCons (tC (.int 0)) (tCons (tC (.int 1)) tNil)))) (tTup (tCons (tC (.str "rest")) tNil))) [9]) (gName i)) tz D σ H :=
  s_conv (D := { D with nx := tz D }) hi hl hP hz hw hx k
theorem eqv_list_w (a b : List Nat) : PyData.eqv (.list (wD a)) (.list (wD b)) = decide (a = b) := by simp only [PyData.eqv, eqvA_w]
section
variable {tz : TS} {D : Ends} {σ : L2.St} {H : Hp}
/-- a test whose value comes with what is made on the way -/
theorem q_whenX {t : TT} {tu : TS} {R : Hp → Prop} (h : ∀ Q : Bool → Hp → Prop, (∀ H2, R H2 → Q false H2) → t σ H Q) (k : ∀ H2, R H2 → tz D σ H2) : tSeq (tIfS t tu tNext) tz D σ H := h _ fun H2 r => k H2 r
theorem s_whenX {t : TT} {tu : TS} {R : Hp → Prop} (h : ∀ Q : Bool → Hp → Prop, (∀ H2, R H2 → Q false H2) → t σ H Q) (k : ∀ H2, R H2 → D.nx σ H2) : tIfS t tu tNext D σ H := h _ fun H2 r => k H2 r
end
section
variable {K : PySem.W.Frag} {σ : L2.St} {H : Hp} {ta te tb tw : TE} {t : TT} {tu : TS} {D : Ends} {tz : TS}
theorem el_rep {xs : List V} {n : Nat} (h : EvL te σ H xs) (hb : Ev tb σ H (.int n)) (hz : xs.length * n ≤ 100000) (hn : n ≤ 100000) : EvL (tOp rRep te tb) σ H (List.replicate n xs).flatten := fun H1 e Q q =>
  h H1 e _ fun p H2 hp e2 hx => hb H2 (e.trans e2) _ fun H3 e3 => ⟨p, n, xs, rfl, rfl, e3 _ _ hx, by omega, by omega, by rw [Int.toNat_natCast]; exact sz_of hz, fun p' hp' => by
    rw [Int.toNat_natCast]
    exact q p' _ (fresh_back (e2.trans e3) hp') ((e2.trans e3).trans (Ex.new hp')) upd_same⟩
theorem el_catN {xs ys : List V} (ha : EvL ta σ H xs) (hb : EvL tb σ H ys) (hz : xs.length + ys.length ≤ 100000) : EvL (tOp rCat ta tb) σ H (xs ++ ys) := fun H1 e Q q =>
  ha H1 e _ fun p H2 hp e2 hx => hb H2 (e.trans e2) _ fun p' H3 hp' e3 hy => ⟨p, p', xs, ys, rfl, rfl, e3 _ _ hx, hy, sz_of hz, fun p2 hp2 => q p2 _ (fresh_back (e2.trans e3) hp2) ((e2.trans e3).trans (Ex.new hp2)) upd_same⟩
/-- a while whose test draws -/
theorem s_whileX (W : Nat → L2.St → Hp → Prop) (m0 : Nat) (h0 : W m0 σ H)
    (hs : ∀ m σ' H', W m σ' H' → ∃ R : Bool → Hp → Prop, (∀ Q : Bool → Hp → Prop, (∀ b H1, R b H1 → Q b H1) → t σ' H' Q) ∧ (∀ H1, R true H1 → ∃ N : L2.St → Hp → Prop, (∀ σ2 H2, N σ2 H2 → ∃ m', m' < m ∧ W m' σ2 H2) ∧ tu { D with nx := N, ct := N, bk := D.nx } σ' H1) ∧ (∀ H1, R false H1 → D.nx σ' H1)) : tWhile t tu D σ H :=
  ⟨W, ⟨m0, h0⟩, fun m σ' H' hw => by
    obtain ⟨R, hb, h1, h2⟩ := hs m σ' H' hw
    refine hb _ fun b H1 r => ?_
    cases b with
    | true => exact h1 H1 r
    | false => exact h2 H1 r⟩
end
theorem cut_from {α : Type} (us : List α) (i : Nat) (g : List α → Option Int → Option Int → List α) (hg : ∀ l a b, g l a b = (l.drop (HT.sIx l.length 0 a)).take (HT.sIx l.length l.length b - HT.sIx l.length 0 a)) : g us (some (i : Int)) none = us.drop i := by
  have e1 : HT.sIx us.length 0 (some (i : Int)) = min i us.length := HT.sIx_nat _ _ _
  have e2 : HT.sIx us.length us.length none = us.length := HT.sIx_none _ _
  rw [hg, e1, e2]
  by_cases h : i ≤ us.length
  · rw [Nat.min_eq_left h, List.take_of_length_le (by rw [List.length_drop]; exact Nat.le_refl _)]
  · rw [Nat.min_eq_right (by omega), List.drop_of_length_le (Nat.le_refl _), List.drop_of_length_le (by omega)]
    simp
theorem cut_to {α : Type} (us : List α) (i : Nat) (g : List α → Option Int → Option Int → List α) (hg : ∀ l a b, g l a b = (l.drop (HT.sIx l.length 0 a)).take (HT.sIx l.length l.length b - HT.sIx l.length 0 a)) : g us none (some (i : Int)) = us.take i := by
  have e1 : HT.sIx us.length 0 none = 0 := HT.sIx_none _ _
  have e2 : HT.sIx us.length us.length (some (i : Int)) = min i us.length := HT.sIx_nat _ _ _
  rw [hg, e1, e2, List.drop_zero, Nat.sub_zero, ← List.take_eq_take_min]
theorem cutV_from (us : List V) (i : Nat) : cutV us (some (i : Int)) none = us.drop i := cut_from us i cutV fun _ _ _ => rfl
theorem cutV_to (us : List V) (i : Nat) : cutV us none (some (i : Int)) = us.take i := cut_to us i cutV fun _ _ _ => rfl
section
variable {K : PySem.W.Frag} {σ : L2.St} {H : Hp} {to te : TE}
theorem ev_m1 {r : V → List V → Hp → VK → Prop} {a : Str} {y z : V} (h1 : Ev to σ H (.str a)) (h2 : Ev te σ H y) (hr : ∀ H1, Ex H H1 → ∀ Q : VK, (∀ H2, Ex H1 H2 → Q z H2) → r (.str a) [y] H1 Q) : Ev (tM1 r to te) σ H z := fun H1 e Q q =>
  h1 H1 e _ fun H2 e2 => ⟨⟨a, rfl⟩, h2 H2 (e.trans e2) _ fun H3 e3 => hr H3 ((e.trans e2).trans e3) Q fun H4 e4 => q H4 ((e2.trans e3).trans e4)⟩
end
end Db

namespace Zen
open PySem PySem.Spec PyProof.Rows L2
/-! enumerate of a text -/
def IteS (x : Str) : It :=
  ⟨fun i _ => i < x.cps.size, fun i H v H' => ∃ T c, v = .ref T ∧ H T = none ∧ H' = L2.upd H T (.tup [.int (i : Nat), .str ⟨#[c]⟩]) ∧ x.cps[i]? = some c, fun i _ => i = x.cps.size⟩
theorem draws_str {prog : Program} {w : World} {A : Around} (hh : A.handled = none) (it : Addr) (x : Str) (t : Tok) (ty : String) (hty : ty = "str_ascii_iterator" ∨ ty = "str_iterator") :
    Draws prog w A it [it] x.cps.size (fun i v => ∃ c u, x.cps[i]? = some c ∧ v = .str ⟨#[c]⟩ u) (fun i h => h.IsStrIter it ty x t i) := by
  rcases hty with rfl | rfl
  · exact Draws.strAscii hh it x t
  · exact Draws.strWide hh it x t
theorem turn_enumS {P : Program} {w : World} {K : PySem.W.Frag} {elts : List Expr} {kk : Nat} {tpos : Pos} (x : Str) (t : Tok) (ty : String) (hty : ty = "str_ascii_iterator" ∨ ty = "str_iterator") (e it : Addr) :
    Turn P w K (.Tuple elts kk tpos) (IteS x) [e, it] e (fun i h => (∃ old, IsEnum h e it ((i : Nat) : Int) old) ∧ h.IsStrIter it ty x t i ∧ e ≠ it) where
  mem := by simp
  obj := fun i h st b hb => by
    obtain ⟨⟨old, he⟩, ⟨o, ho, hc, hd⟩, _⟩ := st
    have e' : b = e ∨ b = it := by simpa using hb
    rcases e' with z | z
    · rw [z]; exact ⟨_, he, fun v q => nomatch q⟩
    · rw [z]; exact ⟨o, ho, fun v q => by rw [hd] at q; cases q⟩
  keep := fun i h h' st k => let ⟨⟨old, he⟩, ⟨o, ho, r⟩, hne⟩ := st; ⟨⟨old, k e (by simp) _ he⟩, ⟨o, k it (by simp) o ho, r⟩, hne⟩
  item := by
    intro X hP hw hK hc i pins s σ H E I hf st hg
    subst hP hw hK
    obtain ⟨⟨old, he⟩, hit, hne⟩ := st
    have hel : e < s.heap.objs.size := Heap.lt_size he
    have hil : it < s.heap.objs.size := by obtain ⟨_, q, _⟩ := hit; exact Heap.lt_size q
    refine wpAny_pyNext_enum_itemD (draws_str (prog := X.prog) (w := X.w) (A := X.A.in1) (I.ok.hd hc) it x t ty hty) he hit hg hne (by simpa using hne) fun v h' tk hv ho hit' hT hsz hk => ?_
    obtain ⟨c, u, hcx, rfl⟩ := hv
    refine ⟨_, rfl, wpAny_letOwnedTupleGo_enum (s := { s with heap := h', toks := tk + 1 }) ho fun h'' he' sb => ?_⟩
    have hT2 : h''.get? s.heap.objs.size = some { cls := .type "tuple", data := .seq #[.int i tk, .str ⟨#[c]⟩ u] } := (sb.2 _ (Nat.ne_of_gt hel)).trans hT
    have new : ObjOk X.prog X.w (L2.upd H s.heap.objs.size (.tup [.int (i : Nat), .str ⟨#[c]⟩])) h'' s.heap.objs.size (.tup [.int (i : Nat), .str ⟨#[c]⟩]) :=
      ⟨by show 2 ≤ sizeLine; decide, [.int i tk, .str ⟨#[c]⟩ u], .cons ⟨_, rfl⟩ (.cons ⟨_, rfl⟩ .nil), ⟨_, hT2, rfl, _, rfl⟩⟩
    have I1 : Inv X pins σ (L2.upd H s.heap.objs.size (.tup [.int (i : Nat), .str ⟨#[c]⟩])) { s with heap := h'', toks := tk + 1 } :=
      I.turnedNew (ch := [e, it]) (fun b ob hb q => (sb.2 b (fun z => hb (by simp [z]))).trans (hk b ob (fun z => hb (by simp [z])) (fun z => hb (by simp [z])) q)) hf (Nat.le_refl _) new
    refine ⟨.ref s.heap.objs.size, _, I1, rfl, ⟨_, c, rfl, I.hok.fresh (Nat.le_refl _), rfl, hcx⟩, ⟨⟨.str ⟨#[c]⟩ u, ?_⟩, ?_, hne⟩, fun b hb => ?_⟩
    · have e1 : ((i + 1 : Nat) : Int) = (i : Int) + 1 := by omega
      rw [e1]; exact he'
    · obtain ⟨o, ho2, r⟩ := hit'
      exact ⟨o, (sb.2 it (Ne.symm hne)).trans ho2, r⟩
    · have hb' : b < s.heap.objs.size := by
        have e' : b = e ∨ b = it := by simpa using hb
        rcases e' with z | z
        · rw [z]; exact hel
        · rw [z]; exact hil
      rw [upd_ne (Nat.ne_of_lt hb')]
      exact (hf b hb).1
  done := by
    intro X hP hw hK hc i pins s σ H E I hf st hg
    subst hP hw hK
    obtain ⟨⟨old, he⟩, hit, hne⟩ := st
    obtain ⟨f0, f1, f2, f3, f4, f5⟩ := hf it (by simp)
    cases hg
    exact wpAny_pyNext_enum_endD (draws_str (prog := X.prog) (w := X.w) (A := X.A.in1) (I.ok.hd hc) it x t ty hty) he hit fun h' eb => ⟨rfl, I.turned (t' := s.toks) (fun b o hb q => eb b o hb q) f0 f1 f3 f4 f5⟩
  self := fun A i s Q E st h => let ⟨⟨_, he⟩, _⟩ := st; wpAny_pyIter_enum he h

def iEnumS (ta : TA) : TI := fun σ H R => ta σ H fun vs H1 => ∃ x, vs = [.str x] ∧ R (IteS x) H1
theorem ty_iter (x : Str) : strIterType x = "str_ascii_iterator" ∨ strIterType x = "str_iterator" := by
  unfold strIterType
  split
  · exact .inl rfl
  · exact .inr rfl
theorem pi_enumS {X : Cx} {e : Expr} {ta : TA} {p pos tpos : Pos} {elts : List Expr} {kk : Nat} (hg : Gl X "enumerate") (hm : X.mg "enumerate" = none) (ha : PA X [e] ta) (hs : starEach [e] X.env = [(false, eval e X.env)] := by rfl) :
    PI X (.Tuple elts kk tpos) (.Call (.Name "enumerate" p) [e] [] pos) (iEnumS ta) := by
  refine ⟨fun pins s σ H R I h => ?_⟩
  refine Call_ (ld_blt I hg hm boot_enumerate (PyProof.Rows.callWith_type1 (thn (ha.run pos pins s σ H _ I h) fun us s1 ⟨vs, H1, I1, r1, q1⟩ => ?_) hs rfl))
  obtain ⟨x, ex, q⟩ := q1
  subst ex
  cases r1 with
  | cons r rr =>
    cases rr
    obtain ⟨t, rfl⟩ := r
    refine call_enumerate_str fun h' he hit hsz hk => wpAny_pyIter_enum he ?_
    have I2 : Inv X pins σ H1 { s1 with heap := h' } := I1.kept (t' := s1.toks) hk
    refine ⟨s1.heap.objs.size + 1, [s1.heap.objs.size + 1, s1.heap.objs.size], _, _, H1, rfl, I2, turn_enumS x t (strIterType x) (ty_iter x) (s1.heap.objs.size + 1) s1.heap.objs.size, ⟨⟨.none, he⟩, hit, Nat.succ_ne_self _⟩, fun b hb => ?_, q⟩
    have e' : b = s1.heap.objs.size + 1 ∨ b = s1.heap.objs.size := by simpa using hb
    have hle : s1.heap.objs.size ≤ b := by
      rcases e' with z | z
      · rw [z]; exact Nat.le_add_right _ _
      · rw [z]; exact Nat.le_refl _
    exact I1.fpOk hle (I1.hok.fresh hle)
theorem walk_enumS {x : Str} : Walk (IteS x) x.cps.size (fun _ => True) (YPair (fun i => some (.int (i : Nat))) (fun i => x.cps[i]?.map fun c => .str ⟨#[c]⟩)) := by
  refine ⟨fun i _ hi _ => hi, fun _ _ => rfl, fun i H v H' _ q y => ?_⟩
  obtain ⟨T, c, h1, h2, h3, h4⟩ := y
  exact ⟨T, .int (i : Nat), _, h1, h2, h3, rfl, by show x.cps[i]?.map _ = _; rw [h4]; rfl⟩
end Zen
namespace Zen
open PySem PySem.Spec PyProof.Rows L2
/-! a text times a number -/
theorem reps_one (c : Nat) : ∀ (k : Nat) (acc : Array Nat), (List.replicate k #[c]).foldl (· ++ ·) acc = acc ++ (List.replicate k c).toArray
  | 0, acc => by simp
  | k + 1, acc => by
    rw [List.replicate_succ, List.foldl_cons, reps_one c k]
    apply Array.ext'
    simp [List.replicate_succ]
theorem op_mulS {X : Cx} : OpR X (binaryOp .Mult) (fun x y H Q => ∃ (c n : Nat), x = .str ⟨#[c]⟩ ∧ y = .int n ∧ n ≤ 100000 ∧ Q (.str ⟨(List.replicate n c).toArray⟩) H) := by
  intro pins s σ H x y v u Q I rx ry h
  obtain ⟨c, n, rfl, rfl, hz, q⟩ := h
  obtain ⟨t, rfl⟩ := rx
  obtain ⟨t', rfl⟩ := ry
  have hl : (⟨#[c]⟩ : Str).length = 1 := rfl
  obtain ⟨m1, m2, m3⟩ := mulOk_of (x := ⟨#[c]⟩) (n := (n : Int)) 1 100000 (by rw [hl]; exact Nat.le_refl _) (by omega) (by omega) (by decide) (by decide)
  refine P.mul_str m1 m2 m3 ?_
  by_cases h1 : (n : Int) < 1
  · rw [if_pos h1]
    have e : n = 0 := by omega
    subst e
    exact ⟨by decide, ⟨.str Str.empty, H, I.tok _, ⟨_, rfl⟩, q⟩⟩
  · rw [if_neg h1]
    by_cases h2 : ((n : Int) == 1 || (⟨#[c]⟩ : Str).length == 0) = true
    · rw [if_pos h2]
      have e : n = 1 := by
        rw [hl] at h2
        simp at h2
        omega
      subst e
      exact ⟨.str ⟨#[c]⟩, H, I, ⟨_, rfl⟩, q⟩
    · rw [if_neg h2]
      have e : (⟨(List.replicate (n : Int).toNat (⟨#[c]⟩ : Str).cps).foldl (· ++ ·) #[]⟩ : Str) = ⟨(List.replicate n c).toArray⟩ := by
        have z := reps_one c n #[]
        rw [Int.toNat_natCast]
        show (⟨(List.replicate n #[c]).foldl (· ++ ·) #[]⟩ : Str) = _
        rw [z]
        simp
      rw [e]
      refine ⟨?_, ⟨.str ⟨(List.replicate n c).toArray⟩, H, I.tok _, ⟨_, rfl⟩, q⟩⟩
      show (⟨(List.replicate n c).toArray⟩ : Str).length ≤ sizeLine
      unfold Str.length
      simp
      exact Nat.le_trans hz (by decide)
end Zen

namespace Db
open PySem L2 Evl StX
/-! ### texts by their signs -/
def tS (l : List Nat) : Str := ⟨l.toArray⟩
theorem tS_list (l : List Nat) : (tS l).cps.toList = l := by unfold tS; simp
theorem tS_len (l : List Nat) : (tS l).length = l.length := by unfold tS Str.length; simp
theorem tS_app (a b : List Nat) : tS a ++ tS b = tS (a ++ b) := by
  show Str.append _ _ = _
  unfold Str.append tS
  simp
theorem tS_of (x : Str) : tS x.cps.toList = x := by unfold tS; simp
theorem tS_inj {a b : List Nat} (h : tS a = tS b) : a = b := by
  have z := congrArg (fun s : Str => s.cps.toList) h
  simpa [tS_list] using z
theorem tS_is (a b : List Nat) : decide (V.str (tS a) = V.str (tS b)) = decide (a = b) :=
  decide_eq_decide.mpr ⟨fun h => tS_inj (V.str.inj h), fun h => by rw [h]⟩
/-- joined by one sign -/
def jn (c : Nat) : List (List Nat) → List Nat
  | [] => []
  | [x] => x
  | x :: y :: r => x ++ c :: jn c (y :: r)
theorem jn_cons {c : Nat} {x : List Nat} {r : List (List Nat)} (h : r ≠ []) : jn c (x :: r) = x ++ c :: jn c r := by
  cases r with
  | nil => exact absurd rfl h
  | cons y r => rfl
theorem join_tS (c : Nat) : ∀ ws : List (List Nat), Str.join ⟨#[c]⟩ (ws.map tS) = tS (jn c ws)
  | [] => rfl
  | [x] => rfl
  | x :: y :: r => by
    show tS x ++ ⟨#[c]⟩ ++ Str.join ⟨#[c]⟩ ((y :: r).map tS) = tS (x ++ c :: jn c (y :: r))
    rw [join_tS c (y :: r), show (⟨#[c]⟩ : Str) = tS [c] from rfl, tS_app, tS_app]
    simp
theorem join_tS0 : ∀ ws : List (List Nat), Str.join ⟨#[]⟩ (ws.map tS) = tS ws.flatten
  | [] => rfl
  | [x] => by simp [Str.join]
  | x :: y :: r => by
    show tS x ++ ⟨#[]⟩ ++ Str.join ⟨#[]⟩ ((y :: r).map tS) = _
    rw [join_tS0 (y :: r), show (⟨#[]⟩ : Str) = tS [] from rfl, tS_app, tS_app]
    simp
theorem app_free {c : Nat} : ∀ {a b u v : List Nat}, c ∉ a → c ∉ b → a ++ c :: u = b ++ c :: v → a = b ∧ u = v
  | [], [], u, v, _, _, h => ⟨rfl, by simpa using h⟩
  | [], y :: b, u, v, _, hb, h => by
    have e : c = y := (List.cons.inj h).1
    exact absurd (by rw [e]; simp) hb
  | x :: a, [], u, v, ha, _, h => by
    have e : x = c := (List.cons.inj h).1
    exact absurd (by rw [← e]; simp) ha
  | x :: a, y :: b, u, v, ha, hb, h => by
    obtain ⟨e1, e2⟩ := List.cons.inj h
    obtain ⟨r1, r2⟩ := app_free (fun z => ha (by simp [z])) (fun z => hb (by simp [z])) e2
    exact ⟨by rw [e1, r1], r2⟩
theorem jn_inj {c : Nat} : ∀ {a b : List (List Nat)}, a ≠ [] → b ≠ [] → (∀ w ∈ a, c ∉ w) → (∀ w ∈ b, c ∉ w) → jn c a = jn c b → a = b
  | [], _, h, _, _, _, _ => absurd rfl h
  | _, [], _, h, _, _, _ => absurd rfl h
  | [x], [y], _, _, _, _, h => by
    have e : x = y := h
    rw [e]
  | [x], y :: z :: r, _, _, ha, _, h => by
    have e : x = y ++ c :: jn c (z :: r) := h
    exact absurd (by rw [e]; simp) (ha x (by simp))
  | x :: z :: r, [y], _, _, _, hb, h => by
    have e : x ++ c :: jn c (z :: r) = y := h
    exact absurd (by rw [← e]; simp) (hb y (by simp))
  | x :: z :: r, y :: u :: s, _, _, ha, hb, h => by
    obtain ⟨e1, e2⟩ := app_free (ha x (by simp)) (hb y (by simp)) h
    rw [e1, jn_inj (a := z :: r) (b := u :: s) (by simp) (by simp) (fun w hw => ha w (List.mem_cons_of_mem _ hw)) (fun w hw => hb w (List.mem_cons_of_mem _ hw)) e2]
theorem map_tS (l : List Str) : (l.map fun s => s.cps.toList).map tS = l := by
  rw [List.map_map]
  conv => rhs; rw [← List.map_id l]
  exact List.map_congr_left fun s _ => tS_of s
/-- what was joined is parted -/
theorem split_jn {c : Nat} {ws : List (List Nat)} (hn : ws ≠ []) (hf : ∀ w ∈ ws, c ∉ w) : Txt.split (tS (jn c ws)) ⟨#[c]⟩ = ws.map tS := by
  have h1 := StrLaws.join_split (tS (jn c ws)) ⟨#[c]⟩
  have h2 := StrLaws.split_free (tS (jn c ws)) c
  have h3 := PyProof.Rows.split_pos (tS (jn c ws)) ⟨#[c]⟩
  generalize Txt.split (tS (jn c ws)) ⟨#[c]⟩ = ps at h1 h2 h3
  rw [← map_tS ps, join_tS] at h1
  have e := tS_inj h1
  have e2 := jn_inj (by intro z; rw [List.map_eq_nil_iff] at z; rw [z] at h3; simp at h3) hn (fun w hw => by
    obtain ⟨p, hp, rfl⟩ := List.mem_map.mp hw
    exact h2 p hp) hf e
  rw [← e2, map_tS]
/-- the word of a deed -/
def wd : Deed → List Nat
  | .rd c => [114, 48 + c]
  | .wr c x => [119, 48 + c, 48 + x]
  | .rs => [45]
theorem wd_inj {d e : Deed} (h : wd d = wd e) : d = e := by
  cases d <;> cases e <;> simp [wd] at h
  · rw [h]
  · rw [h.1, h.2]
  · rfl
theorem wd_ne (d : Deed) : wd d ≠ [] := by cases d <;> simp [wd]
theorem wd_len (d : Deed) : (wd d).length ≤ 3 := by cases d <;> simp [wd]
theorem wd_ge (d : Deed) : ∀ x ∈ wd d, 33 ≤ x := by
  cases d <;> simp [wd] <;> omega
theorem wd_le {d : Deed} (h : d.ok 4) : ∀ x ∈ wd d, x < 128 := by
  cases d with
  | rd c => have h : c < 4 := h; simp [wd]; omega
  | wr c x => have h : c < 4 ∧ x < 3 := h; simp [wd]; omega
  | rs => simp [wd]
def rowS (ds : List Deed) : List Nat := jn 32 (ds.map wd)
def textS (ds es : List Deed) : List Nat := jn 10 [rowS ds, rowS es]
theorem jn_mem {c : Nat} : ∀ {ws : List (List Nat)} {x : Nat}, x ∈ jn c ws → x = c ∨ ∃ w ∈ ws, x ∈ w
  | [], _, h => by cases h
  | [w], x, h => .inr ⟨w, by simp, h⟩
  | w :: y :: r, x, h => by
    rw [jn_cons (by simp)] at h
    rcases List.mem_append.mp h with h | h
    · exact .inr ⟨w, by simp, h⟩
    · rcases List.mem_cons.mp h with h | h
      · exact .inl h
      · rcases jn_mem h with h | ⟨u, hu, hx⟩
        · exact .inl h
        · exact .inr ⟨u, List.mem_cons_of_mem _ hu, hx⟩
theorem row_ge (ds : List Deed) : ∀ x ∈ rowS ds, 32 ≤ x := fun x hx => by
  rcases jn_mem hx with rfl | ⟨w, hw, hx⟩
  · exact Nat.le_refl _
  · obtain ⟨d, _, rfl⟩ := List.mem_map.mp hw
    have := wd_ge d x hx
    omega
theorem row_le {ds : List Deed} (h : ∀ d ∈ ds, d.ok 4) : ∀ x ∈ rowS ds, x < 128 := fun x hx => by
  rcases jn_mem hx with rfl | ⟨w, hw, hx⟩
  · decide
  · obtain ⟨d, hd, rfl⟩ := List.mem_map.mp hw
    exact wd_le (h d hd) x hx
theorem jn_len {c m : Nat} : ∀ {ws : List (List Nat)}, (∀ w ∈ ws, w.length ≤ m) → (jn c ws).length ≤ ws.length * (m + 1)
  | [], _ => Nat.zero_le _
  | [w], h => by
    have := h w (by simp)
    show w.length ≤ _
    simp; omega
  | w :: y :: r, h => by
    have h1 := h w (by simp)
    have h2 := jn_len (c := c) (ws := y :: r) fun u hu => h u (List.mem_cons_of_mem _ hu)
    rw [jn_cons (by simp), List.length_append, List.length_cons]
    rw [List.length_cons (a := w), Nat.succ_mul]
    omega
theorem row_len (ds : List Deed) : (rowS ds).length ≤ ds.length * 4 := by
  have h := jn_len (c := 32) (ws := ds.map wd) (m := 3) fun w hw => by
    obtain ⟨d, _, rfl⟩ := List.mem_map.mp hw
    exact wd_len d
  rwa [List.length_map] at h
theorem row_nil {ds : List Deed} : rowS ds = [] ↔ ds = [] := by
  constructor
  · intro h
    cases ds with
    | nil => rfl
    | cons d r =>
      cases r with
      | nil => exact absurd h (wd_ne d)
      | cons e r =>
        have h : wd d ++ 32 :: jn 32 ((e :: r).map wd) = [] := h
        simp at h
  · rintro rfl; rfl
theorem split_row {ds : List Deed} (h : ds ≠ []) : Txt.split (tS (rowS ds)) ⟨#[32]⟩ = (ds.map wd).map tS :=
  split_jn (by simpa using h) fun w hw z => by
    obtain ⟨d, _, rfl⟩ := List.mem_map.mp hw
    have := wd_ge d _ z
    omega
theorem split_text (ds es : List Deed) : Txt.split (tS (textS ds es)) ⟨#[10]⟩ = [tS (rowS ds), tS (rowS es)] :=
  split_jn (ws := [rowS ds, rowS es]) (by simp) fun w hw z => by
    simp only [List.mem_cons, List.not_mem_nil, or_false] at hw
    rcases hw with rfl | rfl <;> (have := row_ge _ _ z; omega)
section
variable {X : Cx}
theorem pe_dn0 {CX : CXT} {x : Str} {ps : List Str} {k j : Nat} {sp : Sp} {E : XK} {p pos : Pos} (h : Dn X.prog X.w X.K X.mg X.base CX x ps k sp) (hr : Room j X.A) (hk : k ≤ j) (hx : Passes CX X E)
    (hg : Gl X x := by rfl) (hdb : (x == ("__debug__" : Str)) = false := by decide) : PE X (.Call (.Name x p) [] [] pos) (tCall sp [] E tNil) := by
  obtain ⟨f, fd, F, hm, kp, b⟩ := h.ex
  exact pe_call0 F (hr.mono hk) hg hm kp b .nil hx hdb
end
theorem strI {c : Nat} (h : c < 4) : Str.ofString (toString (c : Int)) = tS [48 + c] := by
  match c, h with
  | 0, _ => decide +kernel
  | 1, _ => decide +kernel
  | 2, _ => decide +kernel
  | 3, _ => decide +kernel
theorem log4 {c : Nat} (h : c < 4) : ((c : Nat) : Int).natAbs.log2 < 1920 := by
  match c, h with
  | 0, _ => decide
  | 1, _ => decide
  | 2, _ => decide
  | 3, _ => decide
/-- the deeds by their words -/
structure DW (K : PySem.W.Frag) (H : Hp) (kvs : List (Key × V)) (ok : Deed → Prop) : Prop where
  has : ∀ d, ok d → ∃ v, valV kvs (.inr (tS (wd d))) = some v ∧ DV K H v d
  only : ∀ k v, valV kvs k = some v → ∃ d, ok d ∧ k = .inr (tS (wd d))
theorem DW.mono {K : PySem.W.Frag} {H H' : Hp} {kvs : List (Key × V)} {ok : Deed → Prop} (e : Ex H H') (q : DW K H kvs ok) : DW K H' kvs ok :=
  ⟨fun d hd => by obtain ⟨v, h1, h2⟩ := q.has d hd; exact ⟨v, h1, h2.mono e⟩, q.only⟩
theorem dv_dict {K : PySem.W.Frag} {H : Hp} {D : Addr} {kvs : List (Key × V)} {o : HO} {v : V} {d : Deed} (h : H D = some (.dK kvs)) (q : DV K H v d) : DV K (upd H D o) v d := by
  obtain ⟨a, h1, h2⟩ := q
  refine ⟨a, h1, ?_⟩
  have ne : ∀ o', H a = some o' → (∀ z, o' ≠ .dK z) → a ≠ D := by
    rintro o' ho no rfl
    rw [h] at ho
    exact no kvs (Option.some.inj ho).symm
  rcases h2 with (h2 | ⟨o', h2⟩) | h2
  · exact .inl (.inl (by rw [upd_ne (ne _ h2 (fun _ z => by cases z))]; exact h2))
  · exact .inl (.inr ⟨o', by rw [upd_ne (ne _ h2 (fun _ z => by cases z))]; exact h2⟩)
  · exact .inr h2
theorem DW.put {K : PySem.W.Frag} {H : Hp} {D : Addr} {kvs : List (Key × V)} {ok : Deed → Prop} {v : V} {d : Deed} (h : H D = some (.dK kvs)) (q : DW K H kvs ok) (hv : DV K H v d) : DW K (upd H D (.dK (putK kvs (.inr (tS (wd d))) v))) (putK kvs (.inr (tS (wd d))) v) fun e => ok e ∨ e = d := by
  refine ⟨fun e he => ?_, fun k u hu => ?_⟩
  · rw [valV_put]
    by_cases z : (Sum.inr (tS (wd e)) : Key) = .inr (tS (wd d))
    · rw [if_pos z]
      have e1 : e = d := wd_inj (tS_inj (Sum.inr.inj z))
      subst e1
      exact ⟨v, rfl, dv_dict h hv⟩
    · rw [if_neg z]
      rcases he with he | rfl
      · obtain ⟨u, h1, h2⟩ := q.has e he
        exact ⟨u, h1, dv_dict h h2⟩
      · exact absurd rfl z
  · rw [valV_put] at hu
    by_cases z : k = .inr (tS (wd d))
    · exact ⟨d, .inr rfl, z⟩
    · rw [if_neg z] at hu
      obtain ⟨e, he, hk⟩ := q.only k u hu
      exact ⟨e, .inl he, hk⟩
theorem DW.iff {K : PySem.W.Frag} {H : Hp} {kvs : List (Key × V)} {ok ok' : Deed → Prop} (q : DW K H kvs ok) (h : ∀ d, ok d ↔ ok' d) : DW K H kvs ok' :=
  ⟨fun d hd => q.has d ((h d).mpr hd), fun k v hk => by obtain ⟨d, h1, h2⟩ := q.only k v hk; exact ⟨d, (h d).mp h1, h2⟩⟩
/-- all deeds at so many cells -/
def cellD (c : Nat) : List Deed := [.rd c, .wr c 0, .wr c 1, .wr c 2]
def allD (n : Nat) : List Deed := .rs :: (List.range n).flatMap cellD
theorem allD_succ (n : Nat) : allD (n + 1) = allD n ++ cellD n := by
  unfold allD
  rw [List.range_succ, List.flatMap_append]
  simp
theorem allD_len (n : Nat) : (allD n).length = 1 + 4 * n := by
  induction n with
  | zero => rfl
  | succ n ih => rw [allD_succ, List.length_append, ih]; show _ + 4 = _; omega
theorem allD_mem (d : Deed) : d ∈ allD 4 ↔ d.ok 4 := by
  have e : allD 4 = [.rs, .rd 0, .wr 0 0, .wr 0 1, .wr 0 2, .rd 1, .wr 1 0, .wr 1 1, .wr 1 2, .rd 2, .wr 2 0, .wr 2 1, .wr 2 2, .rd 3, .wr 3 0, .wr 3 1, .wr 3 2] := by decide
  rw [e]
  cases d with
  | rs => simp [Deed.ok]
  | rd c =>
    simp [Deed.ok]
    omega
  | wr c x =>
    simp [Deed.ok]
    omega
theorem dc_listX {K : PySem.W.Frag} {a : Addr} {xs : List V} {g : TG} {tt : TT} {tk tv : TE} {vs : List Nat} {σ : L2.St} {H1 : Hp} {D : Addr} {Qd : Hp → Prop} (Pv : Nat → Hp → Prop) (h0 : Pv 0 (upd H1 D (.dK []))) (hl : ∀ i H, i ≤ xs.length → Pv i H → SqL K H a xs)
    (hs : ∀ i x H, xs[i]? = some x → Pv i H → g x (wipe σ vs) H fun σ2 H2 => wipe σ2 vs = wipe σ vs ∧ tt σ2 H2 fun b H3 =>
      if b = true then tk σ2 H3 fun y H4 => tv σ2 H4 fun z H5 => ∃ kvs k, y = kV k ∧ H5 D = some (.dK kvs) ∧ kvs.length < sizeLine ∧ Pv (i + 1) (upd H5 D (.dK (putK kvs k z))) else Pv (i + 1) H3) (hd : ∀ H, Pv xs.length H → Qd H) :
    ∃ W : Nat → Nat → Hp → Prop, (∃ m, W 0 m (upd H1 D (.dK []))) ∧ ∀ i m H, W i m H → ((Itl K a).stop i H ∧ Qd H) ∨ ((Itl K a).go i H ∧ ∃ Nx : Hp → Prop, (∀ H', Nx H' → ∃ m', m' < m ∧ W (i + 1) m' H') ∧
      ∀ x H', (Itl K a).yld i H x H' → g x (wipe σ vs) H' fun σ2 H2 => wipe σ2 vs = wipe σ vs ∧ tt σ2 H2 fun b H3 => if b = true then tk σ2 H3 fun y H4 => tv σ2 H4 fun z H5 => ∃ kvs k, y = kV k ∧ H5 D = some (.dK kvs) ∧ kvs.length < sizeLine ∧ Nx (upd H5 D (.dK (putK kvs k z))) else Nx H3) :=
  it_list (B := fun x H N => g x (wipe σ vs) H fun σ2 H2 => wipe σ2 vs = wipe σ vs ∧ tt σ2 H2 fun b H3 => if b = true then tk σ2 H3 fun y H4 => tv σ2 H4 fun z H5 => ∃ kvs k, y = kV k ∧ H5 D = some (.dK kvs) ∧ kvs.length < sizeLine ∧ N (upd H5 D (.dK (putK kvs k z))) else N H3) Pv h0 hl hs hd
theorem gd_at {l : List Deed} {i : Nat} {d : Deed} (h : l[i]? = some d) : l.getD i .rs = d := by rw [List.getD_eq_getElem?_getD, h]; rfl
theorem putK_le (c : List (Key × V)) (k : Key) (x : V) : (putK c k x).length ≤ c.length + 1 := by
  unfold putK
  split
  · simp
  · simp
theorem range_get (ds : List Deed) (f : Deed → V) : (List.range ds.length).map (fun i => f (ds.getD i .rs)) = ds.map f := by
  apply List.ext_getElem
  · simp
  · intro n h1 h2
    simp only [List.length_map, List.length_range] at h1
    simp [List.getD_eq_getElem?_getD, List.getElem?_eq_getElem h1]
def Deed.nums : Deed → List Nat
  | .rd c => [c]
  | .wr c x => [c, x]
  | .rs => []
def Deed.letter : Deed → Nat
  | .rd _ => 114
  | .wr _ _ => 119
  | .rs => 45
theorem wd_parts (d : Deed) : wd d = d.letter :: (d.nums.map fun n => [48 + n]).flatten := by cases d <;> rfl
theorem vals_nums (d : Deed) : d.vals.drop 1 = d.nums.map wV := by cases d <;> rfl
theorem nums_lt {d : Deed} (h : d.ok 4) : ∀ n ∈ d.nums, n < 4 := by
  cases d with
  | rd c => have h : c < 4 := h; simp [Deed.nums]; exact h
  | wr c x => have h : c < 4 ∧ x < 3 := h; simp [Deed.nums]; omega
  | rs => simp [Deed.nums]
theorem nums_len (d : Deed) : d.nums.length ≤ 2 := by cases d <;> simp [Deed.nums]
def lettersK : List (Key × V) := [(.inr "read", .str "r"), (.inr "write", .str "w"), (.inr "rest", .str "-")]
theorem letter_at (d : Deed) : valV (mergeK [] lettersK) (.inr d.tag) = some (.str (tS [d.letter])) := by
  cases d with
  | rd c => show some (V.str "r") = some (V.str (tS [114])); rw [show ("r" : Str) = tS [114] by decide +kernel]
  | wr c x => show some (V.str "w") = some (V.str (tS [119])); rw [show ("w" : Str) = tS [119] by decide +kernel]
  | rs => show some (V.str "-") = some (V.str (tS [45])); rw [show ("-" : Str) = tS [45] by decide +kernel]
section
variable {K : PySem.W.Frag} {σ : L2.St} {H : Hp} {te tl th : TE} {tu tz : TS} {D : Ends} {j : Nat} {R : Addr → Hp → Prop}
theorem eu_slT {lo hi : Option Int} {tl th : TO} {a : Addr} {xs : List V} (h : Ev te σ H (.ref a)) (h1 : EvO tl σ H lo) (h2 : EvO th σ H hi) (hs : SqT K H a xs) (hw : ¬ (HT.sIx xs.length 0 lo = 0 ∧ HT.sIx xs.length xs.length hi = xs.length)) : EvU (tSl (rSlT K) te tl th) σ H (cutV xs lo hi) := fun H1 e _ q =>
  h H1 e _ fun H2 e2 => h1 H2 (e.trans e2) _ fun H3 e3 => h2 H3 ((e.trans e2).trans e3) _ fun H4 e4 =>
    ⟨a, xs, rfl, ex_t (((e.trans e2).trans e3).trans e4) hs, hw, fun p hp => q p _ (fresh_back ((e2.trans e3).trans e4) hp) (((e2.trans e3).trans e4).trans (Ex.new hp)) upd_same⟩
theorem q_forXT (h : ∀ Q : VK, (∀ l H2, R l H2 → Q (.ref l) H2) → te σ H Q) (k : ∀ l H2, R l H2 → tSeq (tFor (iTup K (tC (.ref l))) (gName j) tu) tz D σ H2) : tSeq (tFor (iTup K te) (gName j) tu) tz D σ H := h _ fun l H2 r => k l H2 r
theorem q_forTn {tl : TE} {a : Addr} {xs : List V} (h : Ev tl σ H (.ref a)) (hx : SqT K H a xs) (Pv : Nat → L2.St → Hp → Prop) (h0 : ∀ H1, Ex H H1 → Pv 0 σ H1) (hl : ∀ i σ' H', i ≤ xs.length → Pv i σ' H' → SqT K H' a xs)
    (hs : ∀ i x σ' H', xs[i]? = some x → Pv i σ' H' → tu { D with nx := Pv (i + 1), ct := Pv (i + 1), bk := tz D } (σ'.set j (some x)) H') (hd : ∀ σ' H', Pv xs.length σ' H' → tz D σ' H') : tSeq (tFor (iTup K tl) (gName j) tu) tz D σ H :=
  s_forTn (D := { D with nx := tz D }) h hx Pv h0 hl hs hd
end
theorem sum_lens (ws : List (List Nat)) {m : Nat} (h : ∀ w ∈ ws, w.length ≤ m) : ((ws.map tS).map (·.length)).sum ≤ ws.length * m := by
  induction ws with
  | nil => exact Nat.zero_le _
  | cons w r ih =>
    have h1 := h w (by simp)
    have h2 := ih fun u hu => h u (List.mem_cons_of_mem _ hu)
    have z : ((w :: r).map tS).map (·.length) = (tS w).length :: (r.map tS).map (·.length) := rfl
    rw [z, List.sum_cons, tS_len, List.length_cons, Nat.succ_mul]
    omega
theorem txt_join {c : Nat} {s : Str} (e : s = ⟨#[c]⟩) (ws : List (List Nat)) : Txt.join s (ws.map tS) = tS (jn c ws) := by
  rw [e]
  exact (StrLaws.glued_eq_join _ _).trans (join_tS c _)
theorem txt_join0 {s : Str} (e : s = ⟨#[]⟩) (ws : List (List Nat)) : Txt.join s (ws.map tS) = tS ws.flatten := by
  rw [e]
  exact (StrLaws.glued_eq_join _ _).trans (join_tS0 _)
theorem strOk_tS {l : List Nat} (h : ∀ x ∈ l, x < 128) : PyData.strOk (tS l) = true := by
  unfold PyData.strOk tS
  rw [List.all_toArray, List.all_eq_true]
  intro x hx
  exact decide_eq_true (Nat.lt_trans (h x hx) (by decide))
theorem strOk_text {ds es : List Deed} (h : ∀ d ∈ ds, d.ok 4) (h2 : ∀ d ∈ es, d.ok 4) : PyData.strOk (tS (textS ds es)) = true := strOk_tS fun x hx => by
  have hx : x ∈ rowS ds ++ 10 :: rowS es := hx
  rcases List.mem_append.mp hx with hx | hx
  · exact row_le h x hx
  · rcases List.mem_cons.mp hx with rfl | hx
    · decide
    · exact row_le h2 x hx
theorem nice_d2 {n : Nat} (d : Deed) : Nice (n + 1) (.tuple d.dat) := .tup (by cases d <;> simp [Deed.dat]) fun x hx => by
  cases d <;> simp only [Deed.dat, List.mem_cons, List.not_mem_nil, or_false] at hx
  · rcases hx with rfl | rfl
    · exact .str sk_read
    · exact .int _
  · rcases hx with rfl | rfl | rfl
    · exact .str sk_write
    · exact .int _
    · exact .int _
  · subst hx
    exact .str sk_rest
theorem nice_ds2 {n : Nat} {ds : List Deed} (h : ds.length ≤ 1000) : Nice (n + 2) (.list (ds.map fun d => .tuple d.dat)) := .lst (by rw [List.length_map]; exact h) fun x hx => by
  obtain ⟨d, _, rfl⟩ := List.mem_map.mp hx
  exact nice_d2 d
theorem q_clear {K : PySem.W.Frag} {σ : L2.St} {H : Hp} {ta : TE} {D : Ends} {tz : TS} {l : Addr} {xs : List V} (hl : H l = some (.lst xs)) (ha : Ev ta σ H (.ref l)) (k : ∀ H1, Ex H H1 → tz D σ (upd H1 l (.lst []))) : tSeq (tDrop (tBM0 K "list" rClear ta)) tz D σ H := s_clear (D := { D with nx := tz D }) hl ha k
end Db

namespace Db
open PySem L2 Evl StX
/-! ### own exceptions: row and place (or door and place) -/
def clsAt (s : Stmt) (i : Nat) : Stmt := match s with
  | .ClassDef _ _ _ b .. => b.getD i (.Pass ⟨0, 0, 0, 0⟩)
  | _ => .Pass ⟨0, 0, 0, 0⟩
/-- the class that all hang on, without an own __init__ -/
structure BaseX (K : PySem.W.Frag) (mg : Str → Option Value) (D : Addr) : Prop where
  gD : mg "DoorError" = some (.ref D)
  sg : PySem.W.specialIn K (.ref D) "__getattribute__" = some (some (.builtin "type.__getattribute__"))
  rd : PySem.W.readsIn K D (.type "type") = true
  fi : PySem.W.findCls K (.ref D) (.type "type") "__init__" = some (.val (.builtin "ValueError.__init__"))
/-- DoorError.__init__(self, ..) -/
theorem pe_deinit {X : Cx} {D : Addr} {e : Expr} {es : List Expr} {ta : TA} {p1 p2 pos : Pos} {pl : Sem Bool} (B : BaseX X.K X.mg D) (hg : Gl X "DoorError") (ha : PA X (e :: es) ta)
    (hc : eval (.Call (.Attribute (.Name "DoorError" p1) "__init__" p2) (e :: es) [] pos) X.env = (do
      let ov ← eval (.Name "DoorError" p1) X.env
      standAt p2.atName
      let (f, first) ← holding [ov] (getMethod ov "__init__" pl)
      callWith pos f first (backTo pos (starEach (e :: es) X.env)) (backToKw pos (keywordEach [] X.env))) := by rfl)
    (he : starEach (e :: es) X.env = (false, eval e X.env) :: starEach es X.env := by rfl) (hpl : (backTo pos (starEach es X.env)).any (·.1) = false := by rfl) :
    PE X (.Call (.Attribute (.Name "DoorError" p1) "__init__" p2) (e :: es) [] pos) (tVeI X.K ta) := by
  refine ⟨fun pins s σ H Q I h => ?_⟩
  refine PySem.W.methodCall_KW (ld_glob I hg B.gD ?_ (by decide)) hc
  refine PySem.W.method_cls I.kIn B.sg ?_
  refine PySem.W.cls_value I.kIn B.rd B.fi (by decide +kernel) ?_
  show wpAny _ _ (callWith pos (Value.builtin "ValueError.__init__") [] (backTo pos (starEach (e :: es) X.env)) []) _ _ _
  refine PyProof.Rows.callWith_method1 (thn (ha.run pos pins _ σ H _ (I.tok _) h) fun us s1 ⟨vs, H1, I1, r1, a, C, ws, ev, hl, T, ea, q⟩ => ?_) he hpl
  subst ev
  cases r1 with
  | @cons _ u0 _ ur ra rw' =>
    obtain rfl : u0 = Value.ref a := ra
    have hlen : ur.length ≤ sizeLine := by
      rw [← Paired.length rw', sizeLine_eq]
      omega
    exact oinit_ok T I1 ea hlen fun s' J => ⟨.non, H1, J, rfl, q⟩
/-- what is told of a class of the program with two fields -/
structure OwnX (K : PySem.W.Frag) (mg : Str → Option Value) (x : Str) (C D fI : Addr) (f1 f2 : Str) : Prop where
  gC : mg x = some (.ref C)
  T : OexC K C
  Xf : XfC K C
  iC : PySem.W.findIn K (.ref C) "__init__" = some (some (.ref fI))
  tI : PySem.W.typeIn K (.ref fI) = some (.type "function")
  n1 : PySem.W.findIn K (.ref C) f1 = some none
  n2 : PySem.W.findIn K (.ref C) f2 = some none
  te : PySem.W.exmOne K (.ref C) (.ref D) = some true
/-- __init__(self, r, p) of such a class -/
def sp_init (K : PySem.W.Frag) (f1 f2 : Str) : Sp := fun vs H Q _ => ∃ (a C : Addr) (r p : Nat), vs = [.ref a, .int r, .int p] ∧ r < 1000 ∧ p < 1000 ∧ OexC K C ∧ PySem.W.findIn K (.ref C) f1 = some none ∧ PySem.W.findIn K (.ref C) f2 = some none ∧ H a = some (exo a C none) ∧
  ∀ (d : Addr) (H' : Hp), H d = none → d ≠ a → H' = upd (upd H d (exd d [(f2, .int p), (f1, .int r)])) a (exo a C (some d)) → Q .non H'
theorem log1000 {n : Nat} (h : n < 1000) : ((n : Nat) : Int).natAbs.log2 < 1920 := by
  rw [Int.natAbs_natCast]
  rcases Nat.eq_zero_or_pos n with rfl | hp
  · decide
  · exact (Nat.log2_lt (by omega)).mpr (Nat.lt_of_lt_of_le h (by decide))
theorem app_len (a b : Str) : (a ++ b).length = a.length + b.length := by
  show (Str.append a b).length = _
  unfold Str.append Str.length
  simp
theorem num_len {n : Nat} (h : n < 1000) : (Str.ofString (toString (n : Int))).length ≤ 1921 := by
  have e := int_text_length_le (k := 1920) (by decide) (log1000 h)
  rw [ofString_length]
  omega
/-- the word's deed -/
def deedOf (w : List Nat) : Option Deed := (allD 4).find? fun d => decide (wd d = w)
theorem deedOf_wd {d : Deed} (h : d.ok 4) : deedOf (wd d) = some d := by
  unfold deedOf
  cases e : (allD 4).find? fun x => decide (wd x = wd d) with
  | none =>
    have z := List.find?_eq_none.mp e d ((allD_mem d).mpr h)
    simp at z
  | some x =>
    have z := List.find?_some e
    rw [wd_inj (of_decide_eq_true z)]
theorem deedOf_ok {w : List Nat} {d : Deed} (h : deedOf w = some d) : d.ok 4 ∧ wd d = w := by
  have z := List.find?_some h
  exact ⟨(allD_mem d).mp (List.mem_of_find?_eq_some h), of_decide_eq_true z⟩
theorem DW.none {K : PySem.W.Frag} {H : Hp} {kvs : List (Key × V)} (q : DW K H kvs fun d => d.ok 4) {w : List Nat} (h : deedOf w = none) : valV kvs (.inr (tS w)) = none := by
  cases e : valV kvs (.inr (tS w)) with
  | none => rfl
  | some v =>
    obtain ⟨d, hd, hk⟩ := q.only _ _ e
    have e2 : w = wd d := tS_inj (Sum.inr.inj hk)
    rw [e2, deedOf_wd hd] at h
    cases h
/-- a row's words -/
def wordsOf (c : Nat) (l : List Nat) : List (List Nat) := (Txt.split (tS l) ⟨#[c]⟩).map fun s => s.cps.toList
theorem split_words (c : Nat) (l : List Nat) : Txt.split (tS l) ⟨#[c]⟩ = (wordsOf c l).map tS := by
  unfold wordsOf
  rw [map_tS]
/-- the deeds of words from a place on, or the place of the first that is none -/
def scan : Nat → List (List Nat) → Except Nat (List Deed)
  | _, [] => .ok []
  | i, w :: r => if i = 40 then .error i else match deedOf w with
    | none => .error i
    | some d => match scan (i + 1) r with
      | .ok ds => .ok (d :: ds)
      | .error j => .error j
def progD (l : List Nat) : Except Nat (List Deed) := if l = [] then .ok [] else scan 0 (wordsOf 32 l)
theorem scan_bad : ∀ (ws : List (List Nat)) (i j : Nat), i ≤ 40 → scan i ws = .error j → j ≤ 40
  | [], _, _, _, h => by cases h
  | w :: r, i, j, hi, h => by
    rw [scan] at h
    split at h
    · cases h; omega
    · split at h
      · cases h; omega
      · split at h
        · cases h
        · rename_i z
          cases h
          exact scan_bad r (i + 1) j (by omega) z
theorem scan_ok : ∀ (ws : List (List Nat)) (i : Nat) (ds : List Deed), i ≤ 40 → scan i ws = .ok ds → i + ds.length ≤ 40 ∧ ∀ d ∈ ds, d.ok 4
  | [], i, ds, hi, h => by cases h; exact ⟨by simpa using hi, fun _ z => nomatch z⟩
  | w :: r, i, ds, hi, h => by
    rw [scan] at h
    split at h
    · cases h
    · split at h
      · cases h
      · rename_i d hd
        split at h
        · rename_i es z
          cases h
          obtain ⟨h1, h2⟩ := scan_ok r (i + 1) es (by omega) z
          refine ⟨by rw [List.length_cons]; omega, fun e he => ?_⟩
          rcases List.mem_cons.mp he with rfl | he
          · exact (deedOf_ok hd).1
          · exact h2 e he
        · cases h
/-- two rows, or the row and place of what is none -/
def readD (l : List Nat) : Except (Nat × Nat) (List Deed × List Deed) := match wordsOf 10 l with
  | [] => .error (0, 0)
  | r0 :: rest => match progD r0 with
    | .error p => .error (0, p)
    | .ok ds => match rest with
      | [] => .error (1, 0)
      | r1 :: more => match progD r1 with
        | .error p => .error (1, p)
        | .ok es => match more with
          | [] => .ok (ds, es)
          | _ => .error (2, 0)
/-- the refusal's own values -/
def xfs (f1 f2 : Str) (r p : Nat) : List (Str × V) := [(f2, .int p), (f1, .int r)]
section
variable {X : Cx}
theorem pe_dnS {x : Str} {ps : List Str} {k j : Nat} {sp : Sp} {E : L2.St → XK} {e : Expr} {es : List Expr} {t : TA} {p pos : Pos} (h : Dn X.prog X.w X.K X.mg X.base (L2.CX X.prog X.w) x ps k sp) (hr : Room j X.A) (hk : k ≤ j) (hx : ∀ σ, PassesAt (L2.CX X.prog X.w) X σ (E σ))
    (ha : PA X (e :: es) t) (hg : Gl X x := by rfl) (hdb : (x == ("__debug__" : Str)) = false := by decide) (he : starEach (e :: es) X.env = (false, eval e X.env) :: starEach es X.env := by rfl)
    (hpl : (backTo pos (starEach es X.env)).any (·.1) = false := by rfl) : PE X (.Call (.Name x p) (e :: es) [] pos) (tCallS sp E t) := by
  obtain ⟨f, fd, F, hm, kp, b⟩ := h.ex
  exact pe_callS F (hr.mono hk) hg hm kp b hx ha hdb he hpl
end
theorem exd_init {H : Hp} {d a : Addr} {o u : HO} {fs : List (Str × V)} (ha : H a = none) (hd : d ≠ a) : upd (del (upd (upd (upd H a o) d u) a u) a) d (.xd fs) = upd H d (.xd fs) := by
  funext b
  unfold upd del
  by_cases h1 : b = d
  · simp [h1]
  · by_cases h2 : b = a
    · subst h2
      simp [h1, ha]
    · simp [h1, h2]
theorem exd_init2 {H : Hp} {d a : Addr} {o u v : HO} {fs : List (Str × V)} (ha : H a = none) (hd : d ≠ a) : upd (del (upd (upd (upd H a o) d u) a v) a) d (.xd fs) = upd H d (.xd fs) := by
  funext b
  unfold upd del
  by_cases h1 : b = d
  · simp [h1]
  · by_cases h2 : b = a
    · subst h2
      simp [h1, ha]
    · simp [h1, h2]
def preE (ds : List Deed) : Except Nat (List Deed) → Except Nat (List Deed)
  | .ok es => .ok (ds ++ es)
  | .error j => .error j
theorem preE_nil (x : Except Nat (List Deed)) : preE [] x = x := by cases x <;> rfl
theorem scan_step {i : Nat} {w : List Nat} {r : List (List Nat)} {d : Deed} {ds : List Deed} (h40 : i ≠ 40) (hd : deedOf w = some d) : preE ds (scan i (w :: r)) = preE (ds ++ [d]) (scan (i + 1) r) := by
  rw [scan, if_neg h40, hd]
  cases scan (i + 1) r with
  | ok es => simp [preE]
  | error j => rfl
theorem scan_stop {i : Nat} {w : List Nat} {r : List (List Nat)} {ds : List Deed} (h : i = 40 ∨ deedOf w = none) : preE ds (scan i (w :: r)) = .error i := by
  rw [scan]
  by_cases h40 : i = 40
  · rw [if_pos h40]; rfl
  · rw [if_neg h40]
    rcases h with h | h
    · exact absurd h h40
    · rw [h]; rfl
theorem DW.putIn {K : PySem.W.Frag} {H : Hp} {D : Addr} {kvs : List (Key × V)} {l : List Deed} {v : V} {d : Deed} (h : H D = some (.dK kvs)) (q : DW K H kvs fun e => e ∈ l) (hv : DV K H v d) :
    DW K (upd H D (.dK (putK kvs (.inr (tS (wd d))) v))) (putK kvs (.inr (tS (wd d))) v) fun e => e ∈ l ++ [d] :=
  (DW.put h q hv).iff fun e => by simp
theorem sum2 {a b c d : Nat} (h : a = c) (g : b = d) : a + b = c + d := by rw [h, g]
theorem strI' {c : Nat} (h : c < 4) : (toString (c : Int) : Str) = tS [48 + c] := strI h
end Db

namespace Db
open PySem L2 Evl StX
/-! ### isinstance of a caught exception of an own class, with or without a dict -/
structure IsC (K : PySem.W.Frag) (C : Addr) : Prop where
  x : XfC K C
  ha : PySem.W.findIn K (.ref C) "__class__" = some (some (.builtin "object.__class__"))
  hn : PySem.W.specialIn K (.builtin "object.__class__") "__get__" = some (some (.builtin "getset_descriptor.__get__"))
  ht : PySem.W.takesIn K (.builtin "object.__class__") = some true
  hm : PySem.W.mroIn K C (.type "object") = some true
def DctOk (d : Option Addr) (H : Hp) : Prop := match d with
  | none => True
  | some dd => ∃ fs, H dd = some (.xd fs)
theorem inst_exc {X : Cx} {a C : Addr} {oe : Obj} {cls : Value} {d : Option Addr} {pn : List (Addr × Obj)} {pins : List (Addr × Obj)} {σ : L2.St} {H : Hp} {s : Shared} (hz : Zc cls d oe) (hf : ∃ vs, oe.data = .fields vs) (I : Inv (X.suite a ((a, oe) :: pn)) pins σ H s)
    (hc : cls = .ref C) (hd : DctOk d H) : ∃ od, PySem.W.InstAt s.heap a oe C od := by
  obtain ⟨ha, _⟩ := I.pin (a, oe) (List.mem_append_left _ List.mem_cons_self)
  obtain ⟨vs, hv⟩ := hf
  subst hc
  cases d with
  | none => exact ⟨none, ha, hz.1, by unfold PySem.W.notCls; rw [hv] <;> rfl, by rw [hz.2]; trivial⟩
  | some dd =>
    obtain ⟨fs, ea⟩ := hd
    have hx : ObjOk X.prog X.w H s.heap dd (.xd fs) := I.hok dd _ ea
    obtain ⟨mA, hns, hr⟩ := hx
    obtain ⟨od, ho, hl⟩ := lookIn_ns hns
    exact ⟨some od, ha, hz.1, by unfold PySem.W.notCls; rw [hv] <;> rfl, by rw [hz.2]; exact ho⟩
theorem IsC.kit {K : PySem.W.Frag} {C x : Addr} {ox : Obj} {od : Option Obj} (T : IsC K C) : PySem.W.KitX K (.ref x) (.ref C) (fun h => PySem.W.InstAt h x ox C od) := by
  refine PySem.W.kitx_exc ?_ T.x.ga T.x.gg T.x.exC T.ha T.hn T.ht T.hm
  obtain ⟨cd, hc, _⟩ := PySem.W.any_some T.x.hdC
  rw [hc]; rfl
def rIsD (K : PySem.W.Frag) (a : Addr) (cls : Value) (d : Option Addr) : List V → Hp → VK → Prop := fun xs H Q => ∃ (C : Addr) (c : V) (u : Value) (b : Bool), xs = [.ref a, c] ∧ cls = .ref C ∧ IsC K C ∧ DctOk d H ∧ ClsV c u ∧ PySem.W.kitOne K (.ref C) u = some b ∧ Q (.bl b) H
def rIsDT (K : PySem.W.Frag) (a : Addr) (cls : Value) (d : Option Addr) : List V → Hp → VK → Prop := fun xs H Q => ∃ (C tp : Addr) (cs : List V) (us : List Value) (b : Bool), xs = [.ref a, .ref tp] ∧ cls = .ref C ∧ IsC K C ∧ DctOk d H ∧ H tp = some (.tup cs) ∧ Paired ClsV cs us ∧ PySem.W.kitAny K (.ref C) us = some b ∧ Q (.bl b) H
section
variable {X : Cx} {a : Addr} {oe : Obj} {cls : Value} {d : Option Addr} {pn : List (Addr × Obj)}
theorem call_isD (hz : Zc cls d oe) (hf : ∃ vs, oe.data = .fields vs) : CallR (X.suite a ((a, oe) :: pn)) (.builtin "isinstance") (rIsD X.K a cls d) := by
  intro pins s σ H xs us Q I r h
  obtain ⟨C, c, u, b, rfl, hc, T, hd, k, e, q⟩ := h
  obtain ⟨u1, u2, rfl, r1, r2⟩ := vals2 r
  have e2 := k.eq r2
  subst e2
  cases (show u1 = Value.ref a from r1)
  obtain ⟨od, J⟩ := inst_exc hz hf I hc hd
  exact PySem.W.kia_one T.kit I.kIn J e (fun z => nomatch z) fun tk => ⟨.bl b, H, I.tok tk, rfl, q⟩
theorem call_isDT (hz : Zc cls d oe) (hf : ∃ vs, oe.data = .fields vs) : CallR (X.suite a ((a, oe) :: pn)) (.builtin "isinstance") (rIsDT X.K a cls d) := by
  intro pins s σ H xs us Q I r h
  obtain ⟨C, tp, cs, ws, b, rfl, hc, T, hd, hT, k, e, q⟩ := h
  obtain ⟨u1, u2, rfl, r1, r2⟩ := vals2 r
  cases (show u2 = Value.ref tp from r2)
  cases (show u1 = Value.ref a from r1)
  obtain ⟨od, J⟩ := inst_exc hz hf I hc hd
  obtain ⟨_, its, rv, o, h1, h2, n, h3⟩ := (show ObjOk X.prog X.w H s.heap tp (.tup cs) from I.hok tp _ hT)
  have e3 := ClsV.all k rv
  subst e3
  obtain ⟨oc, od2, dt, sl⟩ := o
  simp only at h2 h3
  subst h2 h3
  exact PySem.W.kia_tup T.kit I.kIn J h1 e (fun z => nomatch z) fun tk => ⟨.bl b, H, I.tok tk, rfl, q⟩
end
end Db
namespace Db
open PySem L2 Evl StX
/-- what the law names: the classes -/
structure ClsG (K : PySem.W.Frag) (mg : Str → Option Value) (aDoorError aBadMemory aBadOrder aBadProgram aBadRule aTooMany aBadText : Addr) : Prop where
  g_DoorError : mg "DoorError" = some (.ref aDoorError)
  g_BadMemory : mg "BadMemory" = some (.ref aBadMemory)
  g_BadOrder : mg "BadOrder" = some (.ref aBadOrder)
  g_BadProgram : mg "BadProgram" = some (.ref aBadProgram)
  g_BadRule : mg "BadRule" = some (.ref aBadRule)
  g_TooMany : mg "TooMany" = some (.ref aTooMany)
  g_BadText : mg "BadText" = some (.ref aBadText)
  n_VE : mg "ValueError" = none
/-- isinstance(e, x) for the law's classes -/
structure TxtE (K : PySem.W.Frag) (aBadMemory aBadOrder aBadProgram aBadRule aTooMany aBadText : Addr) : Prop where
  ic : IsC K aBadText
  k1 : PySem.W.kitOne K (.ref aBadText) (.ref aBadMemory) = some false
  k2 : PySem.W.kitOne K (.ref aBadText) (.ref aBadOrder) = some false
  k3 : PySem.W.kitOne K (.ref aBadText) (.ref aBadProgram) = some false
  k4 : PySem.W.kitOne K (.ref aBadText) (.ref aBadRule) = some false
  k5 : PySem.W.kitOne K (.ref aBadText) (.ref aTooMany) = some false
  k6 : PySem.W.kitOne K (.ref aBadText) (.ref aBadText) = some true
  k7 : PySem.W.kitOne K (.ref aBadText) (.type "ValueError") = some true
def datDs (ds : List Deed) : PyData := .list (ds.map fun d => .tuple d.dat)
def datR : Except (Nat × Nat) (List Deed × List Deed) → PyData
  | .ok (ds, es) => .tuple [datDs ds, datDs es]
  | .error (r, j) => .tuple [.str "BadText", .int (r : Int), .int (j : Int)]
/-! ### the first bad place -/
theorem scan_err : ∀ (ws : List (List Nat)) (i j : Nat), i ≤ 40 → scan i ws = .error j → i ≤ j ∧ j - i < ws.length ∧ (j = 40 ∨ (ws[j - i]?.bind deedOf) = none) ∧ ∀ p, p < j - i → p + i ≠ 40 ∧ (ws[p]?.bind deedOf) ≠ none
  | [], _, _, _, h => by cases h
  | w :: r, i, j, hi, h => by
    rw [scan] at h
    split at h
    · rename_i h40
      cases h
      exact ⟨Nat.le_refl _, by simp, .inl h40, fun p hp => by omega⟩
    · rename_i h40
      split at h
      · rename_i hd
        cases h
        exact ⟨Nat.le_refl _, by simp, .inr (by simp [hd]), fun p hp => by omega⟩
      · rename_i d hd
        split at h
        · cases h
        · rename_i z
          cases h
          obtain ⟨h1, h2, h3, h4⟩ := scan_err r (i + 1) j (by omega) z
          obtain ⟨m, hm⟩ : ∃ m, j - i = m + 1 := ⟨j - i - 1, by omega⟩
          have hm' : j - (i + 1) = m := by omega
          rw [hm'] at h2 h3 h4
          rw [hm]
          refine ⟨by omega, by simp; omega, by simpa using h3, fun p hp => ?_⟩
          cases p with
          | zero => exact ⟨by omega, by simp [hd]⟩
          | succ p =>
            obtain ⟨z1, z2⟩ := h4 p (by omega)
            exact ⟨by omega, by simpa using z2⟩
theorem scan_good : ∀ (ws : List (List Nat)) (i : Nat) (ds : List Deed), i ≤ 40 → scan i ws = .ok ds → ws.map deedOf = ds.map some
  | [], i, ds, hi, h => by cases h; rfl
  | w :: r, i, ds, hi, h => by
    rw [scan] at h
    split at h
    · cases h
    · split at h
      · cases h
      · rename_i d hd
        split at h
        · rename_i es z
          cases h
          simp [hd, scan_good r (i + 1) es (by omega) z]
        · cases h
theorem filter_first {f : Nat → Bool} : ∀ {n j : Nat}, j < n → f j = true → (∀ p, p < j → f p = false) → ∃ r, (List.range n).filter f = j :: r := by
  intro n j hj hf hp
  have e : List.range n = List.range j ++ (j :: List.range' (j + 1) (n - j - 1)) := by
    rw [List.range_eq_range', List.range_eq_range', ← List.range'_succ]
    have := List.range'_append (s := 0) (m := j) (n := n - j - 1 + 1) (step := 1)
    rw [Nat.one_mul, Nat.zero_add] at this
    rw [this]
    congr 1
    omega
  rw [e, List.filter_append, List.filter_cons, if_pos hf]
  have e0 : (List.range j).filter f = [] := List.filter_eq_nil_iff.mpr fun p h => by rw [hp p (List.mem_range.mp h)]; exact Bool.false_ne_true
  rw [e0]
  exact ⟨_, rfl⟩
end Db

namespace Db
open PySem L2 Evl StX
/-! ### weights of texts -/
def wt (f : Nat → Nat) (l : List Nat) : Nat := (l.map f).sum
def gw (f : Nat → Nat) (c : Nat) (ws : List (List Nat)) : Nat := (ws.map fun w => wt f w + f c).sum
theorem wt_app (f : Nat → Nat) (a b : List Nat) : wt f (a ++ b) = wt f a + wt f b := by unfold wt; rw [List.map_append, List.sum_append]
theorem wt_cons (f : Nat → Nat) (x : Nat) (b : List Nat) : wt f (x :: b) = f x + wt f b := by unfold wt; rw [List.map_cons, List.sum_cons]
theorem gw_app (f : Nat → Nat) (c : Nat) (a b : List (List Nat)) : gw f c (a ++ b) = gw f c a + gw f c b := by unfold gw; rw [List.map_append, List.sum_append]
theorem gw_cons (f : Nat → Nat) (c : Nat) (x : List Nat) (b : List (List Nat)) : gw f c (x :: b) = wt f x + f c + gw f c b := by unfold gw; rw [List.map_cons, List.sum_cons]
theorem gw_nil (f : Nat → Nat) (c : Nat) : gw f c [] = 0 := rfl
theorem wt_jn (f : Nat → Nat) (c : Nat) : ∀ {ws : List (List Nat)}, ws ≠ [] → wt f (jn c ws) + f c = gw f c ws
  | [], h => absurd rfl h
  | [x], _ => by rw [gw_cons, gw_nil]; rfl
  | x :: y :: r, _ => by
    have ih := wt_jn f c (ws := y :: r) (by simp)
    rw [jn_cons (by simp), wt_app, wt_cons, gw_cons, ← ih]
    omega
theorem wt_jn_le (f : Nat → Nat) (c : Nat) (ws : List (List Nat)) : wt f (jn c ws) + f c ≤ gw f c ws + f c := by
  cases ws with
  | nil => show 0 + _ ≤ 0 + _; omega
  | cons x r => rw [wt_jn f c (by simp)]; omega
theorem jn_words (c : Nat) (l : List Nat) : jn c (wordsOf c l) = l := by
  have h1 := StrLaws.join_split (tS l) ⟨#[c]⟩
  rw [split_words, join_tS] at h1
  exact tS_inj h1
theorem words_free {c : Nat} {l w : List Nat} (h : w ∈ wordsOf c l) : c ∉ w := by
  obtain ⟨s, hs, rfl⟩ := List.mem_map.mp h
  exact StrLaws.split_free (tS l) c s hs
theorem words_ne (c : Nat) (l : List Nat) : wordsOf c l ≠ [] := fun z => by
  have h2 : 1 ≤ (Txt.split (tS l) ⟨#[c]⟩).length := PyProof.Rows.split_pos _ _
  rw [split_words, z] at h2
  simp at h2
theorem gw_words (f : Nat → Nat) (c : Nat) (l : List Nat) : gw f c (wordsOf c l) = wt f l + f c := by
  rw [← wt_jn f c (words_ne c l), jn_words]
theorem gw_at {f : Nat → Nat} {c : Nat} : ∀ {ws : List (List Nat)} {k : Nat} {w : List Nat}, ws[k]? = some w → gw f c ws = gw f c (ws.take k) + (wt f w + f c) + gw f c (ws.drop (k + 1))
  | x :: r, 0, w, h => by
    cases h
    rw [gw_cons]
    simp [gw_nil]
  | x :: r, k + 1, w, h => by
    rw [gw_cons, gw_at (k := k) (by simpa using h), List.take_succ_cons, gw_cons, List.drop_succ_cons]
    omega
theorem gw_parts (f : Nat → Nat) (c : Nat) (ws : List (List Nat)) (k : Nat) : gw f c ws = gw f c (ws.take k) + gw f c (ws.drop k) := by
  rw [← gw_app, List.take_append_drop]
theorem wt_parts (f : Nat → Nat) (l : List Nat) (k : Nat) : wt f l = wt f (l.take k) + wt f (l.drop k) := by
  rw [← wt_app, List.take_append_drop]
theorem wt_word {f : Nat → Nat} {c : Nat} {l w : List Nat} (h : w ∈ wordsOf c l) : wt f w ≤ wt f l := by
  obtain ⟨k, hk, e⟩ := List.getElem_of_mem h
  have z := gw_at (f := f) (c := c) (k := k) (w := w) (by rw [List.getElem?_eq_getElem hk, e])
  rw [gw_words] at z
  omega
theorem gw_rep (f : Nat → Nat) (c : Nat) (w : List Nat) : ∀ n, gw f c (List.replicate n w) = n * (wt f w + f c)
  | 0 => by simp [gw_nil]
  | n + 1 => by rw [List.replicate_succ, gw_cons, gw_rep f c w n, Nat.succ_mul]; omega
theorem wt_zero {f : Nat → Nat} {l : List Nat} (h : ∀ x ∈ l, f x = 0) : wt f l = 0 := by
  induction l with
  | nil => rfl
  | cons x r ih => rw [wt_cons, h x (by simp), ih fun y hy => h y (List.mem_cons_of_mem _ hy)]
theorem wt_le {f : Nat → Nat} {l : List Nat} (h : ∀ x, f x ≤ 1) : wt f l ≤ l.length := by
  induction l with
  | nil => exact Nat.le_refl _
  | cons x r ih => have := h x; rw [wt_cons, List.length_cons]; omega
def one1 (_ : Nat) : Nat := 1
def spc (x : Nat) : Nat := if x = 10 ∨ x = 32 then 1 else 0
theorem spc_le (x : Nat) : spc x ≤ 1 := by unfold spc; split <;> omega
theorem one_le (x : Nat) : one1 x ≤ 1 := Nat.le_refl _
theorem wt_one (l : List Nat) : wt one1 l = l.length := by
  induction l with
  | nil => rfl
  | cons x r ih => rw [wt_cons, ih, List.length_cons]; unfold one1; omega
theorem gw_ge {f : Nat → Nat} {c : Nat} (h : f c = 1) : ∀ ws : List (List Nat), ws.length ≤ gw f c ws
  | [] => Nat.le_refl _
  | x :: r => by have := gw_ge h r; rw [gw_cons, List.length_cons, h]; omega
theorem words_le10 (l : List Nat) : (wordsOf 10 l).length ≤ wt spc l + 1 := by
  have h := gw_ge (f := spc) (c := 10) rfl (wordsOf 10 l)
  rw [gw_words] at h
  exact h
theorem words_le32 (l : List Nat) : (wordsOf 32 l).length ≤ wt spc l + 1 := by
  have h := gw_ge (f := spc) (c := 32) rfl (wordsOf 32 l)
  rw [gw_words] at h
  exact h
theorem mem_jn {c : Nat} : ∀ {ws : List (List Nat)} {w : List Nat}, w ∈ ws → ∀ x ∈ w, x ∈ jn c ws
  | [y], w, h, x, hx => by
    rw [List.mem_singleton] at h
    subst h
    exact hx
  | y :: z :: r, w, h, x, hx => by
    rw [jn_cons (by simp)]
    rcases List.mem_cons.mp h with rfl | h
    · exact List.mem_append_left _ hx
    · exact List.mem_append_right _ (List.mem_cons_of_mem _ (mem_jn h x hx))
/-- a word of a row has no blank and no line end -/
theorem word_spc {l r w : List Nat} (hr : r ∈ wordsOf 10 l) (hw : w ∈ wordsOf 32 r) : wt spc w = 0 := wt_zero fun x hx => by
  have h1 : 32 ∉ w := words_free hw
  have h2 : 10 ∉ r := words_free hr
  have h3 : x ∈ r := by
    have z := mem_jn (c := 32) hw x hx
    rwa [jn_words] at z
  unfold spc
  rw [if_neg]
  rintro (rfl | rfl)
  · exact h2 h3
  · exact h1 hx
/-! changes of a text -/
structure Chg (l l' : List Nat) : Prop where
  len : l'.length ≤ 41 * l.length + 40
  sp : wt spc l' ≤ 2 * wt spc l + 40
theorem chg_of {l l' : List Nat} (h1 : wt one1 l' ≤ 41 * l.length + 40) (h2 : wt spc l' ≤ 2 * wt spc l + 40) : Chg l l' := ⟨by rwa [wt_one] at h1, h2⟩
theorem chg_sign {l s : List Nat} {a b : Nat} (hs : s.length ≤ 1) (h : a ≤ b) : Chg l (l.take a ++ s ++ l.drop b) := by
  have key : ∀ f : Nat → Nat, (∀ x, f x ≤ 1) → wt f (l.take a ++ s ++ l.drop b) ≤ wt f l + 1 := fun f hf => by
    have h1 := wt_parts f l a
    have h2 := wt_parts f (l.drop a) (b - a)
    have e : (l.drop a).drop (b - a) = l.drop b := by rw [List.drop_drop]; congr 1; omega
    rw [e] at h2
    have h3 := wt_le (l := s) hf
    rw [wt_app, wt_app]
    omega
  have k1 := key one1 one_le
  have k2 := key spc spc_le
  rw [wt_one l] at k1
  exact chg_of (by omega) (by omega)
theorem chg_rows {l r : List Nat} {k : Nat} {ws : List (List Nat)} (hr : (wordsOf 10 l)[k]? = some r)
    (h : ws = (wordsOf 10 l).take k ++ (wordsOf 10 l).drop (k + 1) ∨ ws = (wordsOf 10 l).take k ++ [r] ++ (wordsOf 10 l).drop k ∨ ws = (wordsOf 10 l).drop k ++ (wordsOf 10 l).take k) : Chg l (jn 10 ws) := by
  have key : ∀ f : Nat → Nat, f 10 = 1 → wt f (jn 10 ws) ≤ 2 * wt f l + 1 := fun f hf => by
    have h1 := gw_words f 10 l
    have h2 := gw_at (f := f) (c := 10) hr
    have h3 := gw_parts f 10 (wordsOf 10 l) k
    have h4 := wt_word (f := f) (List.mem_of_getElem? hr)
    by_cases hn : ws = []
    · rw [hn]; exact Nat.zero_le _
    have h5 := wt_jn f 10 hn
    rcases h with rfl | rfl | rfl
    · rw [gw_app] at h5; omega
    · rw [gw_app, gw_app, gw_cons, gw_nil] at h5; omega
    · rw [gw_app] at h5; omega
  have k1 := key one1 rfl
  have k2 := key spc rfl
  rw [wt_one l] at k1
  exact chg_of (by omega) (by omega)
theorem chg_words {l r w : List Nat} {k j : Nat} {mid : List (List Nat)} (hr : (wordsOf 10 l)[k]? = some r) (hw : (wordsOf 32 r)[j]? = some w)
    (h : mid = [] ∨ (∃ n, n ≤ 41 ∧ mid = List.replicate n w) ∨ ∃ o : List Nat, mid = [o] ∧ o.length ≤ 4 ∧ wt spc o = 0) :
    Chg l (jn 10 ((wordsOf 10 l).take k ++ [jn 32 ((wordsOf 32 r).take j ++ mid ++ (wordsOf 32 r).drop (j + 1))] ++ (wordsOf 10 l).drop (k + 1))) := by
  have hr' := List.mem_of_getElem? hr
  have hw' := List.mem_of_getElem? hw
  have w0 := word_spc hr' hw'
  generalize hnr : jn 32 ((wordsOf 32 r).take j ++ mid ++ (wordsOf 32 r).drop (j + 1)) = nr
  have key : ∀ f : Nat → Nat, f 10 = 1 → f 32 = 1 → wt f (jn 10 ((wordsOf 10 l).take k ++ [nr] ++ (wordsOf 10 l).drop (k + 1))) + wt f r = wt f l + wt f nr ∧ wt f nr ≤ wt f r + gw f 32 mid - (wt f w + 1) ∧ wt f r ≤ wt f l ∧ wt f w ≤ wt f r := fun f h10 h32 => by
    have h1 := gw_words f 10 l
    have h2 := gw_at (f := f) (c := 10) hr
    have h5 := wt_jn f 10 (ws := (wordsOf 10 l).take k ++ [nr] ++ (wordsOf 10 l).drop (k + 1)) (by simp)
    rw [gw_app, gw_app, gw_cons, gw_nil] at h5
    have g1 := gw_words f 32 r
    have g2 := gw_at (f := f) (c := 32) hw
    have g4 := wt_word (f := f) hw'
    refine ⟨by omega, ?_, wt_word hr', g4⟩
    by_cases hn : (wordsOf 32 r).take j ++ mid ++ (wordsOf 32 r).drop (j + 1) = []
    · have e : nr = [] := by rw [← hnr, hn]; rfl
      rw [e]; exact Nat.zero_le _
    have g5 := wt_jn f 32 hn
    rw [hnr, gw_app, gw_app] at g5
    omega
  obtain ⟨a1, a2, a3, a4⟩ := key one1 rfl rfl
  obtain ⟨b1, b2, b3, b4⟩ := key spc rfl rfl
  rw [wt_one l] at a1 a3
  have m1 : gw one1 32 mid ≤ 41 * (wt one1 w + 1) := by
    rcases h with rfl | ⟨n, hn, rfl⟩ | ⟨o, rfl, ho, _⟩
    · rw [gw_nil]; omega
    · rw [gw_rep]
      have := Nat.mul_le_mul_right (wt one1 w + one1 32) hn
      have e : one1 32 = 1 := rfl
      rw [e] at this ⊢
      omega
    · rw [gw_cons, gw_nil, wt_one o]
      have e : one1 32 = 1 := rfl
      omega
  have m2 : gw spc 32 mid ≤ 41 := by
    rcases h with rfl | ⟨n, hn, rfl⟩ | ⟨o, rfl, _, ho⟩
    · rw [gw_nil]; omega
    · rw [gw_rep, w0]
      have e : spc 32 = 1 := rfl
      rw [e]
      omega
    · rw [gw_cons, gw_nil, ho]
      have e : spc 32 = 1 := rfl
      omega
  refine chg_of ?_ (by omega)
  have : wt one1 nr ≤ wt one1 r + 40 * (wt one1 w + 1) := by omega
  omega

/-! ### what evaluates to what, some more -/
section
variable {K : PySem.W.Frag} {σ : L2.St} {H : Hp} {te to ta tb : TE}
theorem el_split {c : Nat} {s : Str} {l : List Nat} (e : s = ⟨#[c]⟩) (h1 : Ev to σ H (.str (tS l))) (h2 : Ev te σ H (.str s)) (hl : l.length ≤ 16000000) :
    EvL (tM1 (fun x xs H Q => ∃ a b, x = V.str a ∧ xs = [.str b] ∧ (b.length == 0) = false ∧ a.length + 2 ≤ sizeLine ∧ rNewStrs (Txt.split a b) H Q) to te) σ H (((wordsOf c l).map tS).map V.str) := fun H1 f Q q =>
  h1 H1 f _ fun H2 f2 => ⟨⟨_, rfl⟩, h2 H2 (f.trans f2) _ fun H3 f3 => ⟨tS l, s, rfl, rfl, by rw [e]; rfl, by rw [tS_len]; exact Nat.le_trans (by omega : _ ≤ 16777216) (by decide), fun p np => by
    rw [e, split_words]
    exact q p _ (fresh_back (f2.trans f3) np) ((f2.trans f3).trans (Ex.new np)) upd_same⟩⟩
theorem ev_catS {a b : List Nat} (h1 : Ev ta σ H (.str (tS a))) (h2 : Ev tb σ H (.str (tS b))) (hl : a.length + b.length ≤ 16777216) :
    Ev (tOp (fun x y H Q => ∃ i j, x = V.str i ∧ y = V.str j ∧ i.length + j.length ≤ sizeLine ∧ Q (.str (i ++ j)) H) ta tb) σ H (.str (tS (a ++ b))) :=
  ev_op h1 h2 fun H1 f Q q => ⟨_, _, rfl, rfl, by rw [tS_len, tS_len]; exact Nat.le_trans hl (by decide), by rw [tS_app]; exact q H1 (Ex.refl _)⟩
theorem sum_gw (c : Nat) (ws : List (List Nat)) : ((ws.map tS).map (·.length)).sum + ws.length * 1 = gw one1 c ws := by
  induction ws with
  | nil => rfl
  | cons w r ih =>
    rw [gw_cons, ← ih, List.map_cons, List.map_cons, List.sum_cons, tS_len, wt_one, List.length_cons]
    show _ = _ + one1 c + _
    have e : one1 c = 1 := rfl
    omega
theorem gw_jn (c : Nat) (ws : List (List Nat)) : gw one1 c ws ≤ (jn c ws).length + 1 := by
  cases ws with
  | nil => exact Nat.zero_le _
  | cons x r =>
    have h := wt_jn one1 c (ws := x :: r) (by simp)
    rw [← h, wt_one]
    exact Nat.le_refl _
theorem jn_mem_len {c : Nat} {ws : List (List Nat)} {w : List Nat} (h : w ∈ ws) : w.length ≤ (jn c ws).length := by
  obtain ⟨k, hk, e⟩ := List.getElem_of_mem h
  have z := gw_at (f := one1) (c := c) (k := k) (w := w) (by rw [List.getElem?_eq_getElem hk, e])
  have z2 := gw_jn c ws
  rw [wt_one] at z
  have e1 : one1 c = 1 := rfl
  omega
theorem ev_joinL {c : Nat} {s : Str} {ws : List (List Nat)} (e : s = ⟨#[c]⟩) (h1 : Ev to σ H (.str s)) (h2 : EvL te σ H ((ws.map tS).map V.str)) (hl : (jn c ws).length ≤ 16000000) :
    Ev (tM1 (fun x xs H Q => ∃ a p, ∃ ys : List Str, x = V.str a ∧ xs = [.ref p] ∧ (SqL K H p (ys.map V.str) ∨ SqT K H p (ys.map V.str)) ∧ (ys.map (·.length)).sum + ys.length * a.length ≤ 16777216 ∧ Q (.str (Txt.join a ys)) H) to te) σ H (.str (tS (jn c ws))) := fun H1 f Q q =>
  h1 H1 f _ fun H2 f2 => ⟨⟨_, rfl⟩, h2 H2 (f.trans f2) _ fun p H3 np f3 hp => ⟨s, p, ws.map tS, rfl, rfl, .inl (SqL.of hp), by
    have z := sum_gw c ws
    have z2 := gw_jn c ws
    have e1 : s.length = 1 := by rw [e]; rfl
    rw [e1, List.length_map]
    omega, by rw [txt_join e]; exact q H3 (f2.trans f3)⟩⟩
theorem ev_joinR {c : Nat} {s : Str} {ws : List (List Nat)} {p : Addr} (e : s = ⟨#[c]⟩) (h1 : Ev to σ H (.str s)) (h2 : Ev te σ H (.ref p)) (hp : SqL K H p ((ws.map tS).map V.str)) (hl : (jn c ws).length ≤ 16000000) :
    Ev (tM1 (fun x xs H Q => ∃ a p, ∃ ys : List Str, x = V.str a ∧ xs = [.ref p] ∧ (SqL K H p (ys.map V.str) ∨ SqT K H p (ys.map V.str)) ∧ (ys.map (·.length)).sum + ys.length * a.length ≤ 16777216 ∧ Q (.str (Txt.join a ys)) H) to te) σ H (.str (tS (jn c ws))) := fun H1 f Q q =>
  h1 H1 f _ fun H2 f2 => ⟨⟨_, rfl⟩, h2 H2 (f.trans f2) _ fun H3 f3 => ⟨s, p, ws.map tS, rfl, rfl, .inl (ex_l ((f.trans f2).trans f3) hp), by
    have z := sum_gw c ws
    have z2 := gw_jn c ws
    have e1 : s.length = 1 := by rw [e]; rfl
    rw [e1, List.length_map]
    omega, by rw [txt_join e]; exact q H3 (f2.trans f3)⟩⟩
theorem ev_slTo {tl th : TO} {l : List Nat} {a : Nat} (h : Ev te σ H (.str (tS l))) (h1 : EvO tl σ H none) (h2 : EvO th σ H (some (a : Int))) (hl : l.length ≤ 16000000) : Ev (tSl rSlS te tl th) σ H (.str (tS (l.take a))) := fun H1 f Q q =>
  h H1 f _ fun H2 f2 => h1 H2 (f.trans f2) _ fun H3 f3 => h2 H3 ((f.trans f2).trans f3) _ fun H4 f4 => ⟨_, rfl, by rw [tS_len]; exact Nat.le_trans (by omega : _ ≤ 16777216) (by decide), by
    have e : cutS (tS l) none (some (a : Int)) = tS (l.take a) := by
      unfold cutS
      rw [tS_list, tS_len]
      exact congrArg tS (cut_to l a (fun l a b => (l.drop (HT.sIx l.length 0 a)).take (HT.sIx l.length l.length b - HT.sIx l.length 0 a)) fun _ _ _ => rfl)
    rw [e]
    exact q H4 ((f2.trans f3).trans f4)⟩
theorem ev_slFrom {tl th : TO} {l : List Nat} {a : Nat} (h : Ev te σ H (.str (tS l))) (h1 : EvO tl σ H (some (a : Int))) (h2 : EvO th σ H none) (hl : l.length ≤ 16000000) : Ev (tSl rSlS te tl th) σ H (.str (tS (l.drop a))) := fun H1 f Q q =>
  h H1 f _ fun H2 f2 => h1 H2 (f.trans f2) _ fun H3 f3 => h2 H3 ((f.trans f2).trans f3) _ fun H4 f4 => ⟨_, rfl, by rw [tS_len]; exact Nat.le_trans (by omega : _ ≤ 16777216) (by decide), by
    have e : cutS (tS l) (some (a : Int)) none = tS (l.drop a) := by
      unfold cutS
      rw [tS_list, tS_len]
      exact congrArg tS (cut_from l a (fun l a b => (l.drop (HT.sIx l.length 0 a)).take (HT.sIx l.length l.length b - HT.sIx l.length 0 a)) fun _ _ _ => rfl)
    rw [e]
    exact q H4 ((f2.trans f3).trans f4)⟩
theorem ev_slL {tl th : TO} {p : Addr} {xs ys : List V} {lo hi : Option Int} (h : Ev te σ H (.ref p)) (h1 : EvO tl σ H lo) (h2 : EvO th σ H hi) (hp : SqL K H p xs) (e : cutV xs lo hi = ys) : EvL (tSl (rSlL K) te tl th) σ H ys := by
  rw [← e]
  exact el_sl h h1 h2 hp
theorem rc_int9 {b : Bool} : RC (fun xs H Q => (∃ i, xs = [V.int i] ∧ Q (.int i) H) ∨ ∃ k, xs = [V.bl k] ∧ Q (.int (if k then 1 else 0)) H) [.bl b] H (.int (if b then 1 else 0)) := fun H1 _ _ q => .inr ⟨b, rfl, q H1 (Ex.refl H1)⟩
theorem rc_lenT9 {l : List Nat} (h : l.length ≤ 16000000) : RC (fun xs H Q => ∃ x n, xs = [x] ∧ LenV K x H n ∧ Q (.int n) H) [.str (tS l)] H (.int l.length) := fun H1 _ Q q => ⟨_, l.length, rfl, ⟨by rw [tS_len]; exact Nat.le_trans (by omega : _ ≤ 16777216) (by decide), (tS_len l).symm⟩, q H1 (Ex.refl H1)⟩
end
/-! ### deeds or None -/
def OD (K : PySem.W.Frag) (H : Hp) (v : V) : Option Deed → Prop
  | none => v = .non
  | some d => DV K H v d
theorem OD.mono {K : PySem.W.Frag} {H H' : Hp} {v : V} {o : Option Deed} (e : Ex H H') (h : OD K H v o) : OD K H' v o := by
  cases o with
  | none => exact h
  | some d => exact DV.mono e h
theorem OD.buts {K : PySem.W.Frag} {H H' : Hp} {S : List Addr} {v : V} {o : Option Deed} (b : Bt S H H') (hp : ∀ p ∈ S, ∃ us, H p = some (.lst us)) (h : OD K H v o) : OD K H' v o := by
  cases o with
  | none => exact h
  | some d => exact dv_buts b hp h
theorem OD.isn {K : PySem.W.Frag} {H : Hp} {v : V} {o : Option Deed} (h : OD K H v o) : decide (v = .non) = decide (o = none) := by
  cases o with
  | none => rw [show v = .non from h]; rfl
  | some d =>
    obtain ⟨a, rfl, _⟩ := h
    rfl
theorem paired_take {α β : Type} {F : α → β → Prop} : ∀ {l : List α} {m : List β} (n : Nat), Paired F l m → Paired F (l.take n) (m.take n)
  | _, _, 0, _ => .nil
  | _, _, n + 1, .nil => .nil
  | _, _, n + 1, .cons a t => .cons a (paired_take n t)
theorem paired_get {α β : Type} {F : α → β → Prop} : ∀ {l : List α} {m : List β} {i : Nat} {v : α}, Paired F l m → l[i]? = some v → ∃ u, m[i]? = some u ∧ F v u
  | _, _, _, _, .nil, e => by simp at e
  | _, _, 0, _, .cons r _, e => by simp at e; subst e; exact ⟨_, rfl, r⟩
  | _, _, i + 1, v, .cons _ t, e => by
    obtain ⟨u, h1, h2⟩ := paired_get (i := i) (v := v) t (by simpa using e)
    exact ⟨u, by simpa using h1, h2⟩
theorem paired_app {α β : Type} {F : α → β → Prop} : ∀ {l l' : List α} {m m' : List β}, Paired F l m → Paired F l' m' → Paired F (l ++ l') (m ++ m')
  | _, _, _, _, .nil, h => h
  | _, _, _, _, .cons a t, h => .cons a (paired_app t h)
theorem paired_good {K : PySem.W.Frag} {H : Hp} : ∀ {vs : List V} {ds : List Deed}, Paired (OD K H) vs (ds.map some) → PV K H vs ds
  | _, [], .nil => .nil
  | _, _ :: _, .cons a t => .cons a (paired_good t)
/-- a list of deeds, apart from fl -/
def PL (K : PySem.W.Frag) (fl : Addr) (H : Hp) (v : V) (ds : List Deed) : Prop := ∃ p us, v = .ref p ∧ p ≠ fl ∧ H p = some (.lst us) ∧ PV K H us ds
theorem PL.mono {K : PySem.W.Frag} {fl : Addr} {H H' : Hp} {v : V} {ds : List Deed} (e : Ex H H') (h : PL K fl H v ds) : PL K fl H' v ds := by
  obtain ⟨p, us, h1, h2, h3, h4⟩ := h
  exact ⟨p, us, h1, h2, e _ _ h3, h4.mono e⟩
theorem PL.set {K : PySem.W.Frag} {fl : Addr} {H : Hp} {v : V} {ds : List Deed} {bs cs : List V} (hD : H fl = some (.lst bs)) (h : PL K fl H v ds) : PL K fl (upd H fl (.lst cs)) v ds := by
  obtain ⟨p, us, h1, h2, h3, h4⟩ := h
  exact ⟨p, us, h1, h2, by rw [upd_ne h2]; exact h3, pv_buts ((Bt.refl H).set (by simp) : Bt [fl] H (upd H fl (.lst cs))) (by simp [hD]) h4⟩
theorem PL.dp {K : PySem.W.Frag} {fl : Addr} {H : Hp} {v : V} {ds : List Deed} (h : PL K fl H v ds) : Dp K H v (datDs ds) := by
  obtain ⟨p, us, rfl, _, h3, h4⟩ := h
  exact PV.dp (SqL.of h3) h4
/-- a row's words, none of an empty one -/
def wsk (r : List Nat) : List (List Nat) := if r = [] then [] else wordsOf 32 r
theorem progD_wsk (r : List Nat) : progD r = scan 0 (wsk r) := by
  unfold progD wsk
  by_cases h : r = []
  · rw [if_pos h, if_pos h]; rfl
  · rw [if_neg h, if_neg h]
def badAt (ws : List (List Nat)) (i : Nat) : Bool := decide (((ws.map deedOf).take 41).getD i none = none) || decide (i = 40)
def bads (ws : List (List Nat)) : List Nat := (List.range (min 41 ws.length)).filter (badAt ws)
theorem opt_at {ws : List (List Nat)} {i : Nat} (h : i < 41) : ((ws.map deedOf).take 41).getD i none = ws[i]?.bind deedOf := by
  rw [List.getD_eq_getElem?_getD, List.getElem?_take, if_pos h, List.getElem?_map]
  cases ws[i]? <;> rfl
theorem bads_err {ws : List (List Nat)} {j : Nat} (h : scan 0 ws = .error j) : ∃ r, bads ws = j :: r := by
  obtain ⟨_, h2, h3, h4⟩ := scan_err ws 0 j (by omega) h
  have h0 := scan_bad ws 0 j (by omega) h
  simp only [Nat.sub_zero] at h2 h3 h4
  refine filter_first (by omega) ?_ fun p hp => ?_
  · unfold badAt
    rw [opt_at (by omega)]
    rcases h3 with rfl | h3
    · simp
    · rw [h3]; simp
  · obtain ⟨z1, z2⟩ := h4 p hp
    unfold badAt
    rw [opt_at (by omega)]
    simp only [Bool.or_eq_false_iff, decide_eq_false_iff_not]
    exact ⟨z2, by omega⟩
theorem bads_ok {ws : List (List Nat)} {ds : List Deed} (h : scan 0 ws = .ok ds) : bads ws = [] ∧ (ws.map deedOf).take 41 = ds.map some := by
  have h1 := scan_good ws 0 ds (by omega) h
  obtain ⟨h2, _⟩ := scan_ok ws 0 ds (by omega) h
  have hl : ws.length = ds.length := by simpa using congrArg List.length h1
  refine ⟨List.filter_eq_nil_iff.mpr fun i hi => ?_, ?_⟩
  · have hi := List.mem_range.mp hi
    unfold badAt
    rw [h1, List.take_of_length_le (by simp; omega), List.getD_eq_getElem?_getD, List.getElem?_map, List.getElem?_eq_getElem (by omega : i < ds.length)]
    simp
    omega
  · rw [h1, List.take_of_length_le (by simp; omega)]
/-- rows so far -/
theorem readD_bad {l : List Nat} {k j : Nat} {r : List Nat} {dss : List (List Deed)} (hr : (wordsOf 10 l)[k]? = some r) (hk : k < 2) (h : ((wordsOf 10 l).take k).map progD = dss.map .ok) (he : progD r = .error j) : readD l = .error (k, j) := by
  unfold readD
  generalize wordsOf 10 l = ws at hr h
  match k, hk with
  | 0, _ =>
    match ws, hr with
    | r0 :: rest, hr =>
      cases hr
      simp only [he]
  | 1, _ =>
    match ws, hr with
    | r0 :: r1 :: more, hr =>
      cases hr
      match dss, h with
      | d :: _, h =>
        have h0 : progD r0 = .ok d := (List.cons.inj h).1
        simp only [h0, he]
theorem readD_end {l : List Nat} {dss : List (List Deed)} (h : ((wordsOf 10 l).take (min 2 (wordsOf 10 l).length)).map progD = dss.map .ok) :
    ((wordsOf 10 l).length = 1 ∧ readD l = .error (1, 0)) ∨ (2 < (wordsOf 10 l).length ∧ readD l = .error (2, 0)) ∨ ∃ ds es, (wordsOf 10 l).length = 2 ∧ dss = [ds, es] ∧ readD l = .ok (ds, es) := by
  have hn := words_ne 10 l
  unfold readD
  generalize wordsOf 10 l = ws at hn h
  match ws, hn with
  | [r0], _ =>
    match dss, h with
    | d :: _, h =>
      have h0 : progD r0 = .ok d := (List.cons.inj h).1
      refine .inl ⟨rfl, ?_⟩
      simp only [h0]
  | [r0, r1], _ =>
    have hl2 : dss.length = 2 := by simpa using (congrArg List.length h).symm
    match dss, hl2, h with
    | [d, e], _, h =>
      have h0 : progD r0 = .ok d := (List.cons.inj h).1
      have h1 : progD r1 = .ok e := (List.cons.inj (List.cons.inj h).2).1
      refine .inr (.inr ⟨d, e, rfl, rfl, ?_⟩)
      simp only [h0, h1]
  | r0 :: r1 :: r2 :: more, _ =>
    have em : min 2 (r0 :: r1 :: r2 :: more).length = 2 := by simp
    rw [em] at h
    have hl2 : dss.length = 2 := by simpa using (congrArg List.length h).symm
    match dss, hl2, h with
    | [d, e], _, h =>
      have h0 : progD r0 = .ok d := (List.cons.inj h).1
      have h1 : progD r1 = .ok e := (List.cons.inj (List.cons.inj h).2).1
      refine .inr (.inl ⟨by simp, ?_⟩)
      simp only [h0, h1]
section
variable {K : PySem.W.Frag} {σ : L2.St} {H : Hp} {te tb : TE} {tz : TS} {D : Ends} {i : Nat} {r : R2} {Q : VK}
theorem op_bindL {xs : List V} (h : EvL te σ H xs) (k : ∀ p H1, H p = none → Ex H H1 → H1 p = some (.lst xs) → tb σ H1 (fun y H2 => r (.ref p) y H2 Q)) : tOp r te tb σ H Q := h H (Ex.refl H) _ k
theorem q_set_bind (h : te σ H (fun v H1 => tz D (σ.set i (some v)) H1)) : tSeq (tAsg te (gName i)) tz D σ H := h
theorem cons_bind {tr : TA} {Q : List V → Hp → Prop} (h : te σ H (fun v H1 => tr σ H1 (fun vs H2 => Q (v :: vs) H2))) : tCons te tr σ H Q := h
theorem op_bind (h : te σ H (fun x H1 => tb σ H1 (fun y H2 => r x y H2 Q))) : tOp r te tb σ H Q := h
end
theorem s_forXL {K : PySem.W.Frag} {σ : L2.St} {H : Hp} {te : TE} {tu : TS} {D : Ends} {j : Nat} {R : Addr → Hp → Prop} (h : ∀ Q : VK, (∀ l H2, R l H2 → Q (.ref l) H2) → te σ H Q) (k : ∀ l H2, R l H2 → tFor (iList K (tC (.ref l))) (gName j) tu D σ H2) : tFor (iList K te) (gName j) tu D σ H := h _ fun l H2 r => k l H2 r
theorem q_forRX9 {σ : L2.St} {H : Hp} {tu tz : TS} {D : Ends} {ta : TA} {j : Nat} {R : Int → Hp → Prop} (h : ∀ Q : List V → Hp → Prop, (∀ n H1, R n H1 → Q [.int n] H1) → ta σ H Q) (k : ∀ n H1, R n H1 → tSeq (tFor (iRng1 (tCons (tC (.int n)) tNil)) (gName j) tu) tz D σ H1) : tSeq (tFor (iRng1 ta) (gName j) tu) tz D σ H := h _ fun n H1 r => k n H1 r
theorem reps_len (c : Array Nat) : ∀ (k : Nat) (acc : Array Nat), ((List.replicate k c).foldl (· ++ ·) acc).size = acc.size + k * c.size
  | 0, acc => by simp
  | k + 1, acc => by
    rw [List.replicate_succ, List.foldl_cons, reps_len c k, Array.size_append, Nat.succ_mul]
    omega
theorem op_mulT {X : Cx} : OpR X (binaryOp .Mult) (fun x y H Q => ∃ (w : Str) (n : Nat), x = .str w ∧ y = .int n ∧ 1 ≤ w.length ∧ w.length ≤ 1000 ∧ 2 ≤ n ∧ n ≤ 1000 ∧ Q (.str ⟨(List.replicate n w.cps).foldl (· ++ ·) #[]⟩) H) := by
  intro pins s σ H x y v u Q I rx ry h
  obtain ⟨w, n, rfl, rfl, hw, hw2, hn, hz, q⟩ := h
  obtain ⟨t, rfl⟩ := rx
  obtain ⟨t', rfl⟩ := ry
  obtain ⟨m1, m2, m3⟩ := PyProof.Rows.mulOk_of (x := w) (n := (n : Int)) 1000 1000 hw2 (by omega) (by omega) (by decide) (by decide)
  refine P.mul_str m1 m2 m3 ?_
  have h1 : ¬ (n : Int) < 1 := by omega
  have h2 : ¬ ((n : Int) == 1 || w.length == 0) = true := by
    rw [Bool.or_eq_true, beq_iff_eq, beq_iff_eq]
    omega
  rw [if_neg h1, if_neg h2, Int.toNat_natCast]
  refine ⟨?_, ⟨.str ⟨(List.replicate n w.cps).foldl (· ++ ·) #[]⟩, H, I.tok _, ⟨_, rfl⟩, q⟩⟩
  show ((List.replicate n w.cps).foldl (· ++ ·) #[]).size ≤ sizeLine
  rw [reps_len]
  have e : w.cps.size ≤ 1000 := hw2
  have := Nat.mul_le_mul hz e
  exact Nat.le_trans (by simp; omega : _ ≤ 1000000) (by decide)
/-! the texts that are drawn -/
def bL : Nat → Nat
  | 0 => 209
  | i + 1 => 41 * bL i + 40
def bW : Nat → Nat
  | 0 => 53
  | i + 1 => 2 * bW i + 40
structure TB (i : Nat) (l : List Nat) : Prop where
  len : l.length ≤ bL i
  sp : wt spc l ≤ bW i
theorem TB.next {i : Nat} {l l' : List Nat} (h : TB i l) (c : Chg l l') : TB (i + 1) l' := by
  have h1 := h.len
  have h2 := h.sp
  have h3 := c.len
  have h4 := c.sp
  refine ⟨?_, ?_⟩
  · show _ ≤ 41 * bL i + 40; omega
  · show _ ≤ 2 * bW i + 40; omega
theorem TB.two {i : Nat} {l : List Nat} (h : TB i l) (hi : i < 3) : l.length ≤ 353009 ∧ wt spc l ≤ 400 := by
  have h1 := h.len
  have h2 := h.sp
  have e : bL i ≤ 353009 ∧ bW i ≤ 400 := by
    match i, hi with
    | 0, _ => decide
    | 1, _ => decide
    | 2, _ => decide
  omega
theorem TB.end' {i : Nat} {l : List Nat} (h : TB i l) (hi : i ≤ 3) : l.length ≤ 16000000 ∧ wt spc l ≤ 1000 := by
  have h1 := h.len
  have h2 := h.sp
  have e : bL i ≤ 16000000 ∧ bW i ≤ 1000 := by
    match i, hi with
    | 0, _ => decide
    | 1, _ => decide
    | 2, _ => decide
    | 3, _ => decide
  omega
theorem wt_row (ds : List Deed) : wt spc (rowS ds) ≤ ds.length := by
  have h := wt_jn_le spc 32 (ds.map wd)
  have e : gw spc 32 (ds.map wd) = ds.length := by
    induction ds with
    | nil => rfl
    | cons d r ih =>
      rw [List.map_cons, gw_cons, ih (wt_jn_le spc 32 _), List.length_cons, wt_zero fun x hx => by
        have := wd_ge d x hx
        unfold spc
        rw [if_neg (by omega)]]
      show 0 + spc 32 + _ = _
      have e : spc 32 = 1 := rfl
      omega
  show wt spc (jn 32 (ds.map wd)) ≤ _
  omega
theorem tb_text {ds es : List Deed} (h1 : ds.length ≤ 40) (h2 : es.length ≤ 12) : TB 0 (textS ds es) := by
  have a1 := row_len ds
  have a2 := row_len es
  have b1 := wt_row ds
  have b2 := wt_row es
  have e : textS ds es = rowS ds ++ 10 :: rowS es := rfl
  refine ⟨?_, ?_⟩
  · rw [e, List.length_append, List.length_cons]; show _ ≤ 209; omega
  · rw [e, wt_app, wt_cons]
    have e2 : spc 10 = 1 := rfl
    show _ ≤ 53; omega
def odd11 : List Str := ["", "\n", "\n\n", "-", "-\n-", "r0 \n", "\nr9", "r0\n\n", " \n", "r0  r1\n", "x\n\nx"]
def odd12 : Str := ("\n" : Str) ++ ⟨(List.replicate 40 ("- " : Str).cps).foldl (· ++ ·) #[]⟩ ++ ("-" : Str)
theorem odd_ok : ∀ x ∈ odd11 ++ [odd12], x.cps.toList.length ≤ 16000000 ∧ wt spc x.cps.toList ≤ 1000 := by decide +kernel
theorem nice_R (l : List Nat) : Nice 3 (datR (readD l)) := by
  have hp : ∀ r ds, progD r = .ok ds → ds.length ≤ 40 := fun r ds h => by
    rw [progD_wsk] at h
    have := (scan_ok _ 0 ds (by omega) h).1
    omega
  have key : ∀ ds es, readD l = .ok (ds, es) → ds.length ≤ 40 ∧ es.length ≤ 40 := fun ds es h => by
    unfold readD at h
    split at h
    · cases h
    · split at h
      · cases h
      · rename_i h1
        split at h
        · cases h
        · split at h
          · cases h
          · rename_i h2
            split at h
            · cases h
              exact ⟨hp _ _ h1, hp _ _ h2⟩
            · cases h
  cases h : readD l with
  | error e =>
    obtain ⟨r, j⟩ := e
    refine .tup (by simp) fun d hd => ?_
    simp only [List.mem_cons, List.not_mem_nil, or_false] at hd
    rcases hd with rfl | rfl | rfl
    · exact .str (by decide +kernel)
    · exact .int _
    · exact .int _
  | ok e =>
    obtain ⟨ds, es⟩ := e
    obtain ⟨h1, h2⟩ := key ds es h
    refine .tup (by simp) fun d hd => ?_
    simp only [List.mem_cons, List.not_mem_nil, or_false] at hd
    rcases hd with rfl | rfl
    · exact nice_ds2 (by omega)
    · exact nice_ds2 (by omega)
end Db

namespace Db
open PySem L2 Evl StX
/-! ### the classes of the written part -/
section
variable {K : PySem.W.Frag}
theorem kit_self {a : Addr} : PySem.W.kitOne K (.ref a) (.ref a) = some true := by
  unfold PySem.W.kitOne
  rw [if_pos (by simp)]
theorem kit_isC {t C : Addr} {r : Bool} (h1 : PySem.W.isClsIn K C = true) (h2 : PySem.W.typeIn K (.ref C) = some (.type "type")) (h3 : PySem.W.subIn K (.ref t) (.ref C) = some r) (ne : (t == C) = false) : PySem.W.kitOne K (.ref t) (.ref C) = some r := by
  have e2 : ((PySem.W.clsIn K C).isSome && PySem.W.typeIn K (.ref C) == some (.type "type")) = true := by
    have h2' : (PySem.W.clsIn K C).isSome = true := h1
    rw [h2', h2] <;> rfl
  have e0 : ¬ ((Value.ref t == Value.ref C) = true) := fun z => by
    have z2 : Value.ref t = Value.ref C := beq_iff_eq.mp z
    have z3 : t = C := Value.ref.inj z2
    rw [z3] at ne
    simp at ne
  unfold PySem.W.kitOne
  rw [if_neg e0]
  show (if ((PySem.W.clsIn K C).isSome && PySem.W.typeIn K (.ref C) == some (.type "type")) = true then PySem.W.subIn K (.ref t) (.ref C) else none) = some r
  rw [if_pos e2]
  exact h3
theorem kit_isT {t : Addr} {T : String} {r : Bool} (h : PySem.W.subIn K (.ref t) (.type T) = some r) (hm : PySem.W.kitMeta T = true) : PySem.W.kitOne K (.ref t) (.type T) = some r := by
  unfold PySem.W.kitOne
  rw [if_neg (fun z => by cases (beq_iff_eq.mp z : Value.ref t = Value.type T))]
  show (if PySem.W.kitMeta T = true then PySem.W.subIn K (.ref t) (.type T) else none) = some r
  rw [if_pos hm]
  exact h
theorem exm_of {t C : Addr} (h0 : PySem.W.subIn K (.ref C) (.type "BaseException") = some true) (h1 : PySem.W.isClsIn K C = true) (h2 : PySem.W.typeIn K (.ref C) = some (.type "type")) (h3 : PySem.W.subIn K (.ref t) (.ref C) = some true) : PySem.W.exmOne K (.ref t) (.ref C) = some true := by
  have e1 : (PySem.W.subIn K (.ref C) (.type "BaseException") == some true) = true := by rw [h0] <;> rfl
  have e2 : ((PySem.W.clsIn K C).isSome && PySem.W.typeIn K (.ref C) == some (.type "type")) = true := by
    have h2' : (PySem.W.clsIn K C).isSome = true := h1
    rw [h2', h2] <;> rfl
  show (if (PySem.W.subIn K (.ref C) (.type "BaseException") == some true) = true then (if ((PySem.W.clsIn K C).isSome && PySem.W.typeIn K (.ref C) == some (.type "type")) = true then PySem.W.subIn K (.ref t) (.ref C) else none) else none) = some true
  rw [if_pos e1, if_pos e2]
  exact h3
theorem clsG_mk {h : Heap} {mg : Str → Option Value} {a1 a2 a3 a4 a5 a6 a7 : Addr} (X : K.In h) (G : h.Ns mainGlobals mg)
    (h1 : PySem.W.nsIn K mainGlobals "DoorError" = some (some (.ref a1))) (h2 : PySem.W.nsIn K mainGlobals "BadMemory" = some (some (.ref a2))) (h3 : PySem.W.nsIn K mainGlobals "BadOrder" = some (some (.ref a3)))
    (h4 : PySem.W.nsIn K mainGlobals "BadProgram" = some (some (.ref a4))) (h5 : PySem.W.nsIn K mainGlobals "BadRule" = some (some (.ref a5))) (h6 : PySem.W.nsIn K mainGlobals "TooMany" = some (some (.ref a6)))
    (h7 : PySem.W.nsIn K mainGlobals "BadText" = some (some (.ref a7))) (h8 : PySem.W.nsIn K mainGlobals "ValueError" = some none) : ClsG K mg a1 a2 a3 a4 a5 a6 a7 :=
  ⟨PySem.W.mg_of X G h1, PySem.W.mg_of X G h2, PySem.W.mg_of X G h3, PySem.W.mg_of X G h4, PySem.W.mg_of X G h5, PySem.W.mg_of X G h6, PySem.W.mg_of X G h7, PySem.W.mg_none_of X G h8⟩
/-- a class that instances are told of -/
structure ClsI (K : PySem.W.Frag) (C : Addr) : Prop where
  c : PySem.W.isClsIn K C = true
  t : PySem.W.typeIn K (.ref C) = some (.type "type")
theorem xfC_mk {C : Addr} (h1 : PySem.W.findIn K (.ref C) "__getattribute__" = some (some (.builtin "BaseException.__getattribute__"))) (h2 : PySem.W.findIn K (.ref C) "__getattr__" = some none) (h3 : PySem.W.subIn K (.ref C) (.type "BaseException") = some true) (h4 : PySem.W.hasDictIn K C = true) : XfC K C := ⟨h1, h2, h3, h4⟩
theorem isC_mk {C : Addr} (x : XfC K C) (h1 : PySem.W.findIn K (.ref C) "__class__" = some (some (.builtin "object.__class__"))) (h2 : PySem.W.specialIn K (.builtin "object.__class__") "__get__" = some (some (.builtin "getset_descriptor.__get__")))
    (h3 : PySem.W.takesIn K (.builtin "object.__class__") = some true) (h4 : PySem.W.mroIn K C (.type "object") = some true) : IsC K C := ⟨x, h1, h2, h3, h4⟩
theorem oexC_mk {C : Addr} {nm q : Str} {N : Addr} {bs bm : List Value} {sn : List Str} {sub : List Value} {ab : Bool} {col : Option Bool} {dd : Option Addr} {m0 m1 m2 m3 m5 : Option Value}
    (l : K.lookup C = some (PySem.excClassObj nm q C N bs bm true sn sub ab col dd m0 m1 m2 m3 m5 "ValueError.__new__")) (r : PySem.HandSPX.refsVE bm = true)
    (sa : PySem.W.findIn K (.ref C) "__setattr__" = some (some (.builtin "object.__setattr__"))) (ex : PySem.W.subIn K (.ref C) (.type "BaseException") = some true) (ty : PySem.W.typeIn K (.ref C) = some (.type "type")) (kp : PySem.W.keepIn K (.ref C) = true) : OexC K C :=
  ⟨⟨nm, q, N, bs, bm, sn, sub, ab, col, dd, m0, m1, m2, m3, m5, l, r⟩, sa, ex, ty, kp⟩
theorem baseX_mk {mg : Str → Option Value} {D : Addr} (g : mg "DoorError" = some (.ref D)) (h1 : PySem.W.specialIn K (.ref D) "__getattribute__" = some (some (.builtin "type.__getattribute__"))) (h2 : PySem.W.readsIn K D (.type "type") = true)
    (h3 : PySem.W.findCls K (.ref D) (.type "type") "__init__" = some (.val (.builtin "ValueError.__init__"))) : BaseX K mg D := ⟨g, h1, h2, h3⟩
theorem ownX_mk {mg : Str → Option Value} {x : Str} {C D fI : Addr} {f1 f2 : Str} (g : mg x = some (.ref C)) (T : OexC K C) (Xf : XfC K C) (i : PySem.W.findIn K (.ref C) "__init__" = some (some (.ref fI))) (t : PySem.W.typeIn K (.ref fI) = some (.type "function"))
    (n1 : PySem.W.findIn K (.ref C) f1 = some none) (n2 : PySem.W.findIn K (.ref C) f2 = some none) (e : PySem.W.exmOne K (.ref C) (.ref D) = some true) : OwnX K mg x C D fI f1 f2 := ⟨g, T, Xf, i, t, n1, n2, e⟩
theorem txtE_mk {a1 a2 a3 a4 a5 a6 : Addr} (ic : IsC K a6) (c1 : ClsI K a1) (c2 : ClsI K a2) (c3 : ClsI K a3) (c4 : ClsI K a4) (c5 : ClsI K a5)
    (s1 : PySem.W.subIn K (.ref a6) (.ref a1) = some false) (s2 : PySem.W.subIn K (.ref a6) (.ref a2) = some false) (s3 : PySem.W.subIn K (.ref a6) (.ref a3) = some false) (s4 : PySem.W.subIn K (.ref a6) (.ref a4) = some false) (s5 : PySem.W.subIn K (.ref a6) (.ref a5) = some false)
    (n1 : (a6 == a1) = false) (n2 : (a6 == a2) = false) (n3 : (a6 == a3) = false) (n4 : (a6 == a4) = false) (n5 : (a6 == a5) = false) (s7 : PySem.W.subIn K (.ref a6) (.type "ValueError") = some true) : TxtE K a1 a2 a3 a4 a5 a6 :=
  ⟨ic, kit_isC c1.c c1.t s1 n1, kit_isC c2.c c2.t s2 n2, kit_isC c3.c c3.t s3 n3, kit_isC c4.c c4.t s4 n4, kit_isC c5.c c5.t s5 n5, kit_self, kit_isT s7 (by decide +kernel)⟩
end
end Db

namespace Db
open PySem L2 Evl
def top (i : Nat) : Stmt := PySem.Challenge.pw_doorbeat_k12_texts_that_tell_no_programs.main.body.getD i (.Pass ⟨0, 0, 0, 0⟩)
abbrev s_word_of : Stmt := top 13
theorem sc_word_of : FnScope ["deed"] ["deed"] (defScope s_word_of) := ⟨rfl, rfl, rfl, by decide +kernel, rfl, by decide +kernel, by decide +kernel⟩
abbrev s_deeds_by_word : Stmt := top 14
theorem sc_deeds_by_word : FnScope ["deeds", "cell", "deed", "worth"] [] (defScope s_deeds_by_word) := ⟨rfl, rfl, rfl, by decide +kernel, rfl, by decide +kernel, by decide +kernel⟩
abbrev s_program_of : Stmt := top 15
theorem sc_program_of : FnScope ["row", "number", "deeds", "program", "place", "word"] ["row", "number"] (defScope s_program_of) := ⟨rfl, rfl, rfl, by decide +kernel, rfl, by decide +kernel, by decide +kernel⟩
abbrev s_read : Stmt := top 16
theorem sc_read : FnScope ["text", "rows", "left", "right"] ["text"] (defScope s_read) := ⟨rfl, rfl, rfl, by decide +kernel, rfl, by decide +kernel, by decide +kernel⟩
abbrev s_law_mix : Stmt := top 18
theorem sc_law_mix : FnScope ["_law_script", "_law_seed", "_law_mixed", "_law_cell"] ["_law_script", "_law_seed"] (defScope s_law_mix) := ⟨rfl, rfl, rfl, by decide +kernel, rfl, by decide +kernel, by decide +kernel⟩
abbrev s_law_next : Stmt := top 19
theorem sc_law_next : FnScope ["_law_h", "_law_many", "_law_at", "_law_cell"] ["_law_h", "_law_many"] (defScope s_law_next) := ⟨rfl, rfl, rfl, by decide +kernel, rfl, by decide +kernel, by decide +kernel⟩
abbrev s_law_alike : Stmt := top 20
theorem sc_law_alike : FnScope ["_law_found", "_law_due_here", "_law_k"] ["_law_found", "_law_due_here"] (defScope s_law_alike) := ⟨rfl, rfl, rfl, by decide +kernel, rfl, by decide +kernel, by decide +kernel⟩
abbrev s_law_deed : Stmt := top 21
theorem sc_law_deed : FnScope ["_law_h", "_law_cells", "_law_cell"] ["_law_h", "_law_cells"] (defScope s_law_deed) := ⟨rfl, rfl, rfl, by decide +kernel, rfl, by decide +kernel, by decide +kernel⟩
abbrev s_law_program : Stmt := top 22
theorem sc_law_program : FnScope ["_law_h", "_law_cells", "_law_most", "_law_k"] ["_law_h", "_law_cells", "_law_most"] (defScope s_law_program) := ⟨rfl, rfl, rfl, by decide +kernel, rfl, by decide +kernel, by decide +kernel⟩
abbrev s_law_text : Stmt := top 23
theorem sc_law_text : FnScope ["_law_left", "_law_right", "_law_rows", "_law_program_here", "_law_words", "_law_deed_here", "_law_one"] ["_law_left", "_law_right"] (defScope s_law_text) := ⟨rfl, rfl, rfl, by decide +kernel, rfl, by decide +kernel, by decide +kernel⟩
abbrev s_law_word : Stmt := top 24
theorem sc_law_word : FnScope ["_law_word_here", "_law_every", "_law_cell", "_law_worth"] ["_law_word_here"] (defScope s_law_word) := ⟨rfl, rfl, rfl, by decide +kernel, rfl, by decide +kernel, by decide +kernel⟩
abbrev s_law_due : Stmt := top 25
theorem sc_law_due : FnScope ["_law_text_here", "_law_rows", "_law_found", "_law_k", "_law_words", "_law_deeds", "_law_bad", "_law_place", "_law_word_here"] ["_law_text_here"] (defScope s_law_due) := ⟨rfl, rfl, rfl, by decide +kernel, rfl, by decide +kernel, by decide +kernel⟩
abbrev s_law_told : Stmt := top 26
theorem sc_law_told : FnScope ["_law_text_here", "e", "_law_other"] ["_law_text_here"] (defScope s_law_told) := ⟨rfl, rfl, rfl, by decide +kernel, rfl, by decide +kernel, by decide +kernel⟩
abbrev s_law_changed : Stmt := top 27
theorem sc_law_changed : FnScope ["_law_h", "_law_text_here", "_law_turn", "_law_at", "_law_sign", "_law_rows", "_law_k", "_law_some", "_law_words", "_law_j", "_law_odd"] ["_law_h", "_law_text_here"] (defScope s_law_changed) := ⟨rfl, rfl, rfl, by decide +kernel, rfl, by decide +kernel, by decide +kernel⟩
abbrev s_law : Stmt := top 28
theorem sc_law : FnScope ["_law_script", "_law_h", "_law_odd", "_law_turn", "_law_text_here", "_law_k", "_law_some", "_law_again"] ["_law_script"] (defScope s_law) := ⟨rfl, rfl, rfl, by decide +kernel, rfl, by decide +kernel, by decide +kernel⟩
local macro_rules | `(tactic| walk_at "sq") => `(tactic| first | assumption | exact SqL.of (by assumption) | exact SqT.of (by assumption))
local macro_rules | `(tactic| walk_at "at") => `(tactic| first | assumption | exact rfl | exact atI_nat (by assumption))
local macro_rules | `(tactic| walk_at "ea") => `(tactic| first
  | (with_reducible exact ea_nil)
  | ((with_reducible apply ea_cons); (· walk_at "ev"); (· walk_at "ea"))
  | assumption)
local macro_rules | `(tactic| walk_at "rc") => `(tactic| first
  | assumption
  | ((apply rc_lenL); (· walk_at "sq"))
  | ((apply rc_lenT); (· walk_at "sq"))
  | ((with_reducible apply rc_isiB); (· first | exact tys_int | exact tys_str | exact tys_bl | exact tys_non | exact tys_tup (by walk_at "sq") | exact tys_lst (by walk_at "sq") | assumption); (· decide +kernel))
  | (exact rc_max))
local macro_rules | `(tactic| walk_at "rv") => `(tactic| first
  | assumption
  | (with_reducible exact rv_I0)
  | ((with_reducible apply rv_eq); (· exact rfl))
  | ((with_reducible apply rv_ne); (· exact rfl))
  | ((with_reducible apply rv_ixT); (· walk_at "sq"); (· walk_at "at"))
  | ((with_reducible apply rv_ixL); (· walk_at "sq"); (· walk_at "at"))
  | ((with_reducible apply rv_I); (· first | assumption | decide | omega | exact Or.inr ⟨by decide, by decide⟩ | exact Or.inl ⟨by decide, by decide⟩ | exact ⟨by decide, by decide, by decide⟩ | exact ⟨by omega, by omega⟩ | exact Or.inl ⟨by omega, by omega⟩ | exact Or.inr ⟨by omega, by omega⟩)))
local macro_rules | `(tactic| walk_at "ev") => `(tactic| first
  | (with_reducible exact ev_c)
  | ((with_reducible apply ev_var); (· exact rfl))
  | assumption
  | ((with_reducible apply ev_op); (· walk_at "ev"); (· walk_at "ev"); (· walk_at "rv"))
  | ((with_reducible apply ev_cb); (· walk_at "ea"); (· walk_at "rc"))
  | ((with_reducible apply ev_call); (· walk_at "ea"); (· assumption))
  | exact ev_c)

section
variable {P : Program} {w : World} {K : PySem.W.Frag} {mg : Str → Option Value} {base : Heap}
def sp_word_of (K : PySem.W.Frag) : Sp := spF 1 fun vs H v => ∃ a d, vs = [a] ∧ DV K H a d ∧ d.ok 4 ∧ v = .str (tS (wd d))
theorem sp_word_of_v {H : Hp} {a : V} {d : Deed} (h1 : DV K H a d) (h2 : d.ok 4) : SpV (sp_word_of K) [a] H (.str (tS (wd d))) := spF_v rfl fun _ f => ⟨a, d, rfl, h1.mono f, h2, rfl⟩
theorem d_word_of (h : Has K mg "word_of" s_word_of) : Dn P w K mg base CX0 "word_of" ["deed"] 1 (sp_word_of K) := by
  refine dn_of h (fun f fd F => F.binds fun _ _ _ _ _ _ us hl => match us, hl with | [_], _ => rfl) fun f fd F _ => F.ok sc_word_of (fun vs H Q E h => h.1) (fun cdv A outer s H vs Q E hr h => ?_)
  obtain ⟨_, v, ⟨_, d, rfl, ⟨a, rfl, h1⟩, ho, rfl⟩, k⟩ := h
  refine ⟨_, (pss_cons (ps_if (pt_cmpR op_eq (pe_ix (ix_tupK K) (pv 0) pe_int (fun _ _ => rfl)) pe_str (nomark _)) (pss_one (ps_ret (pe_joined (.cons pe_str (.cons (pe_fmt (pe_ix (ix_tupK K) (pv 0) pe_int (fun _ _ => rfl))) .nil))))) pss_nil)
    (pss_cons (ps_if (pt_cmpR op_eq (pe_ix (ix_tupK K) (pv 0) pe_int (fun _ _ => rfl)) pe_str (nomark _)) (pss_one (ps_ret (pe_joined (.cons pe_str (.cons (pe_fmt (pe_ix (ix_tupK K) (pv 0) pe_int (fun _ _ => rfl))) (.cons (pe_fmt (pe_ix (ix_tupK K) (pv 0) pe_int (fun _ _ => rfl))) .nil)))))) pss_nil)
    (pss_one (ps_ret pe_str)))), ?_⟩
  refine q_when (b := decide (V.str d.tag = V.str "read")) (et_test (ev_op (ev_op (by walk_at "ev") (by walk_at "ev") (DV.tag h1)) (by walk_at "ev") (rv_eq rfl))) (fun hb H1 f1 => ?_) (fun hb H1 f1 => ?_)
  · cases d with
    | wr c x => exact absurd hb (by show ¬ decide (V.str "write" = V.str "read") = true; decide +kernel)
    | rs => exact absurd hb (by show ¬ decide (V.str "rest" = V.str "read") = true; decide +kernel)
    | rd c =>
      have hc : c < 4 := ho
      refine ⟨"r", rfl, by decide +kernel, _, rfl, a, _, 1, .int c, rfl, rfl, ex_t f1 h1, rfl, .inr ⟨(c : Int), rfl, log4 hc, ?_⟩⟩
      have e : (toString (c : Int) : Str) = tS [48 + c] := strI hc
      rw [e]
      have e2 : Str.empty ++ ("r" : Str) ++ tS [48 + c] = tS (wd (.rd c)) := by
        rw [show Str.empty ++ ("r" : Str) = tS [114] by decide +kernel, tS_app]; rfl
      refine ⟨_, rfl, by rw [e2, tS_len]; exact Nat.le_trans (wd_len _) (by decide), ?_⟩
      show Q (.str (Str.empty ++ ("r" : Str) ++ tS [48 + c])) H1
      rw [e2]
      exact k _ f1
  refine q_when (b := decide (V.str d.tag = V.str "write")) (et_test (ev_op (ev_op (by walk_at "ev") (by walk_at "ev") (DV.tag (ex_t f1 h1))) (by walk_at "ev") (rv_eq rfl))) (fun hb2 H2 f2 => ?_) (fun hb2 H2 f2 => ?_)
  · cases d with
    | rd c => exact absurd hb2 (by show ¬ decide (V.str "read" = V.str "write") = true; decide +kernel)
    | rs => exact absurd hb2 (by show ¬ decide (V.str "rest" = V.str "write") = true; decide +kernel)
    | wr c x =>
      obtain ⟨hc, hx⟩ : c < 4 ∧ x < 3 := ho
      have hx4 : x < 4 := by omega
      have f12 := f1.trans f2
      have e : (toString (c : Int) : Str) = tS [48 + c] := strI hc
      have e' : (toString (x : Int) : Str) = tS [48 + x] := strI hx4
      have e1 : Str.empty ++ ("w" : Str) ++ tS [48 + c] = tS [119, 48 + c] := by
        rw [show Str.empty ++ ("w" : Str) = tS [119] by decide +kernel, tS_app]; rfl
      have e2 : tS [119, 48 + c] ++ tS [48 + x] = tS (wd (.wr c x)) := by rw [tS_app]; rfl
      refine ⟨"w", rfl, by decide +kernel, _, rfl, a, _, 1, .int c, rfl, rfl, ex_t f12 h1, rfl, .inr ⟨(c : Int), rfl, log4 hc, ?_⟩⟩
      rw [e]
      refine ⟨_, rfl, by rw [e1, tS_len]; show 2 ≤ sizeLine; decide, ?_⟩
      refine ⟨_, rfl, a, _, 2, .int x, rfl, rfl, ex_t f12 h1, rfl, .inr ⟨(x : Int), rfl, log4 hx4, ?_⟩⟩
      rw [e']
      refine ⟨_, rfl, by rw [e1, e2, tS_len]; exact Nat.le_trans (wd_len _) (by decide), ?_⟩
      show Q (.str (Str.empty ++ ("w" : Str) ++ tS [48 + c] ++ tS [48 + x])) H2
      rw [e1, e2]
      exact k _ f12
  · cases d with
    | rd c => exact absurd hb (by show ¬ decide (V.str "read" = V.str "read") = false; decide +kernel)
    | wr c x => exact absurd hb2 (by show ¬ decide (V.str "write" = V.str "write") = false; decide +kernel)
    | rs =>
      have e : ("-" : Str) = tS (wd .rs) := by decide +kernel
      show Q (.str "-") H2
      rw [e]
      exact k _ (f1.trans f2)

def sp_deeds_by_word (K : PySem.W.Frag) : Sp := fun vs H Q _ => vs = [] ∧ ∀ (D : Addr) (kvs : List (Key × V)) (H' : Hp), H D = none → Ex H H' → H' D = some (.dK kvs) → DW K H' kvs (fun d => d.ok 4) → Q (.ref D) H'
theorem d_deeds_by_word {aREST aWORTHS : Addr} {t4 t40 : Tok} (T : Nb mg) (G : TxP K mg aREST aWORTHS t4 t40) (D_word_of : Dn P w K mg base CX0 "word_of" ["deed"] 1 (sp_word_of K)) (h : Has K mg "deeds_by_word" s_deeds_by_word) : Dn P w K mg base CX0 "deeds_by_word" [] 2 (sp_deeds_by_word K) := by
  refine dn_of h (fun f fd F => F.binds fun _ _ _ _ _ _ us hl => match us, hl with | [], _ => rfl) fun f fd F _ => F.ok sc_deeds_by_word (fun vs H Q E h => ?_) (fun cdv A outer s H vs Q E hr h => ?_)
  · obtain ⟨rfl, _⟩ := h
    rfl
  obtain ⟨rfl, k⟩ := h
  refine ⟨_, (pss_cons (ps_set (i := 0) sc_deeds_by_word.nd rfl (Or.inl rfl) (pe_lst (pa_cons (pe_glob (v := .ref aREST) rfl G.g_REST rfl) pa_nil)))
    (pss_cons (ps_for PassesOwn.never rfl (pi_range1 rfl T.n_range (pa_cons (pe_glob (v := .int 4) rfl G.g_MOST_CELLS ⟨_, rfl⟩) pa_nil)) (pg_name (i := 1) sc_deeds_by_word.nd rfl (Or.inr rfl))
      (pss_cons (ps_expr (pe_bm PySem.F.plainAttrs_list PySem.F.slot_list_append PySem.F.type_list_append mt_append (pv 0) (pa_cons (pe_tup (pa_cons pe_str (pa_cons (pv 1) pa_nil))) pa_nil)))
      (pss_one (ps_expr (pe_bm PySem.F.plainAttrs_list PySem.F.slot_list_extend PySem.F.type_list_extend mt_extend (pv 0) (pa_cons (pe_lc (own := [("worth", 3)]) rfl sc_deeds_by_word.nd (pi_tup (pe_glob (v := .ref aWORTHS) rfl G.g_WORTHS rfl)) (blkOk_by (own := [("worth", 3)]) (N := ["deeds", "cell", "deed", "worth"]) (sc := defScope s_deeds_by_word) (by decide +kernel)) (fun _ _ _ _ _ => (pg_name (i := 3) sc_deeds_by_word.nd rfl (Or.inl rfl))) (fun _ _ _ _ _ => pts_nil) (fun _ _ _ _ _ => (pe_tup (pa_cons pe_str (pa_cons (pv 1) (pa_cons (pv 3) pa_nil)))))) pa_nil))))))
    (pss_one (ps_ret (pe_dc (own := [("deed", 2)]) rfl sc_deeds_by_word.nd (pi_list (pv 0)) (blkOk_by (own := [("deed", 2)]) (N := ["deeds", "cell", "deed", "worth"]) (sc := defScope s_deeds_by_word) (by decide +kernel)) (fun _ _ _ _ _ => (pg_name (i := 2) sc_deeds_by_word.nd rfl (Or.inl rfl))) (fun _ _ _ _ _ => pts_nil) (fun _ _ _ _ _ => (pe_dn D_word_of hr (by omega) pass0 (pa_cons (pv 2) pa_nil))) (fun _ _ _ _ _ => (pv 2))))))), ?_⟩
  refine q_asgL (xs := [.ref aREST]) (el_lst (ea_cons ev_c ea_nil) (by simp)) fun dl H1 ndl f1 hdl => ?_
  refine q_forR1 (n := 4) (ea_cons ev_c ea_nil) (by omega) (fun i σ' H' => ∃ (v1 v2 v3 : Option V) (us : List V), σ' = [some (.ref dl), v1, v2, v3] ∧ H' dl = some (.lst us) ∧ PV K H' us (allD i) ∧ Ex H H')
    (fun H2 f2 => ⟨none, none, none, _, rfl, f2 _ _ hdl, .cons ⟨aREST, rfl, G.REST _⟩ .nil, f1.trans f2⟩) ?_ ?_
  · rintro i σ' H2 hi ⟨v1, v2, v3, us, rfl, gd, gP, ge⟩
    have hi4 : i < 4 := by omega
    have lu := gP.length
    rw [allD_len] at lu
    refine ⟨_, rfl, Or.inl ⟨rfl, _, SqL.of gd⟩, _, rfl, by show 2 ≤ sizeLine; decide, fun t nt => ⟨dl, us, .ref t, rfl, rfl, Ex.new nt _ _ gd, sz_lt (by omega), ?_⟩⟩
    have x1 := Ex.new (o := .tup [.str "read", .int (i : Nat)]) nt
    have ht := upd_same (H := H2) (a := t) (o := .tup [.str "read", .int (i : Nat)])
    have gd3 := x1 _ _ gd
    have gP3 := gP.mono x1
    have ge3 := ge.trans x1
    generalize upd H2 t (.tup [.str "read", .int (i : Nat)]) = H3 at ht gd3 gP3 ge3 ⊢
    clear x1
    have b4 : Bt [dl] H3 (upd H3 dl (.lst (us ++ [.ref t]))) := (Bt.refl H3).set (by simp)
    have l4 : ∀ z ∈ [dl], ∃ us, H3 z = some (.lst us) := by simp [gd3]
    have gP4 : PV K _ (us ++ [.ref t]) (allD i ++ [.rd i]) := (pv_buts b4 l4 gP3).append (.cons ⟨t, rfl, t_but b4 l4 (SqT.of ht)⟩ .nil)
    have gd4 := upd_same (H := H3) (a := dl) (o := .lst (us ++ [.ref t]))
    have ge4 : Ex H (upd H3 dl (.lst (us ++ [.ref t]))) := ge3.mut ndl
    generalize upd H3 dl (.lst (us ++ [.ref t])) = H4 at gd4 gP4 ge4 ⊢
    dsimp only
    refine ⟨_, rfl, Or.inl ⟨rfl, _, SqL.of gd4⟩, aWORTHS, rfl, ⟨_, G.WORTHS _⟩, fun L hL => ?_⟩
    refine it_tup (xs := [.int 0, .int 1, .int 2]) (fun j X => ∃ bs, X L = some (.lst bs) ∧ PV K X bs (([.wr i 0, .wr i 1, .wr i 2] : List Deed).take j) ∧ Ex H4 X ∧ bs.length = j) ⟨[], upd_same, .nil, Ex.new hL, rfl⟩ (fun j X _ _ => G.WORTHS X) ?_ ?_
    · rintro j x X hx ⟨bs, hb, hB, eX, hn⟩
      have hj : j < 3 := (List.getElem?_eq_some_iff.mp hx).1
      have ex : x = wV j := by
        match j, hj with
        | 0, _ => cases hx; rfl
        | 1, _ => cases hx; rfl
        | 2, _ => cases hx; rfl
      subst ex
      refine gn ?_
      dsimp only
      refine ⟨rfl, ?_⟩
      refine ⟨_, rfl, _, rfl, by show 3 ≤ sizeLine; decide, fun u nu => ?_⟩
      have x2 := Ex.new (o := .tup [.str "write", .int (i : Nat), wV j]) nu
      have hu := upd_same (H := X) (a := u) (o := .tup [.str "write", .int (i : Nat), wV j])
      have hb2 := x2 _ _ hb
      have hB2 := hB.mono x2
      have eX2 := eX.trans x2
      generalize upd X u (.tup [.str "write", .int (i : Nat), wV j]) = Y at hu hb2 hB2 eX2 ⊢
      refine ⟨bs, hb2, by show bs.length < 2 ^ 24; omega, bs ++ [.ref u], upd_same, ?_, eX2.mut hL, by rw [List.length_append, hn]; rfl⟩
      have b5 : Bt [L] Y (upd Y L (.lst (bs ++ [.ref u]))) := (Bt.refl Y).set (by simp)
      have l5 : ∀ z ∈ [L], ∃ us, Y z = some (.lst us) := by simp [hb2]
      have et : ([.wr i 0, .wr i 1, .wr i 2] : List Deed).take (j + 1) = ([.wr i 0, .wr i 1, .wr i 2] : List Deed).take j ++ [.wr i j] := by
        match j, hj with
        | 0, _ => rfl
        | 1, _ => rfl
        | 2, _ => rfl
      rw [et]
      exact (pv_buts b5 l5 hB2).append (.cons ⟨u, rfl, t_but b5 l5 (SqT.of hu)⟩ .nil)
    · rintro X ⟨bs, hb, hB, eX, hn⟩
      have hn : bs.length = 3 := hn
      have gdX := eX _ _ gd4
      refine ⟨dl, L, _, bs, rfl, rfl, gdX, hb, sz_of (by simp; omega), ?_⟩
      have b5 : Bt [dl] X (upd X dl (.lst (us ++ [.ref t] ++ bs))) := (Bt.refl X).set (by simp)
      have l5 : ∀ z ∈ [dl], ∃ us, X z = some (.lst us) := by simp [gdX]
      refine ⟨_, _, _, us ++ [.ref t] ++ bs, rfl, upd_same, ?_, (ge4.trans eX).mut ndl⟩
      have z := (pv_buts b5 l5 (gP4.mono eX)).append (pv_buts b5 l5 hB)
      rw [allD_succ, show allD i ++ cellD i = allD i ++ [Deed.rd i] ++ ([.wr i 0, .wr i 1, .wr i 2] : List Deed).take 3 by simp [cellD]]
      exact z
  · rintro σ' H2 ⟨v1, v2, v3, us, rfl, gd, gP, ge⟩
    have gP : PV K H2 us (allD 4) := gP
    have lu := gP.length
    rw [allD_len] at lu
    refine ⟨_, rfl, dl, rfl, ⟨us, SqL.of gd⟩, fun D hD => ?_⟩
    refine dc_listX (xs := us) (fun i X => ∃ kvs, X D = some (.dK kvs) ∧ DW K X kvs (fun d => d ∈ (allD 4).take i) ∧ Ex H2 X ∧ kvs.length ≤ i) ⟨[], upd_same, ⟨fun d hd => by simp at hd, fun k v hk => by cases hk⟩, Ex.new hD, Nat.le_refl _⟩ (fun i X _ ⟨_, _, _, e, _⟩ => SqL.of (e _ _ gd)) ?_ ?_
    · rintro i x X hx ⟨kvs, hk, hW, eX, hn⟩
      have hi : i < us.length := (List.getElem?_eq_some_iff.mp hx).1
      obtain ⟨d, hd, dv⟩ := (gP.mono eX).get hx
      refine gn ?_
      refine ⟨rfl, ?_⟩
      have ok : d.ok 4 := (allD_mem d).mp (List.mem_of_getElem? hd)
      refine ⟨_, rfl, ?_⟩
      refine sp_word_of_v dv ok X (Ex.refl X) _ (fun Y eY => ⟨_, rfl, kvs, .inr (tS (wd d)), rfl, eY _ _ hk, sz_lt (by omega), putK kvs (.inr (tS (wd d))) x, upd_same, ?_, (eX.trans eY).mut hD, ?_⟩) E0
      · refine (DW.put (eY _ _ hk) (hW.mono eY) (dv.mono eY)).iff fun e => ?_
        rw [List.take_add_one, hd, List.mem_append]
        simp
      · have := putK_le kvs (.inr (tS (wd d))) x
        omega
    · rintro X ⟨kvs, hk, hW, eX, hn⟩
      refine k D kvs X (fresh_back ge hD) (ge.trans eX) hk (hW.iff fun d => ?_)
      rw [List.take_of_length_le (by rw [allD_len]; omega)]
      exact allD_mem d

def s_BadText_init : Stmt := clsAt (top 7) 0
theorem sc_BadText_init : FnScope ["self", "row", "place"] ["self", "row", "place"] (defScope s_BadText_init) := ⟨rfl, rfl, rfl, by decide +kernel, rfl, by decide +kernel, by decide +kernel⟩
theorem d_BadText_init {D : Addr} (B : BaseX K mg D) {f : Addr} {fd : FuncData} (F : Fun K "__init__" "BadText.__init__" s_BadText_init f fd) : FnOk P w K mg base CX0 1 f fd ["self", "row", "place"] (sp_init K "row" "place") := by
  refine F.ok sc_BadText_init (fun vs H Q E h => ?_) (fun cdv A outer s H vs Q E hr h => ?_)
  · obtain ⟨_, _, _, _, rfl, _⟩ := h
    rfl
  obtain ⟨a, C, r, p, rfl, hr1, hp1, T, n1, n2, ha, k⟩ := h
  refine ⟨_, (pss_cons (ps_expr (pe_deinit B (by rfl) (pa_cons (pv 0) (pa_cons (pe_joined (.cons pe_str (.cons (pe_fmt (pv 1)) (.cons pe_str (.cons (pe_fmt (pv 2)) .nil))))) pa_nil))))
    (pss_cons (ps_ost (pv 0) (pv 1)) (pss_one (ps_ost (pv 0) (pv 2))))), ?_⟩
  have lr := num_len hr1
  have lp := num_len hp1
  have sz : ∀ n : Nat, n ≤ 10000 → n ≤ sizeLine := fun n hn => Nat.le_trans hn (by decide)
  refine ⟨_, rfl, "row ", rfl, by decide +kernel, _, rfl, .inr ⟨(r : Int), rfl, log1000 hr1, _, rfl, ?_, ": no word of a program at place ", rfl, ?_, _, rfl, .inr ⟨(p : Int), rfl, log1000 hp1, _, rfl, ?_, a, C, [_], rfl, by simp, T, ha, ?_⟩⟩⟩
  · have e1 : (Str.empty ++ ("row " : Str)).length = 4 := by decide +kernel
    rw [app_len, e1]
    exact sz _ (by omega)
  · have e1 : (Str.empty ++ ("row " : Str)).length = 4 := by decide +kernel
    have e2 : (": no word of a program at place " : Str).length = 32 := by decide +kernel
    rw [app_len, app_len, e1, e2]
    exact sz _ (by omega)
  · have e1 : (Str.empty ++ ("row " : Str)).length = 4 := by decide +kernel
    have e2 : (": no word of a program at place " : Str).length = 32 := by decide +kernel
    rw [app_len, app_len, app_len, e1, e2]
    exact sz _ (by omega)
  refine ⟨_, rfl, _, rfl, a, C, rfl, T, n1, .inl ⟨ha, fun dx ndx ne => ?_⟩⟩
  refine ⟨_, rfl, _, rfl, a, C, rfl, T, n2, .inr ⟨dx, [("row", .int (r : Int))], upd_same, by rw [upd_ne ne]; exact upd_same, by show 1 ≤ 900; decide, ?_⟩⟩
  refine k dx _ ndx ne ?_
  funext b
  unfold upd
  by_cases h1 : b = dx
  · subst h1
    simp [ne]
  · by_cases h2 : b = a
    · subst h2
      simp [h1]
    · simp [h1, h2]

/-- one row of words, read or refused -/
def sp_program_ofX (K : PySem.W.Frag) (C : Addr) : Sp := fun vs H Q E => ∃ (l : List Nat) (n : Nat), vs = [.str (tS l), .int n] ∧ n < 1000 ∧ l.length ≤ 16000000 ∧
  (∀ ds, progD l = .ok ds → ∀ (p : Addr) (us : List V) (H' : Hp), H p = none → Ex H H' → H' p = some (.lst us) → PV K H' us ds → Q (.ref p) H') ∧
  (∀ j, progD l = .error j → ∀ (d : Addr) (H' : Hp), H d = none → Ex H H' → H' d = some (.xd (xfs "row" "place" n j)) → E (.ref C) (some d) H')
theorem d_program_ofX {aREST aWORTHS : Addr} {t4 t40 : Tok} {C D fI : Addr} {fdI : FuncData} (T : Nb mg) (G : TxP K mg aREST aWORTHS t4 t40) (X_BadText : OwnX K mg "BadText" C D fI "row" "place") (I_BadText : FnOk P w K mg base CX0 1 fI fdI ["self", "row", "place"] (sp_init K "row" "place")) (B_BadText : Binds K fdI ["self", "row", "place"] [])
    (D_deeds_by_word : Dn P w K mg base CX0 "deeds_by_word" [] 2 (sp_deeds_by_word K)) (h : Has K mg "program_of" s_program_of) : Dn P w K mg base (L2.CX P w) "program_of" ["row", "number"] 3 (sp_program_ofX K C) := by
  refine dn_of h (fun f fd F => F.binds fun _ _ _ _ _ _ us hl => match us, hl with | [_, _], _ => rfl) fun f fd F _ => F.okX sc_program_of (fun vs H Q E h => ?_) (fun cdv A outer s H vs Q E hr h => ?_)
  · obtain ⟨_, _, rfl, _⟩ := h
    rfl
  obtain ⟨l, n, rfl, hn, hl, k, kE⟩ := h
  refine ⟨_, (pss_cons (ps_if (pt_cmpR op_eq (pv 0) pe_str (nomark _)) (pss_one (ps_ret (pe_lst pa_nil))) pss_nil)
    (pss_cons (ps_set (i := 2) sc_program_of.nd rfl (Or.inl rfl) (pe_dn0 D_deeds_by_word hr (by omega) pass0))
    (pss_cons (ps_set (i := 3) sc_program_of.nd rfl (Or.inl rfl) (pe_lst pa_nil))
    (pss_cons (ps_for (passes_of rfl) rfl (pi_enum (by rfl) T.n_enumerate (pa_cons (pe_split (pv 0) pe_str) pa_nil)) (pg_tup rfl (pgs_cons (pg_name (i := 4) sc_program_of.nd rfl (Or.inl rfl)) (pgs_cons (pg_name (i := 5) sc_program_of.nd rfl (Or.inl rfl)) pgs_nil)))
      (pss_cons (ps_if (PW.pt (pw_or (pt_cmpR op_eq (pv 4) (pe_glob (v := .int 40) rfl G.g_MOST_DEEDS ⟨_, rfl⟩) (nomark _)) (pw_or1 (pt_cmp (pc_dnotin (hu_of hr) (pv 5) (pv 2)))))) (pss_one (ps_raise rfl (takes_of rfl rfl rfl rfl) (pmk_oex X_BadText.T X_BadText.iC X_BadText.tI I_BadText (hr.mono (by omega)) B_BadText .nil pass0 (by rfl) X_BadText.gC (pa_cons (pv 1) (pa_cons (pv 4) pa_nil))))) pss_nil)
      (pss_one (ps_expr (pe_bm PySem.F.plainAttrs_list PySem.F.slot_list_append PySem.F.type_list_append mt_append (pv 3) (pa_cons (pe_dget (hu_of hr) (pv 2) (pv 5) (fun _ _ => rfl)) pa_nil))))))
    (pss_one (ps_ret (pv 3))))))), ?_⟩
  have e0 : ("" : Str) = tS [] := by decide +kernel
  refine q_when (b := decide (l = [])) (et_is (et_test (ev_op (x := .str (tS l)) (y := .str "") (ev_var rfl) ev_c (rv_eq rfl))) (by rw [e0, tS_is])) (fun hb H1 f1 => ?_) (fun hb H1 f1 => ?_)
  · have e : l = [] := of_decide_eq_true hb
    subst e
    exact s_retL (xs := []) (el_lst ea_nil (by decide)) fun p H2 np f2 hp => k [] rfl p [] H2 (fresh_back f1 np) (f1.trans f2) hp .nil
  have hne : l ≠ [] := of_decide_eq_false hb
  have hprog : progD l = scan 0 (wordsOf 32 l) := if_neg hne
  rw [hprog] at k kE
  refine ⟨rfl, fun D kvs H2 nD f2 hD hW => ?_⟩
  refine gn ?_
  dsimp only
  refine q_asgL (xs := []) (el_lst ea_nil (by decide)) fun pl H3 npl f3 hpl => ?_
  have f13 := (f1.trans f2).trans f3
  have np0 : H pl = none := fresh_back (f1.trans f2) npl
  refine ⟨_, rfl, ⟨_, rfl⟩, _, _, rfl, rfl, by decide +kernel, by rw [tS_len]; exact Nat.le_trans (by omega : _ ≤ 16777216) (by decide), fun sl nsl => ?_⟩
  have es : Txt.split (tS l) " " = (wordsOf 32 l).map tS := by
    rw [show (" " : Str) = ⟨#[32]⟩ by decide +kernel]
    exact split_words 32 l
  rw [es]
  generalize wordsOf 32 l = ws at k kE ⊢
  have x1 := Ex.new (o := .lst ((ws.map tS).map V.str)) nsl
  have hsl := upd_same (H := H3) (a := sl) (o := .lst ((ws.map tS).map V.str))
  have hpl4 := x1 _ _ hpl
  have hD4 := x1 _ _ (f3 _ _ hD)
  have hW4 := (hW.mono f3).mono x1
  have f14 := f13.trans x1
  have nps : pl ≠ sl := ne_of_none hpl nsl
  have npD : pl ≠ D := (ne_of_none hD npl).symm
  generalize upd H3 sl (.lst ((ws.map tS).map V.str)) = H4 at hsl hpl4 hD4 hW4 f14 ⊢
  clear x1
  refine ⟨sl, _, rfl, SqL.of hsl, for_it walk_enum (fun i σ' H' => ∃ (v4 v5 : Option V) (us : List V) (ds : List Deed), σ' = [some (.str (tS l)), some (.int (n : Int)), some (.ref D), some (.ref pl), v4, v5] ∧ H' pl = some (.lst us) ∧ PV K H' us ds ∧ ds.length = i ∧ i ≤ 40 ∧ scan 0 ws = preE ds (scan i (ws.drop i)) ∧ H' D = some (.dK kvs) ∧ DW K H' kvs (fun d => d.ok 4) ∧ H' sl = some (.lst ((ws.map tS).map V.str)) ∧ Ex H H')
    ⟨none, none, [], [], rfl, hpl4, .nil, rfl, Nat.zero_le _, (preE_nil _).symm, hD4, hW4, hsl, f14⟩ (fun i σ' H' _ ⟨_, _, _, _, _, _, _, _, _, _, _, _, z, _⟩ => SqL.of z) ?_ ?_⟩
  · rintro i x σ' H' H6 hi ⟨v4, v5, us, ds, rfl, gp, gP, gl, g40, gs0, gD, gW, gs, ge⟩ ⟨t, a, b, rfl, nt, rfl, ha, hb⟩
    cases ha
    have hi : i < ws.length := by simpa using hi
    obtain ⟨w0, hw0⟩ : ∃ w0, ws[i]? = some w0 := ⟨ws[i], List.getElem?_eq_getElem hi⟩
    have eb : b = .str (tS w0) := by
      have z : ((ws.map tS).map V.str)[i]? = some b := hb
      rw [List.getElem?_map, List.getElem?_map, hw0] at z
      exact (Option.some.inj z).symm
    subst eb
    have ed : ws.drop i = w0 :: ws.drop (i + 1) := by
      rw [List.drop_eq_getElem_cons hi]
      rw [List.getElem?_eq_getElem hi] at hw0
      rw [Option.some.inj hw0]
    rw [ed] at gs0
    have x1 := Ex.new (o := .tup [.int (i : Nat), .str (tS w0)]) nt
    refine ⟨t, _, rfl, SqT.of upd_same, rfl, _, _, rfl, _, _, rfl, rfl, ?_⟩
    replace gp := x1 _ _ gp
    replace gP := gP.mono x1
    replace gD := x1 _ _ gD
    replace gW := gW.mono x1
    replace gs := x1 _ _ gs
    replace ge := ge.trans x1
    generalize upd H' t (.tup [.int (i : Nat), .str (tS w0)]) = H7 at gp gP gD gW gs ge ⊢
    clear x1
    dsimp only
    have lu := gP.length
    have dn : ∃ o, valV kvs (.inr (tS w0)) = o ∧ o.isSome = (deedOf w0).isSome := by
      cases hd : deedOf w0 with
      | none => exact ⟨_, gW.none hd, rfl⟩
      | some d =>
        obtain ⟨ok, e⟩ := deedOf_ok hd
        obtain ⟨v, hv, _⟩ := gW.has d ok
        rw [e] at hv
        exact ⟨_, hv, rfl⟩
    obtain ⟨o, ho, hos⟩ := dn
    refine q_when (b := decide (V.int (i : Nat) = V.int 40) || !(deedOf w0).isSome) (et_or (et_test (ev_op (x := .int (i : Nat)) (y := .int 40) (ev_var rfl) ev_c (rv_eq rfl)))
      (fun _ => et_B (fun H8 f8 Q z => ⟨_, rfl, _, rfl, D, o, rfl, by rw [← ho]; exact DGet.k (k := .inr (tS w0)) (f8 _ _ gD), by rw [hos]; exact z H8 (Ex.refl _)⟩))) (fun hb H8 f8 => ?_) (fun hb H8 f8 => ?_)
    · have st : i = 40 ∨ deedOf w0 = none := by
        rw [Bool.or_eq_true] at hb
        rcases hb with z | z
        · exact .inl (by have := V.int.inj (of_decide_eq_true z); omega)
        · refine .inr ?_
          cases e : deedOf w0 with
          | none => rfl
          | some d => rw [e] at z; cases z
      rw [scan_stop st] at gs0
      have f08 := ge.trans f8
      refine ⟨_, rfl, _, rfl, by show 2 ≤ 1000; decide, fun a0 na => ⟨a0, C, n, i, rfl, hn, by omega, X_BadText.T, X_BadText.n1, X_BadText.n2, upd_same, fun d H9 nd ne e9 => ?_⟩⟩
      have nd8 : H8 d = none := by rw [← nd, upd_ne ne]
      refine ⟨rfl, d, xfs "row" "place" n i, by rw [e9]; exact upd_same, by rw [e9, upd_ne ne]; exact upd_same, nd8, ?_⟩
      rw [e9, exd_init2 na ne]
      exact kE i gs0 d _ (fresh_back f08 nd8) (f08.trans (Ex.new nd8)) upd_same
    · rw [Bool.or_eq_false_iff] at hb
      have h40 : i ≠ 40 := fun z => (of_decide_eq_false hb.1) (by rw [z]; rfl)
      obtain ⟨d, hd⟩ : ∃ d, deedOf w0 = some d := by
        cases e : deedOf w0 with
        | none => rw [e] at hb; cases hb.2
        | some d => exact ⟨d, rfl⟩
      obtain ⟨ok, ew⟩ := deedOf_ok hd
      obtain ⟨v, hv, dv⟩ := gW.has d ok
      rw [ew] at hv
      refine s_app (l := pl) (v := v) (f8 _ _ gp) (ev_var rfl) (fun H9 f9 Q z => ⟨_, rfl, _, rfl, D, v, rfl, by rw [← hv]; exact DGet.k (k := .inr (tS w0)) (f9 _ _ (f8 _ _ gD)), z H9 (Ex.refl _)⟩) (by omega) fun H9 f9 => ?_
      have f89 := f8.trans f9
      have b10 : Bt [pl] H9 (upd H9 pl (.lst (us ++ [v]))) := (Bt.refl H9).set (by simp)
      have l10 : ∀ z ∈ [pl], ∃ us, H9 z = some (.lst us) := by simp [f89 _ _ gp]
      refine ⟨_, _, us ++ [v], ds ++ [d], rfl, upd_same, ?_, by rw [List.length_append, gl]; rfl, by omega, by rw [gs0, scan_step h40 hd], by rw [upd_ne npD.symm]; exact f89 _ _ gD, ?_, by rw [upd_ne nps.symm]; exact f89 _ _ gs, (ge.trans f89).mut np0⟩
      · exact (pv_buts b10 l10 (gP.mono f89)).append (.cons (dv_buts b10 l10 (dv.mono f89)) .nil)
      · exact ⟨fun e he => by obtain ⟨u, h1, h2⟩ := gW.has e he; exact ⟨u, h1, dv_buts b10 l10 (h2.mono f89)⟩, gW.only⟩
  · rintro σ' H' ⟨v4, v5, us, ds, rfl, gp, gP, gl, g40, gs0, gD, gW, gs, ge⟩
    rw [List.drop_of_length_le (by simp)] at gs0
    have e : preE ds (scan ((ws.map tS).map V.str).length []) = .ok ds := by
      show Except.ok (ds ++ []) = _
      rw [List.append_nil]
    rw [e] at gs0
    exact ⟨_, rfl, k ds gs0 pl us H' np0 ge gp gP⟩

theorem le_sum {x : Nat} : ∀ {l : List Nat}, x ∈ l → x ≤ l.sum
  | a :: r, h => by
    rw [List.sum_cons]
    rcases List.mem_cons.mp h with rfl | h
    · omega
    · have := le_sum h; omega
theorem row_le_text {c : Nat} {l w : List Nat} (h : w ∈ wordsOf c l) : w.length ≤ l.length := by
  have z := PyProof.Rows.split_weight (tS l) ⟨#[c]⟩ (Nat.le_refl 1)
  rw [tS_len] at z
  obtain ⟨s, hs, rfl⟩ := List.mem_map.mp h
  have h1 : s.length ≤ ((Txt.split (tS l) ⟨#[c]⟩).map (·.length)).sum := le_sum (List.mem_map_of_mem hs)
  have h2 : 1 ≤ (Txt.split (tS l) ⟨#[c]⟩).length := PyProof.Rows.split_pos _ _
  have h3 : s.cps.toList.length = s.length := by unfold Str.length; simp
  omega
/-- two rows of words, read or refused -/
def sp_readX (K : PySem.W.Frag) (C : Addr) : Sp := fun vs H Q E => ∃ (l : List Nat), vs = [.str (tS l)] ∧ l.length ≤ 16000000 ∧
  (∀ ds es, readD l = .ok (ds, es) → ∀ (t p q : Addr) (us xs : List V) (H' : Hp), Ex H H' → H' t = some (.tup [.ref p, .ref q]) → H' p = some (.lst us) → PV K H' us ds → H' q = some (.lst xs) → PV K H' xs es → Q (.ref t) H') ∧
  (∀ r j, readD l = .error (r, j) → ∀ (d : Addr) (H' : Hp), H d = none → Ex H H' → H' d = some (.xd (xfs "row" "place" r j)) → E (.ref C) (some d) H')
theorem d_readX {C D fI : Addr} {fdI : FuncData} (T : Nb mg) (X_BadText : OwnX K mg "BadText" C D fI "row" "place") (I_BadText : FnOk P w K mg base CX0 1 fI fdI ["self", "row", "place"] (sp_init K "row" "place")) (B_BadText : Binds K fdI ["self", "row", "place"] [])
    (D_program_of : Dn P w K mg base (L2.CX P w) "program_of" ["row", "number"] 3 (sp_program_ofX K C)) (h : Has K mg "read" s_read) : Dn P w K mg base (L2.CX P w) "read" ["text"] 4 (sp_readX K C) := by
  refine dn_of h (fun f fd F => F.binds fun _ _ _ _ _ _ us hl => match us, hl with | [_], _ => rfl) fun f fd F _ => F.okX sc_read (fun vs H Q E h => ?_) (fun cdv A outer s H vs Q E hr h => ?_)
  · obtain ⟨_, rfl, _⟩ := h
    rfl
  obtain ⟨l, rfl, hl, k, kE⟩ := h
  refine ⟨_, (pss_cons (ps_set (i := 1) sc_read.nd rfl (Or.inl rfl) (pe_split (pv 0) pe_str))
    (pss_cons (ps_set (i := 2) sc_read.nd rfl (Or.inl rfl) (pe_dnS D_program_of hr (by omega) (fun σ => passAt (takes_of rfl rfl rfl rfl) σ) (pa_cons (pe_ix (ix_listK K) (pv 1) pe_int (fun _ _ => rfl)) (pa_cons pe_int pa_nil))))
    (pss_cons (ps_if (pt_cmpR op_eq (pe_callB (call_len_seqK K) (by rfl) T.n_len PySem.boot_len (pa_cons (pv 1) pa_nil)) pe_int (nomark _)) (pss_one (ps_raise rfl (takes_of rfl rfl rfl rfl) (pmk_oex X_BadText.T X_BadText.iC X_BadText.tI I_BadText (hr.mono (by omega)) B_BadText .nil pass0 (by rfl) X_BadText.gC (pa_cons pe_int (pa_cons pe_int pa_nil))))) pss_nil)
    (pss_cons (ps_set (i := 3) sc_read.nd rfl (Or.inl rfl) (pe_dnS D_program_of hr (by omega) (fun σ => passAt (takes_of rfl rfl rfl rfl) σ) (pa_cons (pe_ix (ix_listK K) (pv 1) pe_int (fun _ _ => rfl)) (pa_cons pe_int pa_nil))))
    (pss_cons (ps_if (pt_cmpR op_gt (pe_callB (call_len_seqK K) (by rfl) T.n_len PySem.boot_len (pa_cons (pv 1) pa_nil)) pe_int (nomark _)) (pss_one (ps_raise rfl (takes_of rfl rfl rfl rfl) (pmk_oex X_BadText.T X_BadText.iC X_BadText.tI I_BadText (hr.mono (by omega)) B_BadText .nil pass0 (by rfl) X_BadText.gC (pa_cons pe_int (pa_cons pe_int pa_nil))))) pss_nil)
    (pss_one (ps_ret (pe_tup (pa_cons (pv 2) (pa_cons (pv 3) pa_nil)))))))))), ?_⟩
  refine ⟨_, rfl, ⟨_, rfl⟩, _, _, rfl, rfl, by decide +kernel, by rw [tS_len]; exact Nat.le_trans (by omega : _ ≤ 16777216) (by decide), fun rl nrl => ?_⟩
  have es1 : Txt.split (tS l) "\n" = (wordsOf 10 l).map tS := by
    rw [show ("\n" : Str) = ⟨#[10]⟩ by decide +kernel]
    exact split_words 10 l
  rw [es1]
  refine gn ?_
  dsimp only
  have f1 := Ex.new (o := .lst (((wordsOf 10 l).map tS).map V.str)) nrl
  have hrl := upd_same (H := H) (a := rl) (o := .lst (((wordsOf 10 l).map tS).map V.str))
  show tSeq _ _ _ _ (upd H rl (.lst (((wordsOf 10 l).map tS).map V.str)))
  generalize upd H rl (.lst (((wordsOf 10 l).map tS).map V.str)) = H1 at f1 hrl ⊢
  have hmem : ∀ w ∈ wordsOf 10 l, w.length ≤ 16000000 := fun w hw => Nat.le_trans (row_le_text hw) hl
  have hpos : wordsOf 10 l ≠ [] := fun z => by
    have h2 : 1 ≤ (Txt.split (tS l) ⟨#[10]⟩).length := PyProof.Rows.split_pos _ _
    rw [split_words, z] at h2
    simp at h2
  unfold readD at k kE
  generalize wordsOf 10 l = ws at k kE hrl hmem hpos
  obtain ⟨r0, rest, rfl⟩ : ∃ r0 rest, ws = r0 :: rest := by
    cases ws with
    | nil => exact absurd rfl hpos
    | cons a b => exact ⟨a, b, rfl⟩
  dsimp only at k kE
  refine ⟨_, rfl, rl, _, 0, .str (tS r0), rfl, rfl, SqL.of hrl, atI_nat (j := 0) rfl, r0, 0, rfl, by decide, hmem r0 (by simp), fun ds hds p us H2 np f2 hp hP => ?_, fun j hj d H2 nd f2 hd => ?_⟩
  case refine_2 =>
    rw [hj] at kE
    exact kE 0 j rfl d H2 (fresh_back f1 nd) (f1.trans f2) hd
  refine gn ?_
  dsimp only
  rw [hds] at k kE
  dsimp only at k kE
  have f12 := f1.trans f2
  -- one row only
  refine q_when (b := decide (rest = [])) (et_test (ev_is (ev_op (x := .int ((rest.length + 1 : Nat) : Int)) (y := .int 1) (ev_is (ev_cb (ea_cons (ev_var (v := .ref rl) rfl) ea_nil) (rc_lenL (SqL.of (f2 _ _ hrl)))) (by simp)) ev_c (rv_eq rfl)) (by
    congr 1
    exact decide_eq_decide.mpr ⟨fun z => by have z := V.int.inj z; exact List.length_eq_zero_iff.mp (by omega), fun z => by rw [z]; rfl⟩))) (fun hb H3 f3 => ?_) (fun hb H3 f3 => ?_)
  · have e : rest = [] := of_decide_eq_true hb
    subst e
    have f13 := f12.trans f3
    refine ⟨by show 2 ≤ 1000; decide, fun a0 na => ⟨a0, C, 1, 0, rfl, by decide, by decide, X_BadText.T, X_BadText.n1, X_BadText.n2, upd_same, fun d H9 nd ne e9 => ?_⟩⟩
    have nd8 : H3 d = none := by rw [← nd, upd_ne ne]
    refine ⟨rfl, d, xfs "row" "place" 1 0, by rw [e9]; exact upd_same, by rw [e9, upd_ne ne]; exact upd_same, nd8, ?_⟩
    rw [e9, exd_init2 na ne]
    exact kE 1 0 rfl d _ (fresh_back f13 nd8) (f13.trans (Ex.new nd8)) upd_same
  obtain ⟨r1, more, rfl⟩ : ∃ r1 more, rest = r1 :: more := by
    cases rest with
    | nil => exact absurd rfl (of_decide_eq_false hb)
    | cons a b => exact ⟨a, b, rfl⟩
  dsimp only at k kE
  have f13 := f12.trans f3
  refine ⟨_, rfl, rl, _, 1, .str (tS r1), rfl, rfl, SqL.of (f3 _ _ (f2 _ _ hrl)), atI_nat (j := 1) rfl, r1, 1, rfl, by decide, hmem r1 (by simp), fun es hes q xs H4 nq f4 hq hX => ?_, fun j hj d H4 nd f4 hd => ?_⟩
  case refine_2 =>
    rw [hj] at kE
    exact kE 1 j rfl d H4 (fresh_back f13 nd) (f13.trans f4) hd
  refine gn ?_
  dsimp only
  rw [hes] at k kE
  dsimp only at k kE
  have f14 := f13.trans f4
  refine q_when (b := decide (more ≠ [])) (et_test (ev_is (ev_op (x := .int ((more.length + 2 : Nat) : Int)) (y := .int 2) (ev_is (ev_cb (ea_cons (ev_var (v := .ref rl) rfl) ea_nil) (rc_lenL (SqL.of (f4 _ _ (f3 _ _ (f2 _ _ hrl)))))) (by simp; omega)) ev_c rv_I0) (by
    congr 1
    exact decide_eq_decide.mpr ⟨fun z e => by rw [e] at z; simp at z, fun z => by have := List.length_pos_iff.mpr z; omega⟩))) (fun hb2 H5 f5 => ?_) (fun hb2 H5 f5 => ?_)
  · have nm : more ≠ [] := of_decide_eq_true hb2
    obtain ⟨r2, m2, rfl⟩ : ∃ r2 m2, more = r2 :: m2 := by
      cases more with
      | nil => exact absurd rfl nm
      | cons a b => exact ⟨a, b, rfl⟩
    have f15 := f14.trans f5
    refine ⟨by show 2 ≤ 1000; decide, fun a0 na => ⟨a0, C, 2, 0, rfl, by decide, by decide, X_BadText.T, X_BadText.n1, X_BadText.n2, upd_same, fun d H9 nd ne e9 => ?_⟩⟩
    have nd8 : H5 d = none := by rw [← nd, upd_ne ne]
    refine ⟨rfl, d, xfs "row" "place" 2 0, by rw [e9]; exact upd_same, by rw [e9, upd_ne ne]; exact upd_same, nd8, ?_⟩
    rw [e9, exd_init2 na ne]
    exact kE 2 0 rfl d _ (fresh_back f15 nd8) (f15.trans (Ex.new nd8)) upd_same
  · have e : more = [] := Decidable.not_not.mp (of_decide_eq_false hb2)
    subst e
    have f35 := (f3.trans f4).trans f5
    refine ⟨_, rfl, _, rfl, by show 2 ≤ sizeLine; decide, fun t nt => ?_⟩
    have x1 := Ex.new (o := .tup [.ref p, .ref q]) nt
    exact k ds es rfl t p q us xs _ ((f12.trans f35).trans x1) upd_same (x1 _ _ (f35 _ _ hp)) ((hP.mono f35).mono x1) (x1 _ _ (f5 _ _ hq)) ((hX.mono f5).mono x1)

/-- the i-th of so many draws: a number from 0 on, below m -/
def sp_law_next : Sp := fun vs H Q _ => ∃ (h l : Addr) (m : Int), vs = [.ref h, .int m] ∧ Draw H h l ∧ 0 < m ∧ m < 1073741824 ∧ ∀ (r : Int) (H' : Hp), 0 ≤ r → r < m → Drew H H' h l → Q (.int r) H'
theorem d_law_next (T : Nb mg) (h : Has K mg "_law_next" s_law_next) : Dn P w K mg base CX0 "_law_next" ["_law_h", "_law_many"] 1 sp_law_next := by
  refine dn_of h (fun f fd F => F.binds fun _ _ _ _ _ _ us hl => match us, hl with | [_, _], _ => rfl) fun f fd F _ => F.ok sc_law_next (fun vs H Q E h => ?_) (fun cdv A outer s H vs Q E hr h => ?_)
  · obtain ⟨_, _, _, rfl, _⟩ := h
    rfl
  · obtain ⟨h, l, m, rfl, D, hm, hm2, k⟩ := h
    refine ⟨_, (pss_cons (ps_set (i := 2) sc_law_next.nd rfl (Or.inl rfl) (pe_op op_mod (pe_ix (ix_listK K) (pv 0) pe_int (fun _ _ => rfl)) (pe_callB (call_max2 rfl) (by rfl) T.n_max PyProof.Rows.boot_max (pa_cons pe_int (pa_cons (pe_callB (call_len_seqK K) (by rfl) T.n_len PySem.boot_len (pa_cons (pe_ix (ix_listK K) (pv 0) pe_int (fun _ _ => rfl)) pa_nil)) pa_nil)))))
    (pss_cons (ps_set (i := 3) sc_law_next.nd rfl (Or.inl rfl) (pe_ifExp (pt_cmpR (op_neDK K rfl hr.units) (pe_ix (ix_listK K) (pv 0) pe_int (fun _ _ => rfl)) (pe_lst pa_nil) (nomark _)) (pe_ix (ix_listK K) (pe_ix (ix_listK K) (pv 0) pe_int (fun _ _ => rfl)) (pv 2) (fun _ _ => rfl)) pe_int))
    (pss_cons (ps_if (pt_cmpR op_ge (pv 3) (pe_op op_pow pe_int pe_int) (nomark _)) (pss_cons (ps_asg (pe_op op_fdiv (pv 3) (pv 1)) (pg_sub (pe_ix (ix_listK K) (pv 0) pe_int (fun _ _ => rfl)) (pv 2) set_list))
      (pss_one (ps_ret (pe_op op_mod (pv 3) (pv 1))))) pss_nil)
    (pss_cons (ps_asg (pe_op op_mod (pe_op op_add (pe_op op_add (pe_op op_mul (pe_ix (ix_listK K) (pv 0) pe_int (fun _ _ => rfl)) pe_int) (pe_op op_mul (pv 3) pe_int)) pe_int) pe_int) (pg_sub (pv 0) pe_int set_list))
    (pss_cons (ps_asg (pe_op op_add (pe_ix (ix_listK K) (pv 0) pe_int (fun _ _ => rfl)) pe_int) (pg_sub (pv 0) pe_int set_list))
    (pss_one (ps_ret (pe_op op_mod (pe_op op_fdiv (pe_ix (ix_listK K) (pv 0) pe_int (fun _ _ => rfl)) pe_int) (pv 1))))))))), ?_⟩
    obtain ⟨a, p, ns, e1, e2, e3⟩ := D.st
    have hhl := D.ne
    have hM : (0 : Int) < (if ((ns.map V.int).length : Int) > 1 then ((ns.map V.int).length : Int) else 1) := by split <;> omega
    refine q_asg (v := .int (p % (if ((ns.map V.int).length : Int) > 1 then ((ns.map V.int).length : Int) else 1))) (by walk_at "ev") fun H1 f1 => ?_
    have a0 := Int.emod_nonneg p (Int.ne_of_gt hM)
    have a1 := Int.emod_lt_of_pos p hM
    generalize hat : p % (if ((ns.map V.int).length : Int) > 1 then ((ns.map V.int).length : Int) else 1) = t at *
    have c1 := f1 _ _ e1
    have c2 := f1 _ _ e2
    obtain ⟨c, hc⟩ : ∃ c : Int, Ev (tIf (tTest (tOp (rNeD K) (tOp (rIxL K) (tVar 0) (tC (.int 1))) (tLst tNil))) (tOp (rIxL K) (tOp (rIxL K) (tVar 0) (tC (.int 1))) (tVar 2)) (tC (.int 0))) ((start ["_law_h", "_law_many", "_law_at", "_law_cell"] [.ref h, .int m]).set 2 (some (.int t))) H1 (.int c)
        ∧ (c ≠ 0 → ∃ j : Nat, t = (j : Int) ∧ j < ns.length) := by
      cases ns with
      | nil =>
        refine ⟨0, ev_ifF (et_test (ev_is (ev_opL (xs := []) (by walk_at "ev") (el_lst ea_nil (by decide)) fun p H2 hp f2 => rv_neD (n := 1) (m := 1) (d := .list []) (e := .list []) (.lst (SqL.of (f2 _ _ c2)) .nil) (.lst (SqL.of hp) .nil) (sh_lst fun _ z => nomatch z) (sh_lst fun _ z => nomatch z) (by decide) (by decide)) rfl)) ev_c, fun z => absurd rfl z⟩
      | cons n r =>
        obtain ⟨j, rfl⟩ : ∃ j : Nat, t = (j : Int) := ⟨t.toNat, by omega⟩
        have hj : j < (n :: r).length := by
          have q : ((n :: r).map V.int).length = (n :: r).length := List.length_map ..
          rw [q] at a1
          have q2 : (n :: r).length = r.length + 1 := rfl
          split at a1 <;> omega
        have hx : ((n :: r).map V.int)[j]? = some (.int (n :: r)[j]) := by rw [List.getElem?_map, List.getElem?_eq_getElem hj]; rfl
        refine ⟨(n :: r)[j], ev_ifT (et_test (ev_is (ev_opL (xs := []) (by walk_at "ev") (el_lst ea_nil (by decide)) fun p H2 hp f2 => rv_neD (n := 1) (m := 1) (d := .list ((n :: r).map PyData.int)) (e := .list []) (.lst (SqL.of (f2 _ _ c2)) (dpa_ints _)) (.lst (SqL.of hp) .nil) (sh_ints _) (sh_lst fun _ z => nomatch z) (by decide) (by decide)) rfl)) (by walk_at "ev"), fun _ => ⟨j, rfl, hj⟩⟩
    refine q_asg hc.1 fun H2 f2 => ?_
    have d1 := f2 _ _ c1
    have d2 := f2 _ _ c2
    have f02 := f1.trans f2
    refine q_when (b := decide ((10 : Int) ^ (18 : Int).toNat ≤ c)) (et_test (by walk_at "ev")) (fun hb H3 f3 => ?_) (fun hb H3 f3 => ?_)
    · have hb := of_decide_eq_true hb
      have e18 : (10 : Int) ^ (18 : Int).toNat = 1000000000000000000 := by decide
      rw [e18] at hb
      have e1 := f3 _ _ d1
      have e2 := f3 _ _ d2
      obtain ⟨j, rfl, hj⟩ := hc.2 (by omega)
      refine q_setL (l := l) (v := .int (c / m)) (j := j) e2 (by walk_at "ev") (by walk_at "ev") (by walk_at "ev") (by rw [List.length_map]; exact hj) fun H4 f4 => ?_
      refine s_ret (v := .int (c % m)) (by walk_at "ev") fun H5 f5 => ?_
      have g0 : Bt [h, l] H (upd H4 l (.lst ((ns.map V.int).set j (.int (c / m))))) := (Bt.of_ex ((f02.trans f3).trans f4)).upd (.inl (by simp))
      refine k _ _ (Int.emod_nonneg _ (by omega)) (Int.emod_lt_of_pos _ hm) ⟨Draw.mono f5 ⟨a, p, ns.set j (c / m), ?_, ?_, ?_⟩, g0.trans (Bt.of_ex f5)⟩
      · rw [upd_ne hhl]; exact f4 _ _ e1
      · rw [List.map_set]; exact upd_same
      · rw [List.length_set]; exact e3
    · have e1 := f3 _ _ d1
      have e2 := f3 _ _ d2
      refine q_setL (l := h) (v := .int ((a * 48271 + c * 69621 + 11) % 2147483647)) (j := 0) e1 (by walk_at "ev") (by walk_at "ev") (by walk_at "ev") (by simp) fun H4 f4 => ?_
      have g1 : (upd H4 h (.lst (([.int a, .ref l, .int p] : List V).set 0 (.int ((a * 48271 + c * 69621 + 11) % 2147483647))))) h = some (.lst [.int ((a * 48271 + c * 69621 + 11) % 2147483647), .ref l, .int p]) := upd_same
      refine q_setL (l := h) (v := .int (p + 1)) (j := 2) g1 (by walk_at "ev") (by walk_at "ev") (by walk_at "ev") (by simp) fun H5 f5 => ?_
      have g2 : (upd H5 h (.lst (([.int ((a * 48271 + c * 69621 + 11) % 2147483647), .ref l, .int p] : List V).set 2 (.int (p + 1))))) h = some (.lst [.int ((a * 48271 + c * 69621 + 11) % 2147483647), .ref l, .int (p + 1)]) := upd_same
      refine s_ret (v := .int ((a * 48271 + c * 69621 + 11) % 2147483647 / 7 % m)) (by walk_at "ev") fun H6 f6 => ?_
      refine k _ _ (Int.emod_nonneg _ (by omega)) (Int.emod_lt_of_pos _ hm) ⟨Draw.mono f6 ⟨_, p + 1, ns, g2, ?_, e3⟩, ?_⟩
      · rw [upd_ne hhl.symm]
        refine f5 _ _ ?_
        rw [upd_ne hhl.symm]
        exact f4 _ _ e2
      · have b1 : Bt [h, l] H (upd H4 h (.lst (([.int a, .ref l, .int p] : List V).set 0 (.int ((a * 48271 + c * 69621 + 11) % 2147483647))))) := (Bt.of_ex ((f02.trans f3).trans f4)).upd (.inl (by simp))
        exact ((b1.trans (Bt.of_ex f5)).upd (.inl (by simp))).trans (Bt.of_ex f6)

/-- the draws are laid -/
def sp_law_mix (K : PySem.W.Frag) : Sp := fun vs H Q _ => ∃ (a : Addr) (s : Int) (ns : List Int), vs = [.ref a, .int s] ∧ SqL K H a (ns.map V.int) ∧ ns.length ≤ 63 ∧ ∀ (h l : Addr) (H' : Hp), Ex H H' → Draw H' h l → Q (.ref h) H'
theorem d_law_mix (T : Nb mg) (h : Has K mg "_law_mix" s_law_mix) : Dn P w K mg base CX0 "_law_mix" ["_law_script", "_law_seed"] 1 (sp_law_mix K) := by
  refine dn_of h (fun f fd F => F.binds fun _ _ _ _ _ _ us hl => match us, hl with | [_, _], _ => rfl) fun f fd F _ => F.ok sc_law_mix (fun vs H Q E h => ?_) (fun cdv A outer s H vs Q E hr h => ?_)
  · obtain ⟨_, _, _, rfl, _⟩ := h
    rfl
  · obtain ⟨a, sd, ns, rfl, hS, hn, k⟩ := h
    refine ⟨_, (pss_cons (ps_set (i := 2) sc_law_mix.nd rfl (Or.inl rfl) (pv 1))
    (pss_cons (ps_for PassesOwn.never rfl (pi_list (pv 0)) (pg_name (i := 3) sc_law_mix.nd rfl (Or.inl rfl))
      (pss_one (ps_set (i := 2) sc_law_mix.nd rfl (Or.inl rfl) (pe_op op_mod (pe_op op_add (pe_op op_add (pe_op op_mul (pv 2) pe_int) (pe_op op_mod (pv 3) pe_int)) pe_int) pe_int))))
    (pss_one (ps_ret (pe_lst (pa_cons (pv 2) (pa_cons (pe_callTy (call_list_ofK K) (by rfl) T.n_list PyProof.Rows.boot_list (pa_cons (pv 0) pa_nil)) (pa_cons pe_int pa_nil)))))))), ?_⟩
    refine q_asg (v := .int sd) (by walk_at "ev") fun H1 f1 => ?_
    refine q_forLn (a := a) (xs := ns.map V.int) (by walk_at "ev") (ex_l f1 hS) (fun _ σ' H' => ∃ (z : Int) (v : Option V), σ' = [some (.ref a), some (.int sd), some (.int z), v] ∧ Ex H H')
      (fun H2 f2 => ⟨sd, none, rfl, f1.trans f2⟩) (fun i σ' H' _ ⟨_, _, _, e⟩ => ex_l e hS) ?_ ?_
    · rintro i x σ' H' hi ⟨z, v, rfl, e⟩
      obtain ⟨n, rfl⟩ : ∃ n, x = V.int n := by
        rw [List.getElem?_map] at hi
        cases q : ns[i]? with
        | none => rw [q] at hi; cases hi
        | some n => rw [q] at hi; exact ⟨n, (Option.some.inj hi).symm⟩
      exact s_asg (v := .int ((z * 48271 + n % 2147483629 + 1) % 2147483647)) (by walk_at "ev") fun H2 f2 => ⟨_, _, rfl, e.trans f2⟩
    · rintro σ' H' ⟨z, v, rfl, e⟩
      refine ⟨_, rfl, _, rfl, a, _, rfl, .inl (ex_l e hS), fun l hl => ⟨by show 3 ≤ sizeLine; decide, fun h hh => ?_⟩⟩
      have hlh : l ≠ h := ne_of_none upd_same hh
      refine k h l _ ((e.trans (Ex.new hl)).trans (Ex.new hh)) ⟨z, 0, ns, upd_same, ?_, hn⟩
      rw [upd_ne hlh]
      exact upd_same

/-- a deed at so many cells is drawn -/
def sp_law_deed (K : PySem.W.Frag) : Sp := fun vs H Q _ => ∃ (h l : Addr) (n : Nat), vs = [.ref h, .int n] ∧ Draw H h l ∧ 0 < n ∧ n ≤ 4 ∧ ∀ (v : V) (d : Deed) (H' : Hp), DV K H' v d → d.ok n → Drew H H' h l → Q v H'
theorem d_law_deed (T : Nb mg) (D_law_next : Dn P w K mg base CX0 "_law_next" ["_law_h", "_law_many"] 1 sp_law_next) (h : Has K mg "_law_deed" s_law_deed) : Dn P w K mg base CX0 "_law_deed" ["_law_h", "_law_cells"] 2 (sp_law_deed K) := by
  refine dn_of h (fun f fd F => F.binds fun _ _ _ _ _ _ us hl => match us, hl with | [_, _], _ => rfl) fun f fd F _ => F.ok sc_law_deed (fun vs H Q E h => ?_) (fun cdv A outer s H vs Q E hr h => ?_)
  · obtain ⟨_, _, _, rfl, _⟩ := h
    rfl
  · obtain ⟨h, l, n, rfl, D, hn, hn4, k⟩ := h
    refine ⟨_, (pss_cons (ps_set (i := 2) sc_law_deed.nd rfl (Or.inl rfl) (pe_dn D_law_next hr (by omega) pass0 (pa_cons (pv 0) (pa_cons (pv 1) pa_nil))))
    (pss_one (ps_ret (pe_ix (ix_listK K) (pe_lst (pa_cons (pe_tup (pa_cons pe_str (pa_cons (pv 2) pa_nil))) (pa_cons (pe_tup (pa_cons pe_str (pa_cons (pv 2) (pa_cons (pe_dn D_law_next hr (by omega) pass0 (pa_cons (pv 0) (pa_cons pe_int pa_nil))) pa_nil)))) (pa_cons (pe_tup (pa_cons pe_str (pa_cons (pv 2) pa_nil))) (pa_cons (pe_tup (pa_cons pe_str pa_nil)) pa_nil))))) (pe_op op_fdiv (pe_dn D_law_next hr (by omega) pass0 (pa_cons (pv 0) (pa_cons pe_int pa_nil))) pe_int) (fun _ _ => rfl))))), ?_⟩
    -- the cell
    refine ⟨_, rfl, _, rfl, h, l, n, rfl, D, by omega, by omega, fun c H1 c0 c1 D1 => ?_⟩
    obtain ⟨c, rfl⟩ : ∃ j : Nat, c = (j : Int) := ⟨c.toNat, by omega⟩
    -- the first tuple
    refine ⟨_, rfl, by show 2 ≤ sizeLine; decide, fun p1 n1 => ?_⟩
    have D2 := D1.new (o := .tup [.str "read", .int c]) n1
    -- the second one, its worth
    refine ⟨_, rfl, _, rfl, h, l, 3, rfl, D2.dr, by decide, by decide, fun r H3 r0 r1 D3 => ⟨by show 3 ≤ sizeLine; decide, fun p2 n2 => ?_⟩⟩
    obtain ⟨r, rfl⟩ : ∃ j : Nat, r = (j : Int) := ⟨r.toNat, by omega⟩
    have t1 : SqT K H3 p1 (Deed.rd c).vals := D2.dr.t D3.bt (SqT.of upd_same)
    have D4 := D3.new (o := .tup [.str "write", .int c, .int r]) n2
    -- the third one, the fourth one, the list
    refine ⟨_, rfl, by show 2 ≤ sizeLine; decide, fun p3 n3 => ⟨by show 1 ≤ sizeLine; decide, fun p4 n4 => ⟨by show 4 ≤ sizeLine; decide, fun pl nl => ?_⟩⟩⟩
    have D5 := D4.new (o := .tup [.str "read", .int c]) n3
    have D6 := D5.new (o := .tup [.str "rest"]) n4
    have D7 := D6.new (o := .lst [.ref p1, .ref p2, .ref p3, .ref p4]) nl
    -- which one
    refine ⟨_, rfl, h, l, 7, rfl, D7.dr, by decide, by decide, fun z H8 z0 z1 D8 => ?_⟩
    have e1 : SqT K H8 p1 (Deed.rd c).vals := D7.dr.t D8.bt (ex_t (Ex.new nl) (ex_t (Ex.new n4) (ex_t (Ex.new n3) (ex_t (Ex.new n2) t1))))
    have e2 : SqT K H8 p2 (Deed.wr c r).vals := D7.dr.t D8.bt (ex_t (Ex.new nl) (ex_t (Ex.new n4) (ex_t (Ex.new n3) (SqT.of upd_same))))
    have e3 : SqT K H8 p3 (Deed.rd c).vals := D7.dr.t D8.bt (ex_t (Ex.new nl) (ex_t (Ex.new n4) (SqT.of upd_same)))
    have e4 : SqT K H8 p4 Deed.rs.vals := D7.dr.t D8.bt (ex_t (Ex.new nl) (SqT.of upd_same))
    have hl7 : ¬ pl ∈ [h, l] := by
      obtain ⟨_, _, _, q1, q2, _⟩ := D6.dr.st
      simp only [List.mem_cons, List.not_mem_nil, or_false]
      rintro (rfl | rfl)
      · rw [nl] at q1; cases q1
      · rw [nl] at q2; cases q2
    have el : H8 pl = some (.lst [.ref p1, .ref p2, .ref p3, .ref p4]) := D8.bt _ _ hl7 upd_same
    have DD : Drew H H8 h l := (D2.trans D7).trans D8
    refine ⟨z, 2, rfl, rfl, ⟨by decide, by decide⟩, pl, _, z / 2, ?v, rfl, rfl, SqL.of el, ?w, ?q⟩
    case v => exact if z < 2 then .ref p1 else if z < 4 then .ref p2 else if z < 6 then .ref p3 else .ref p4
    case w =>
      by_cases h2 : z < 2
      · have : z / 2 = 0 := by omega
        rw [this, if_pos h2]; rfl
      · by_cases h4 : z < 4
        · have : z / 2 = 1 := by omega
          rw [this, if_neg h2, if_pos h4]; rfl
        · by_cases h6 : z < 6
          · have : z / 2 = 2 := by omega
            rw [this, if_neg h2, if_neg h4, if_pos h6]; rfl
          · have : z / 2 = 3 := by omega
            rw [this, if_neg h2, if_neg h4, if_neg h6]; rfl
    case q =>
      refine k _ (if z < 2 then .rd c else if z < 4 then .wr c r else if z < 6 then .rd c else .rs) H8 ?_ ?_ DD
      · split
        · exact ⟨p1, rfl, e1⟩
        · split
          · exact ⟨p2, rfl, e2⟩
          · split
            · exact ⟨p3, rfl, e3⟩
            · exact ⟨p4, rfl, e4⟩
      · split
        · show c < n; omega
        · split
          · exact ⟨by omega, by omega⟩
          · split
            · show c < n; omega
            · exact True.intro

/-- a program of up to so many deeds is drawn -/
def sp_law_program (K : PySem.W.Frag) : Sp := fun vs H Q _ => ∃ (h l : Addr) (n m : Nat), vs = [.ref h, .int n, .int m] ∧ Draw H h l ∧ 0 < n ∧ n ≤ 4 ∧ m ≤ 40 ∧
  ∀ (p : Addr) (us : List V) (ds : List Deed) (H' : Hp), H p = none → H' p = some (.lst us) → PV K H' us ds → ds.length ≤ m → (∀ d ∈ ds, d.ok n) → Drew H H' h l → Q (.ref p) H'
theorem d_law_program (T : Nb mg) (D_law_next : Dn P w K mg base CX0 "_law_next" ["_law_h", "_law_many"] 1 sp_law_next) (D_law_deed : Dn P w K mg base CX0 "_law_deed" ["_law_h", "_law_cells"] 2 (sp_law_deed K))
    (h : Has K mg "_law_program" s_law_program) : Dn P w K mg base CX0 "_law_program" ["_law_h", "_law_cells", "_law_most"] 3 (sp_law_program K) := by
  refine dn_of h (fun f fd F => F.binds fun _ _ _ _ _ _ us hl => match us, hl with | [_, _, _], _ => rfl) fun f fd F _ => F.ok sc_law_program (fun vs H Q E h => ?_) (fun cdv A outer s H vs Q E hr h => ?_)
  · obtain ⟨_, _, _, _, rfl, _⟩ := h
    rfl
  · obtain ⟨h, l, n, m, rfl, D, hn, hn4, hm, k⟩ := h
    refine ⟨_, (pss_one (ps_ret (pe_lc (own := [("_law_k", 3)]) rfl sc_law_program.nd (pi_range1 rfl T.n_range (pa_cons (pe_dn D_law_next hr (by omega) pass0 (pa_cons (pv 0) (pa_cons (pe_op op_add (pv 2) pe_int) pa_nil))) pa_nil)) (blkOk_by (own := [("_law_k", 3)]) (N := ["_law_h", "_law_cells", "_law_most", "_law_k"]) (sc := defScope s_law_program) (by decide +kernel)) (fun _ _ _ _ _ => (pg_name (i := 3) sc_law_program.nd rfl (Or.inl rfl))) (fun _ _ _ _ _ => pts_nil) (fun _ _ _ _ _ => (pe_dn D_law_deed hr (by omega) pass0 (pa_cons (pv 0) (pa_cons (pv 1) pa_nil))))))), ?_⟩
    refine ⟨_, rfl, _, rfl, _, _, rfl, rfl, h, l, (m : Int) + 1, rfl, D, by omega, by omega, fun c H1 c0 c1 D1 => ?_⟩
    obtain ⟨c, rfl⟩ : ∃ j : Nat, c = (j : Int) := ⟨c.toNat, by omega⟩
    refine ⟨(c : Int), rfl, by omega, by omega, fun p hp => ?_⟩
    have hp0 : ¬ p ∈ [h, l] := by
      obtain ⟨_, _, _, q1, q2, _⟩ := D1.dr.st
      simp only [List.mem_cons, List.not_mem_nil, or_false]
      rintro (rfl | rfl)
      · rw [hp] at q1; cases q1
      · rw [hp] at q2; cases q2
    refine lc_range (lo := 0) (n := (c : Int).toNat) (fun i H' => ∃ us ds, H' p = some (.lst us) ∧ PV K H' us ds ∧ ds.length = i ∧ (∀ d ∈ ds, d.ok n) ∧ Drew H H' h l)
      ⟨[], [], upd_same, .nil, rfl, (fun _ z => nomatch z), D1.new hp⟩ ?_ ?_
    · rintro i H' hi ⟨us, ds, e1, e2, e3, e4, e5⟩
      refine ⟨rfl, _, rfl, _, rfl, h, l, n, rfl, e5.dr, hn, hn4, fun v d H2 g1 g2 g3 => ⟨us, g3.bt p _ hp0 e1, ?_, us ++ [v], ds ++ [d], upd_same, ?_, ?_, ?_, ?_⟩⟩
      · have q := e2.length
        have q2 : (1000 : Nat) < sizeLine := by decide
        omega
      · have a1 : PV K H2 us ds := e5.dr.pv g3.bt e2
        have a2 := PV.snoc g1 a1
        have b : Bt [p] H2 (upd H2 p (.lst (us ++ [v]))) := (Bt.refl H2).upd (.inl (by simp))
        exact pv_map (fun v d q => dv_but b (g3.bt p _ hp0 e1) q) a2
      · rw [List.length_append, e3]; rfl
      · intro x hx
        rcases List.mem_append.mp hx with hx | hx
        · exact e4 x hx
        · rw [List.mem_singleton.mp hx]; exact g2
      · have g := e5.trans g3
        refine ⟨?_, g.bt.upd (.inr (D1.bt.free hp0 hp))⟩
        obtain ⟨a, p', ns, q1, q2, q3⟩ := g.dr.st
        refine ⟨a, p', ns, ?_, ?_, q3⟩
        · rw [upd_ne (fun z => hp0 (by rw [← z]; simp))]; exact q1
        · rw [upd_ne (fun z => hp0 (by rw [← z]; simp))]; exact q2
    · rintro H' ⟨us, ds, e1, e2, e3, e4, e5⟩
      exact k p us ds H' (D1.bt.free hp0 hp) e1 e2 (by omega) e4 e5

/-- two that are the same data are found alike -/
def sp_law_alike (K : PySem.W.Frag) : Nat → Sp
  | 0 => fun _ _ _ _ => False
  | n + 1 => fun vs H Q _ => ∃ (a b : V) (d : PyData), vs = [a, b] ∧ Dp K H a d ∧ Dp K H b d ∧ Nice n d ∧ ∀ H', Ex H H' → Q (.bl true) H'
theorem sp_law_alike_v {n : Nat} {H : Hp} {a b : V} {d : PyData} (h1 : Dp K H a d) (h2 : Dp K H b d) (h3 : Nice n d) : SpV (sp_law_alike K (n + 1)) [a, b] H (.bl true) := fun H1 e Q q _ =>
  ⟨a, b, d, rfl, dp_mono e d a h1, dp_mono e d b h2, h3, q⟩
theorem d_law_alike (T : Nb mg) (h : Has K mg "_law_alike" s_law_alike) : ∀ n, Dn P w K mg base CX0 "_law_alike" ["_law_found", "_law_due_here"] (n + 1) (sp_law_alike K n)
  | 0 => by
    refine dn_of h (fun f fd F => F.binds fun _ _ _ _ _ _ us hl => match us, hl with | [_, _], _ => rfl) fun f fd F _ => ⟨fun _ _ _ _ z => z.elim, fun _ _ _ _ _ _ _ _ _ _ _ _ _ z => z.elim⟩
  | n + 1 => by
    have D_law_alike := d_law_alike T h n
    refine dn_of h (fun f fd F => F.binds fun _ _ _ _ _ _ us hl => match us, hl with | [_, _], _ => rfl) fun f fd F _ => F.ok sc_law_alike (fun vs H Q E h => ?_) (fun cdv A outer s H vs Q E hr h => ?_)
    · obtain ⟨_, _, _, rfl, _⟩ := h
      rfl
    · obtain ⟨a, b, d, rfl, h1, h2, h3, k⟩ := h
      refine ⟨_, (pss_cons (ps_if (pt_val (pe_callB (call_isiTK K) (by rfl) T.n_isinstance PyProof.Rows.boot_isinstance (pa_cons (pv 1) (pa_cons (pe_tup (pa_cons (pe_bltn (v := .ty "tuple") rfl T.n_tuple PyProof.Rows.boot_tuple rfl) (pa_cons (pe_bltn (v := .ty "list") rfl T.n_list PyProof.Rows.boot_list rfl) pa_nil))) pa_nil)))) (pss_cons (ps_if (PW.pt (pw_or (pt_not (pt_val (pe_callB (call_isiTK K) (by rfl) T.n_isinstance PyProof.Rows.boot_isinstance (pa_cons (pv 0) (pa_cons (pe_tup (pa_cons (pe_bltn (v := .ty "tuple") rfl T.n_tuple PyProof.Rows.boot_tuple rfl) (pa_cons (pe_bltn (v := .ty "list") rfl T.n_list PyProof.Rows.boot_list rfl) pa_nil))) pa_nil))))) (pw_or1 (pt_cmpR op_ne (pe_callB (call_isiK2 K) (by rfl) T.n_isinstance PyProof.Rows.boot_isinstance (pa_cons (pv 0) (pa_cons (pe_bltn (v := .ty "list") rfl T.n_list PyProof.Rows.boot_list rfl) pa_nil))) (pe_callB (call_isiK2 K) (by rfl) T.n_isinstance PyProof.Rows.boot_isinstance (pa_cons (pv 1) (pa_cons (pe_bltn (v := .ty "list") rfl T.n_list PyProof.Rows.boot_list rfl) pa_nil))) (nomark _))))) (pss_one (ps_ret pe_bl)) pss_nil)
      (pss_cons (ps_if (pt_cmpR op_ne (pe_callB (call_len_seqK K) (by rfl) T.n_len PySem.boot_len (pa_cons (pv 0) pa_nil)) (pe_callB (call_len_seqK K) (by rfl) T.n_len PySem.boot_len (pa_cons (pv 1) pa_nil)) (nomark _)) (pss_one (ps_ret pe_bl)) pss_nil)
      (pss_one (ps_ret (pe_cmpR (op_eqDK K rfl hr.units) (pe_lc (own := [("_law_k", 2)]) rfl sc_law_alike.nd (pi_range1 rfl T.n_range (pa_cons (pe_callB (call_len_seqK K) (by rfl) T.n_len PySem.boot_len (pa_cons (pv 1) pa_nil)) pa_nil)) (blkOk_by (own := [("_law_k", 2)]) (N := ["_law_found", "_law_due_here", "_law_k"]) (sc := defScope s_law_alike) (by decide +kernel)) (fun _ _ _ _ _ => (pg_name (i := 2) sc_law_alike.nd rfl (Or.inl rfl))) (fun _ _ _ _ _ => pts_one (pt_not (pt_val (pe_dn D_law_alike hr (by omega) pass0 (pa_cons (pe_ix (ix_anyK K) (pv 0) (pv 2) (fun _ _ => rfl)) (pa_cons (pe_ix (ix_anyK K) (pv 1) (pv 2) (fun _ _ => rfl)) pa_nil)))))) (fun _ _ _ _ _ => (pv 2))) (pe_lst pa_nil) (nomark _)))))) pss_nil)
    (pss_cons (ps_if (pt_cmpR op_isN (pv 1) pe_non (nomark _)) (pss_one (ps_ret (pe_cmpR op_isN (pv 0) pe_non (nomark _)))) pss_nil)
    (pss_cons (ps_if (pt_val (pe_callB (call_isiK2 K) (by rfl) T.n_isinstance PyProof.Rows.boot_isinstance (pa_cons (pv 1) (pa_cons (pe_bltn (v := .ty "str") rfl T.n_str PyProof.Rows.boot_str rfl) pa_nil)))) (pss_one (ps_ret (pe_and (pe_callB (call_isiK2 K) (by rfl) T.n_isinstance PyProof.Rows.boot_isinstance (pa_cons (pv 0) (pa_cons (pe_bltn (v := .ty "str") rfl T.n_str PyProof.Rows.boot_str rfl) pa_nil))) (pe_one (pe_cmpR op_eq (pv 0) (pv 1) (nomark _)))))) pss_nil)
    (pss_cons (ps_if (PW.pt (pw_or (pt_val (pe_callB (call_isiK2 K) (by rfl) T.n_isinstance PyProof.Rows.boot_isinstance (pa_cons (pv 1) (pa_cons (pe_bltn (v := .ty "bool") rfl T.n_bool PyProof.Rows.boot_bool rfl) pa_nil)))) (pw_or1 (pt_val (pe_callB (call_isiK2 K) (by rfl) T.n_isinstance PyProof.Rows.boot_isinstance (pa_cons (pv 0) (pa_cons (pe_bltn (v := .ty "bool") rfl T.n_bool PyProof.Rows.boot_bool rfl) pa_nil))))))) (pss_one (ps_ret (pe_and (pe_callB (call_isiK2 K) (by rfl) T.n_isinstance PyProof.Rows.boot_isinstance (pa_cons (pv 1) (pa_cons (pe_bltn (v := .ty "bool") rfl T.n_bool PyProof.Rows.boot_bool rfl) pa_nil))) (pe_and (pe_callB (call_isiK2 K) (by rfl) T.n_isinstance PyProof.Rows.boot_isinstance (pa_cons (pv 0) (pa_cons (pe_bltn (v := .ty "bool") rfl T.n_bool PyProof.Rows.boot_bool rfl) pa_nil))) (pe_one (pe_cmpR op_eq (pv 0) (pv 1) (nomark _))))))) pss_nil)
    (pss_one (ps_ret (pe_and (pe_callB (call_isiK2 K) (by rfl) T.n_isinstance PyProof.Rows.boot_isinstance (pa_cons (pv 0) (pa_cons (pe_bltn (v := .ty "int") rfl T.n_int PyProof.Rows.boot_int rfl) pa_nil))) (pe_one (pe_cmpR op_eq (pv 0) (pv 1) (nomark _)))))))))), ?_⟩
      have cs : (∃ (p q : Addr) (xs ys : List V) (ds : List PyData) (ty : String), a = .ref p ∧ b = .ref q ∧ SqA K H p xs ∧ SqA K H q ys ∧ DpAll K H xs ds ∧ DpAll K H ys ds ∧ ds.length ≤ 1000 ∧ (∀ d ∈ ds, ∃ m, m + 1 = n ∧ Nice m d) ∧
          TyS K H a (.type ty) ∧ TyS K H b (.type ty) ∧ (ty = "list" ∨ ty = "tuple")) ∨
          (∃ ty : String, TyS K H a (.type ty) ∧ TyS K H b (.type ty) ∧ kitB ty "tuple" = some false ∧ kitB ty "list" = some false ∧ ((ty = "NoneType" ∧ a = .non ∧ b = .non) ∨ (b ≠ .non ∧ a = b ∧ (ty = "int" ∨ ty = "str" ∨ ty = "bool") ∧ scal a a = true))) := by
        cases h3 with
        | non =>
          cases h1; cases h2
          exact .inr ⟨"NoneType", tys_non, tys_non, by decide +kernel, by decide +kernel, .inl ⟨rfl, rfl, rfl⟩⟩
        | bl x =>
          cases h1; cases h2
          exact .inr ⟨"bool", tys_bl, tys_bl, by decide +kernel, by decide +kernel, .inr ⟨(fun z => by cases z), rfl, .inr (.inr rfl), rfl⟩⟩
        | int x =>
          cases h1; cases h2
          exact .inr ⟨"int", tys_int, tys_int, by decide +kernel, by decide +kernel, .inr ⟨(fun z => by cases z), rfl, .inl rfl, rfl⟩⟩
        | str x =>
          cases h1; cases h2
          exact .inr ⟨"str", tys_str, tys_str, by decide +kernel, by decide +kernel, .inr ⟨(fun z => by cases z), rfl, .inr (.inl rfl), rfl⟩⟩
        | @lst m ds hl hd =>
          cases h1 with
          | lst a1 a2 =>
            cases h2 with
            | lst b1 b2 => exact .inl ⟨_, _, _, _, ds, "list", rfl, rfl, .inl a1, .inl b1, a2, b2, hl, (fun d z => ⟨m, rfl, hd d z⟩), tys_lst a1, tys_lst b1, .inl rfl⟩
        | @tup m ds hl hd =>
          cases h1 with
          | tup a1 a2 =>
            cases h2 with
            | tup b1 b2 => exact .inl ⟨_, _, _, _, ds, "tuple", rfl, rfl, .inr a1, .inr b1, a2, b2, hl, (fun d z => ⟨m, rfl, hd d z⟩), tys_tup a1, tys_tup b1, .inr rfl⟩
      rcases cs with ⟨p, q, xs, ys, ds, ty, ea, eb, ha, hb, h4, h5, h6, h7, ta, tb, hty⟩ | ⟨ty, ta, tb, k1, k2, hc⟩
      · have ha0 := ha
        have hb0 := hb
        subst ea eb
        have l1 := dpa_len h4
        have l2 := dpa_len h5
        obtain ⟨b1, b2, k1, k2, hb⟩ : ∃ b1 b2, kitB ty "tuple" = some b1 ∧ kitB ty "list" = some b2 ∧ (b1 || b2) = true := by
          rcases hty with rfl | rfl
          · exact ⟨false, true, by decide +kernel, by decide +kernel, rfl⟩
          · exact ⟨true, false, by decide +kernel, by decide +kernel, rfl⟩
        refine q_when (b := true) (et_B (ev_is (ev_isi2 (by walk_at "ev") tb k1 k2) (by rw [hb]))) (fun _ H1 f1 => ?_) (fun z => nomatch z)
        refine q_when (b := false) (et_is (et_or (et_not (et_B (ev_isi2 (by walk_at "ev") (fun H2 f2 => ta H2 (f1.trans f2)) k1 k2))) (fun _ => et_test (ev_op (ev_cb (by walk_at "ea") (rc_isiB (fun H2 f2 => ta H2 (f1.trans f2)) k2)) (ev_cb (by walk_at "ea") (rc_isiB (fun H2 f2 => tb H2 (f1.trans f2)) k2)) (rv_ne rfl))))
          (by rw [hb]; cases b2 <;> decide)) (fun z => nomatch z) (fun _ H2 f2 => ?_)
        have ha2 := ex_a (f1.trans f2) ha
        have hb2 := ex_a (f1.trans f2) hb0
        refine q_when (b := false) (et_is (et_test (ev_op (ev_cb (by walk_at "ea") (rc_len ha2)) (ev_cb (by walk_at "ea") (rc_len hb2)) (rv_ne rfl))) (by rw [l1, l2]; simp)) (fun z => nomatch z) (fun _ H3 f3 => ?_)
        have f03 := (f1.trans f2).trans f3
        have ha3 := ex_a f3 ha2
        have hb3 := ex_a f3 hb2
        refine s_ret (v := .bl true) (ev_opLL (xs := []) (ys := []) (by
          have q := el_lcR1 (σ := start ["_law_found", "_law_due_here", "_law_k"] [.ref p, .ref q]) (H := H3) (ta := tCons (tCB (rLenS K) (tCons (tVar 1) tNil)) tNil) (n := (ys.length : Int)) (j := 2) (vs := [2]) (te := tVar 2) (t := tNot (tB (tCall (sp_law_alike K n) [] E0 (tCons (tOp (rIxA K) (tVar 0) (tVar 2)) (tCons (tOp (rIxA K) (tVar 1) (tVar 2)) tNil))))) (fun _ => false) (fun _ => .non)
            (ea_cons (ev_cb (by walk_at "ea") (rc_len hb3)) ea_nil) (by omega) (fun x => rfl) (fun i H4 f4 hi => ?_) (fun i H4 f4 hi z => nomatch z)
          · rw [given_none] at q
            exact q
          · obtain ⟨d, hd⟩ : ∃ d, ds[i]? = some d := ⟨ds[i], List.getElem?_eq_getElem (by omega)⟩
            obtain ⟨x, hx, dx⟩ := dpa_get h4 hd
            obtain ⟨y, hy, dy⟩ := dpa_get h5 hd
            obtain ⟨m, rfl, hm⟩ := h7 d (List.mem_of_getElem? hd)
            have f04 := f03.trans f4
            have c := sp_law_alike_v (K := K) (dp_mono f04 d x dx) (dp_mono f04 d y dy) hm
            exact et_not (et_B (ev_call (ea_cons (ev_op (by walk_at "ev") (by walk_at "ev") (rv_ixA (ex_a f4 ha3) (atI_nat hx))) (ea_cons (ev_op (by walk_at "ev") (by walk_at "ev") (rv_ixA (ex_a f4 hb3) (atI_nat hy))) ea_nil)) c)))
          (el_lst ea_nil (by decide)) fun p1 p2 H4 g1 g2 f4 => rv_is (rv_eqD (n := 1) (m := 1) (d := .list []) (e := .list []) (.lst (SqL.of g1) .nil) (.lst (SqL.of g2) .nil) (sh_lst fun _ z => nomatch z) (sh_lst fun _ z => nomatch z) (by decide) (by decide)) rfl) fun H4 f4 => k H4 (f03.trans f4)
      · refine q_when (b := false) (et_B (ev_isi2 (by walk_at "ev") tb k1 k2)) (fun z => nomatch z) (fun _ H1 f1 => ?_)
        rcases hc with ⟨rfl, rfl, rfl⟩ | ⟨hb, rfl, hty, hs⟩
        · refine q_when (b := true) (et_is (et_test (ev_op (x := .non) (y := .non) (by walk_at "ev") (by walk_at "ev") (rv_val fun H2 _ Q q => ⟨rfl, q⟩))) (by decide)) (fun _ H2 f2 => ?_) (fun z => nomatch z)
          exact s_ret (v := .bl true) (ev_op (x := .non) (y := .non) (by walk_at "ev") (by walk_at "ev") (rv_val fun H2 _ Q q => ⟨rfl, q⟩)) fun H3 f3 => k H3 ((f1.trans f2).trans f3)
        · refine q_when (b := false) (et_is (et_test (ev_op (x := a) (y := .non) (z := .bl (decide (a = .non))) (by walk_at "ev") (by walk_at "ev") (rv_val fun H2 _ Q q => ⟨rfl, q⟩))) (by simp [hb])) (fun z => nomatch z) (fun _ H2 f2 => ?_)
          have ta2 : TyS K H2 a (.type ty) := fun H3 f3 => ta H3 ((f1.trans f2).trans f3)
          rcases hty with rfl | rfl | rfl
          · refine q_when (b := false) (et_B (ev_cb (by walk_at "ea") (rc_isiB ta2 (by decide +kernel)))) (fun z => nomatch z) (fun _ H3 f3 => ?_)
            have ta3 : TyS K H3 a (.type "int") := fun H4 f4 => ta2 H4 (f3.trans f4)
            refine q_when (b := false) (et_is (a := false || false) (et_or (et_B (ev_cb (by walk_at "ea") (rc_isiB (b := false) ta3 (by decide +kernel)))) (fun _ => et_B (ev_cb (by walk_at "ea") (rc_isiB (b := false) ta3 (by decide +kernel))))) rfl) (fun z => nomatch z) (fun _ H4 f4 => ?_)
            have ta4 : TyS K H4 a (.type "int") := fun H5 f5 => ta3 H5 (f4.trans f5)
            exact s_ret (v := .bl true) (ev_is (ev_andV (a := true) (b := decide (a = a)) (ev_cb (by walk_at "ea") (rc_isiB (b := true) ta4 (by decide +kernel))) (fun _ => ev_op (x := a) (y := a) (by walk_at "ev") (by walk_at "ev") (rv_eq hs))) (by simp)) fun H5 f5 => k H5 ((((f1.trans f2).trans f3).trans f4).trans f5)
          · refine q_when (b := true) (et_B (ev_cb (by walk_at "ea") (rc_isiB ta2 (by decide +kernel)))) (fun _ H3 f3 => ?_) (fun z => nomatch z)
            have ta3 : TyS K H3 a (.type "str") := fun H4 f4 => ta2 H4 (f3.trans f4)
            exact s_ret (v := .bl true) (ev_is (ev_andV (a := true) (b := decide (a = a)) (ev_cb (by walk_at "ea") (rc_isiB (b := true) ta3 (by decide +kernel))) (fun _ => ev_op (x := a) (y := a) (by walk_at "ev") (by walk_at "ev") (rv_eq hs))) (by simp)) fun H4 f4 => k H4 (((f1.trans f2).trans f3).trans f4)
          · refine q_when (b := false) (et_B (ev_cb (by walk_at "ea") (rc_isiB ta2 (by decide +kernel)))) (fun z => nomatch z) (fun _ H3 f3 => ?_)
            have ta3 : TyS K H3 a (.type "bool") := fun H4 f4 => ta2 H4 (f3.trans f4)
            refine q_when (b := true) (et_is (et_or (a := true) (b := true) (et_B (ev_cb (by walk_at "ea") (rc_isiB (b := true) ta3 (by decide +kernel)))) (fun z => nomatch z)) rfl) (fun _ H4 f4 => ?_) (fun z => nomatch z)
            have ta4 : TyS K H4 a (.type "bool") := fun H5 f5 => ta3 H5 (f4.trans f5)
            exact s_ret (v := .bl true) (ev_is (ev_andV (a := true) (b := true && decide (a = a)) (ev_cb (by walk_at "ea") (rc_isiB (b := true) ta4 (by decide +kernel))) (fun _ => ev_andV (a := true) (b := decide (a = a)) (ev_cb (by walk_at "ea") (rc_isiB (b := true) ta4 (by decide +kernel))) (fun _ => ev_op (x := a) (y := a) (by walk_at "ev") (by walk_at "ev") (rv_eq hs)))) (by simp)) fun H5 f5 => k H5 ((((f1.trans f2).trans f3).trans f4).trans f5)

def sp_law_text (K : PySem.W.Frag) : Sp := fun vs H Q _ => ∃ (p q : Addr) (us xs : List V) (ds es : List Deed), vs = [.ref p, .ref q] ∧ SqL K H p us ∧ PV K H us ds ∧ ds.length ≤ 40 ∧ (∀ d ∈ ds, d.ok 4) ∧ SqL K H q xs ∧ PV K H xs es ∧ es.length ≤ 40 ∧ (∀ d ∈ es, d.ok 4) ∧
  ∀ (H' : Hp), Ex H H' → Q (.str (tS (textS ds es))) H'
theorem d_law_text (T : Nb mg) (h : Has K mg "_law_text" s_law_text) : Dn P w K mg base CX0 "_law_text" ["_law_left", "_law_right"] 1 (sp_law_text K) := by
  refine dn_of h (fun f fd F => F.binds fun _ _ _ _ _ _ us hl => match us, hl with | [_, _], _ => rfl) fun f fd F _ => F.ok sc_law_text (fun vs H Q E h => ?_) (fun cdv A outer s H vs Q E hr h => ?_)
  · obtain ⟨_, _, _, _, _, _, rfl, _⟩ := h
    rfl
  obtain ⟨p, q, us, xs, ds, es, rfl, hp, hP, hl, hok, hq, hX, hl2, hok2, k⟩ := h
  refine ⟨_, (pss_cons (ps_set (i := 2) sc_law_text.nd rfl (Or.inl rfl) (pe_lst pa_nil))
    (pss_cons (ps_for PassesOwn.never rfl (pi_tup (pe_tup (pa_cons (pv 0) (pa_cons (pv 1) pa_nil)))) (pg_name (i := 3) sc_law_text.nd rfl (Or.inl rfl))
      (pss_cons (ps_set (i := 4) sc_law_text.nd rfl (Or.inl rfl) (pe_lst pa_nil))
      (pss_cons (ps_for PassesOwn.never rfl (pi_list (pv 3)) (pg_name (i := 5) sc_law_text.nd rfl (Or.inl rfl))
        (pss_one (ps_expr (pe_bm PySem.F.plainAttrs_list PySem.F.slot_list_append PySem.F.type_list_append mt_append (pv 4) (pa_cons (pe_op op_add_str (pe_dget (hu_of hr) (pe_disp (pps_cons pe_str pe_str (pps_cons pe_str pe_str (pps_cons pe_str pe_str pps_nil))) (by rfl) (by rfl) (fun z => by cases z) (by decide)) (pe_ix (ix_tupK K) (pv 5) pe_int (fun _ _ => rfl)) (fun _ _ => rfl)) (pe_join pe_str (pe_lc (own := [("_law_one", 6)]) rfl sc_law_text.nd (pi_tup (pe_slice (sl_tupK K) (pv 5) (po_some pe_int) po_none)) (blkOk_by (own := [("_law_one", 6)]) (N := ["_law_left", "_law_right", "_law_rows", "_law_program_here", "_law_words", "_law_deed_here", "_law_one"]) (sc := defScope s_law_text) (by decide +kernel)) (fun _ _ _ _ _ => (pg_name (i := 6) sc_law_text.nd rfl (Or.inl rfl))) (fun _ _ _ _ _ => pts_nil) (fun _ _ _ _ _ => (pe_callTy call_str_int (by rfl) T.n_str PyProof.Rows.boot_str (pa_cons (pv 6) pa_nil)))))) pa_nil)))))
      (pss_one (ps_expr (pe_bm PySem.F.plainAttrs_list PySem.F.slot_list_append PySem.F.type_list_append mt_append (pv 2) (pa_cons (pe_join pe_str (pv 4)) pa_nil)))))))
    (pss_one (ps_ret (pe_join pe_str (pv 2)))))), ?_⟩
  refine q_asgL (xs := []) (el_lst ea_nil (by decide)) fun rl H1 nrl f1 hrl => ?_
  refine q_forXT (R := fun t H2 => H1 t = none ∧ Ex H1 H2 ∧ H2 t = some (.tup [.ref p, .ref q])) (fun Q z => ⟨_, rfl, _, rfl, by show 2 ≤ sizeLine; decide, fun t nt => z t _ ⟨nt, Ex.new nt, upd_same⟩⟩) fun t H2 ⟨nt, f2, ht⟩ => ?_
  have f12 := f1.trans f2
  refine q_forTn (xs := [.ref p, .ref q]) ev_c (SqT.of ht) (fun i σ' H' => ∃ v3 v4 v5 v6 : Option V, σ' = [some (.ref p), some (.ref q), some (.ref rl), v3, v4, v5, v6] ∧ H' rl = some (.lst ((([rowS ds, rowS es].take i).map tS).map V.str)) ∧ H' t = some (.tup [.ref p, .ref q]) ∧ Ex H H')
    (fun H3 f3 => ⟨_, _, _, _, rfl, f3 _ _ (f2 _ _ hrl), f3 _ _ ht, f12.trans f3⟩) (fun i σ' H' _ ⟨_, _, _, _, _, _, z, _⟩ => SqT.of z) ?_ ?_
  · rintro i x σ' H3 hx ⟨v3, v4, v5, v6, rfl, gr, gt, ge⟩
    have hi : i < 2 := (List.getElem?_eq_some_iff.mp hx).1
    obtain ⟨pp, ps, dl, rfl, hpp, hPP, hll, hokk, hrow⟩ : ∃ (pp : Addr) (ps : List V) (dl : List Deed), x = .ref pp ∧ SqL K H pp ps ∧ PV K H ps dl ∧ dl.length ≤ 40 ∧ (∀ d ∈ dl, d.ok 4) ∧ [rowS ds, rowS es].take (i + 1) = [rowS ds, rowS es].take i ++ [rowS dl] := by
      match i, hi with
      | 0, _ => cases hx; exact ⟨p, us, ds, rfl, hp, hP, hl, hok, rfl⟩
      | 1, _ => cases hx; exact ⟨q, xs, es, rfl, hq, hX, hl2, hok2, rfl⟩
    have lps := hPP.length
    refine q_asgL (xs := []) (el_lst ea_nil (by decide)) fun wl H4 nwl f4 hwl => ?_
    have nrw : rl ≠ wl := ne_of_none gr nwl
    have ntw : t ≠ wl := ne_of_none gt nwl
    have nwl0 : H wl = none := fresh_back ge nwl
    refine q_forLn (xs := ps) (ev_var rfl) (ex_l (ge.trans f4) hpp) (fun j σ' H' => ∃ v5 v6 : Option V, σ' = [some (.ref p), some (.ref q), some (.ref rl), some (.ref pp), some (.ref wl), v5, v6] ∧ H' wl = some (.lst ((((dl.take j).map wd).map tS).map V.str)) ∧ H' rl = some (.lst ((([rowS ds, rowS es].take i).map tS).map V.str)) ∧ H' t = some (.tup [.ref p, .ref q]) ∧ Ex H H')
      (fun H5 f5 => ⟨_, _, rfl, f5 _ _ hwl, f5 _ _ (f4 _ _ gr), f5 _ _ (f4 _ _ gt), (ge.trans f4).trans f5⟩) (fun j σ' H' _ ⟨_, _, _, _, _, _, z⟩ => ex_l z hpp) ?_ ?_
    · rintro j x σ' H5 hx ⟨v5', v6', rfl, gw, gr5, gt5, ge5⟩
      have hj : j < ps.length := (List.getElem?_eq_some_iff.mp hx).1
      obtain ⟨d, hd, a, rfl, dv⟩ := (hPP.mono ge5).get hx
      have ok := hokk d (List.mem_of_getElem? hd)
      have nl := nums_len d
      refine s_app (l := wl) (v := .str (tS (wd d))) gw (ev_var rfl) (fun H6 f6 Q z => fun pd npd => ⟨upd_same, lettersK, rfl, by decide, _, rfl, a, d.vals, 0, .str d.tag, rfl, rfl, ?_, by cases d <;> rfl, pd, .str (tS [d.letter]), rfl, by rw [← letter_at d]; exact DGet.k (k := .inr d.tag) upd_same, ⟨_, rfl⟩, ?_⟩) (by simp; omega) fun H6 f6 => ?_
      · have xd : Ex H6 (upd (upd H6 pd (.dK [])) pd (.dK (mergeK [] lettersK))) := (Ex.new npd).mut npd
        exact ex_t xd (ex_t f6 dv)
      · have xd : Ex H6 (upd (upd H6 pd (.dK [])) pd (.dK (mergeK [] lettersK))) := (Ex.new npd).mut npd
        have dv7 := ex_t xd (ex_t f6 dv)
        generalize upd (upd H6 pd (.dK [])) pd (.dK (mergeK [] lettersK)) = H7 at xd dv7 ⊢
        have hv1 : cutV d.vals (some 1) none = d.nums.map wV := by rw [cut_tail, vals_nums]
        have tl := eu_slT (K := K) (σ := [some (.ref p), some (.ref q), some (.ref rl), some (.ref pp), some (.ref wl), some (.ref a), v6']) (H := H7) (te := tVar 5) (tl := tPart (tC (.int 1))) (th := tNoPart) (lo := some 1) (hi := none) (ev_var rfl) (eo_some ev_c) eo_none dv7 (by cases d <;> (show ¬ ((1 : Nat) = 0 ∧ _); exact fun z => nomatch z.1))
        rw [hv1] at tl
        have key := el_lcNT (K := K) (j := 6) (vs := [6]) (t := tYes) (te := tCB (fun xs H Q => ∃ i : Int, xs = [.int i] ∧ i.natAbs.log2 < 1920 ∧ Q (.str (toString i)) H) (tCons (tVar 6) tNil)) (fun _ => true) (fun i => .str (tS [48 + d.nums.getD i 0])) tl (by simp; omega) (fun x => rfl) (fun i x H1 e hx => fun H2 e2 Q q => q H2 (Ex.refl _)) (fun i x H1 e hx _ => by
          rw [List.getElem?_map] at hx
          cases hc : d.nums[i]? with
          | none => rw [hc] at hx; cases hx
          | some c =>
            rw [hc] at hx
            cases hx
            have c4 : c < 4 := nums_lt ok c (List.mem_of_getElem? hc)
            have e1 : d.nums.getD i 0 = c := by rw [List.getD_eq_getElem?_getD, hc]; rfl
            rw [e1]
            refine ev_cb (ea_cons (ev_var rfl) ea_nil) (fun H2 _ Q q => ⟨(c : Int), rfl, log4 c4, ?_⟩)
            have e2 : (toString (c : Int) : Str) = tS [48 + c] := strI c4
            rw [e2]
            exact q H2 (Ex.refl _))
        have eg : given (d.nums.map wV).length (fun _ => true) (fun i => V.str (tS [48 + d.nums.getD i 0])) = ((d.nums.map fun n => [48 + n]).map tS).map V.str := by
          rw [given_all, List.length_map]
          apply List.ext_getElem
          · simp
          · intro n h1 h2
            simp only [List.length_map, List.length_range] at h1
            simp [List.getD_eq_getElem?_getD, List.getElem?_eq_getElem h1]
        rw [eg] at key
        refine key H7 (Ex.refl _) _ fun pn H8 np8 f8 hpn => ⟨"", pn, (d.nums.map fun n => [48 + n]).map tS, rfl, rfl, .inl (SqL.of hpn), ?_, tS [d.letter], _, rfl, rfl, ?_, ?_⟩
        · have z := sum_lens (d.nums.map fun n => [48 + n]) (m := 1) fun w hw => by
            obtain ⟨n, _, rfl⟩ := List.mem_map.mp hw
            exact Nat.le_refl _
          have e2 : ("" : Str).length = 0 := by decide +kernel
          simp only [List.length_map] at z ⊢
          rw [e2]
          omega
        · rw [txt_join0 (by decide +kernel), tS_len, tS_len]
          have e : ((d.nums.map fun n => [48 + n]).flatten).length ≤ 2 := by cases d <;> simp [Deed.nums]
          rw [List.length_singleton]
          exact Nat.le_trans (by omega : _ ≤ 10) (by decide)
        · rw [txt_join0 (by decide +kernel), tS_app]
          have e := wd_parts d
          have e2 : [d.letter] ++ (d.nums.map fun n => [48 + n]).flatten = wd d := by rw [e]; rfl
          rw [e2]
          exact z H8 (xd.trans f8)
      · have nd : (upd H6 wl (.lst ((((dl.take j).map wd).map tS).map V.str ++ [.str (tS (wd d))]))) rl = some (.lst ((([rowS ds, rowS es].take i).map tS).map V.str)) := by rw [upd_ne nrw]; exact f6 _ _ gr5
        refine ⟨_, _, rfl, ?_, nd, by rw [upd_ne ntw]; exact f6 _ _ gt5, (ge5.trans f6).mut nwl0⟩
        rw [upd_same, List.take_add_one, hd]
        simp
    · rintro σ' H5 ⟨v5', v6', rfl, gw, gr5, gt5, ge5⟩
      rw [List.take_of_length_le (by omega)] at gw
      refine s_app (l := rl) (v := .str (tS (rowS dl))) gr5 (ev_var rfl) (ev_m1 (a := " ") ev_c (ev_var (v := .ref wl) rfl) fun H6 f6 Q z => ⟨" ", wl, (dl.map wd).map tS, rfl, rfl, .inl (SqL.of (f6 _ _ gw)), ?_, by rw [txt_join (c := 32) (by decide +kernel)]; exact z H6 (Ex.refl _)⟩) (by simp; omega) fun H6 f6 => ?_
      · have z := sum_lens (dl.map wd) (m := 3) fun w hw => by
          obtain ⟨d, _, rfl⟩ := List.mem_map.mp hw
          exact wd_len d
        have e2 : (" " : Str).length = 1 := by decide +kernel
        simp only [List.length_map] at z ⊢
        rw [e2]
        omega
      · have ntr : t ≠ rl := ne_of gt5 gr5 (by intro z; cases z)
        refine ⟨_, _, _, _, rfl, ?_, by rw [upd_ne ntr]; exact f6 _ _ gt5, (ge5.trans f6).mut nrl⟩
        rw [upd_same, hrow]
        simp
  · rintro σ' H3 ⟨v3, v4, v5, v6, rfl, gr, gt, ge⟩
    have gr : H3 rl = some (.lst (([rowS ds, rowS es].map tS).map V.str)) := gr
    have l1 := row_len ds
    have l2 := row_len es
    refine ⟨⟨_, rfl⟩, _, rfl, "\n", rl, [rowS ds, rowS es].map tS, rfl, rfl, .inl (SqL.of gr), ?_, ?_⟩
    · have z := sum_lens [rowS ds, rowS es] (m := 160) fun w hw => by
        simp only [List.mem_cons, List.not_mem_nil, or_false] at hw
        rcases hw with rfl | rfl <;> omega
      have e2 : ("\n" : Str).length = 1 := by decide +kernel
      simp only [List.length_map] at z ⊢
      rw [e2]
      simp at z ⊢
      omega
    · rw [txt_join (c := 10) (by decide +kernel)]
      exact k H3 ge

/-- the deed of a word; None -/
def sp_law_word (K : PySem.W.Frag) : Sp := fun vs H Q _ => ∃ (l : List Nat), vs = [.str (tS l)] ∧ ∀ (v : V) (H' : Hp), Ex H H' → (deedOf l = none → v = .non) → (∀ d, deedOf l = some d → DV K H' v d) → Q v H'
theorem d_law_word (T : Nb mg) (h : Has K mg "_law_word" s_law_word) : Dn P w K mg base CX0 "_law_word" ["_law_word_here"] 1 (sp_law_word K) := by
  refine dn_of h (fun f fd F => F.binds fun _ _ _ _ _ _ us hl => match us, hl with | [_], _ => rfl) fun f fd F _ => F.ok sc_law_word (fun vs H Q E h => ?_) (fun cdv A outer s H vs Q E hr h => ?_)
  · obtain ⟨_, rfl, _⟩ := h
    rfl
  obtain ⟨l, rfl, k⟩ := h
  refine ⟨_, (pss_cons (ps_set (i := 1) sc_law_word.nd rfl (Or.inl rfl) (pe_disp (pps_cons pe_str (pe_tup (pa_cons pe_str pa_nil)) pps_nil) (by rfl) (by rfl) (fun z => by cases z) (by decide)))
    (pss_cons (ps_for PassesOwn.never rfl (pi_range1 rfl T.n_range (pa_cons pe_int pa_nil)) (pg_name (i := 2) sc_law_word.nd rfl (Or.inl rfl))
      (pss_cons (ps_dput (hu_of hr) (pv 1) (pe_op op_add_str pe_str (pe_callTy call_str_int (by rfl) T.n_str PyProof.Rows.boot_str (pa_cons (pv 2) pa_nil))) (pe_tup (pa_cons pe_str (pa_cons (pv 2) pa_nil))) rfl)
      (pss_one (ps_for PassesOwn.never rfl (pi_range1 rfl T.n_range (pa_cons pe_int pa_nil)) (pg_name (i := 3) sc_law_word.nd rfl (Or.inl rfl))
        (pss_one (ps_dput (hu_of hr) (pv 1) (pe_op op_add_str (pe_op op_add_str pe_str (pe_callTy call_str_int (by rfl) T.n_str PyProof.Rows.boot_str (pa_cons (pv 2) pa_nil))) (pe_callTy call_str_int (by rfl) T.n_str PyProof.Rows.boot_str (pa_cons (pv 3) pa_nil))) (pe_tup (pa_cons pe_str (pa_cons (pv 2) (pa_cons (pv 3) pa_nil)))) rfl))))))
    (pss_one (ps_ret (pe_dget1 (hu_of hr) (pv 1) (pv 0) ⟨rfl, rfl, rfl, rfl⟩))))), ?_⟩
  refine fun D nD => ⟨by show 1 ≤ sizeLine; decide, fun t nt => ⟨Ex.new nt _ _ upd_same, [(.inr "-", .ref t)], rfl, by simp, ?_⟩⟩
  refine gn ?_
  dsimp only
  have tD : t ≠ D := fun z => by rw [z, upd_same] at nt; cases nt
  have hnone : H t = none := by rw [← nt, upd_ne tD]
  have ew : ("-" : Str) = tS (wd .rs) := by decide +kernel
  have xD : Ex H (upd (upd (upd H D (.dK [])) t (.tup [.str "rest"])) D (.dK (mergeK [] [(.inr "-", .ref t)]))) := ((Ex.new nD).trans (Ex.new nt)).mut nD
  have hD0 : (upd (upd (upd H D (.dK [])) t (.tup [.str "rest"])) D (.dK (mergeK [] [(.inr "-", .ref t)]))) D = some (.dK [(.inr (tS (wd .rs)), .ref t)]) := by rw [upd_same, ew]; rfl
  have ht0 : (upd (upd (upd H D (.dK [])) t (.tup [.str "rest"])) D (.dK (mergeK [] [(.inr "-", .ref t)]))) t = some (.tup [.str "rest"]) := by rw [upd_ne tD]; exact upd_same
  generalize upd (upd (upd H D (.dK [])) t (.tup [.str "rest"])) D (.dK (mergeK [] [(.inr "-", .ref t)])) = H1 at xD hD0 ht0 ⊢
  have W0 : DW K H1 [(.inr (tS (wd .rs)), .ref t)] fun e => e ∈ allD 0 := by
    refine ⟨fun d hd => ?_, fun k v hk => ?_⟩
    · have e : d = .rs := by simpa [allD] using hd
      subst e
      exact ⟨.ref t, by simp [valV], t, rfl, SqT.of ht0⟩
    · refine ⟨.rs, by simp [allD], ?_⟩
      unfold valV at hk
      by_cases z : (Sum.inr (tS (wd .rs)) : Key) = k
      · exact z.symm
      · simp [z] at hk
  refine q_forR1 (n := 4) (ea_cons ev_c ea_nil) (by omega) (fun i σ' H' => ∃ (v2 v3 : Option V) (kvs : List (Key × V)), σ' = [some (.str (tS l)), some (.ref D), v2, v3] ∧ H' D = some (.dK kvs) ∧ DW K H' kvs (fun e => e ∈ allD i) ∧ kvs.length ≤ 1 + 4 * i ∧ Ex H H')
    (fun H2 f2 => ⟨none, none, _, rfl, f2 _ _ hD0, W0.mono f2, by simp, xD.trans f2⟩) ?_ ?_
  · rintro i σ' H2 hi ⟨v2, v3, kvs, rfl, gD, gW, gl, ge⟩
    have hi4 : i < 4 := by omega
    have er : ("r" : Str) ++ (toString (i : Int) : Str) = tS (wd (.rd i)) := by rw [strI' hi4, show ("r" : Str) = tS [114] by decide +kernel, tS_app]; rfl
    refine ⟨_, rfl, by show 2 ≤ sizeLine; decide, fun u nu => ?_⟩
    have x1 := Ex.new (o := .tup [.str "read", .int (i : Nat)]) nu
    have hu := upd_same (H := H2) (a := u) (o := .tup [.str "read", .int (i : Nat)])
    generalize upd H2 u (.tup [.str "read", .int (i : Nat)]) = H3 at x1 hu ⊢
    refine ⟨_, rfl, _, rfl, (i : Int), rfl, log4 hi4, _, _, rfl, rfl, ?_, D, upd H3 D (.dK (putK kvs (.inr (tS (wd (.rd i)))) (.ref u))), rfl, ?_, ?_⟩
    · have e1 : ("r" : Str).length = 1 := by decide +kernel
      have e2 := congrArg (fun z : Str => z.length) (strI' hi4)
      rw [tS_len] at e2
      have := sizeLine_eq
      refine Nat.le_trans (Nat.le_of_eq (sum2 e1 e2)) ?_
      show 1 + 1 ≤ sizeLine
      decide
    · rw [er]
      exact DPut.k (k := .inr (tS (wd (.rd i)))) (x1 _ _ gD) (by rw [sizeLine_eq]; omega)
    have gD3 := x1 _ _ gD
    have dv : DV K H3 (.ref u) (.rd i) := ⟨u, rfl, SqT.of hu⟩
    have W1 := DW.putIn gD3 (gW.mono x1) dv
    have l1 := putK_le kvs (.inr (tS (wd (.rd i)))) (.ref u)
    have ge1 : Ex H (upd H3 D (.dK (putK kvs (.inr (tS (wd (.rd i)))) (.ref u)))) := (ge.trans x1).mut nD
    have gD4 := upd_same (H := H3) (a := D) (o := .dK (putK kvs (.inr (tS (wd (.rd i)))) (.ref u)))
    generalize putK kvs (.inr (tS (wd (.rd i)))) (.ref u) = kv1 at W1 l1 ge1 gD4 ⊢
    generalize upd H3 D (.dK kv1) = H4 at W1 ge1 gD4 ⊢
    refine s_forR1 (n := 3) (ea_cons ev_c ea_nil) (by omega) (fun j σ' H' => ∃ (v3 : Option V) (kvs : List (Key × V)), σ' = [some (.str (tS l)), some (.ref D), some (.int (i : Nat)), v3] ∧ H' D = some (.dK kvs) ∧ DW K H' kvs (fun e => e ∈ allD i ++ (cellD i).take (j + 1)) ∧ kvs.length ≤ 2 + 4 * i + j ∧ Ex H H')
      (fun H5 f5 => ⟨_, _, rfl, f5 _ _ gD4, W1.mono f5, by omega, ge1.trans f5⟩) ?_ ?_
    · rintro j σ' H5 hj ⟨v3', kv2, rfl, gD5, gW5, gl5, ge5⟩
      have hj3 : j < 3 := by omega
      have hj4 : j < 4 := by omega
      have ew2 : ("w" : Str) ++ (toString (i : Int) : Str) ++ (toString (j : Int) : Str) = tS (wd (.wr i j)) := by rw [strI' hi4, strI' hj4, show ("w" : Str) = tS [119] by decide +kernel, tS_app, tS_app]; rfl
      refine ⟨_, rfl, _, rfl, by show 3 ≤ sizeLine; decide, fun u2 nu2 => ?_⟩
      have x2 := Ex.new (o := .tup [.str "write", .int (i : Nat), .int (j : Nat)]) nu2
      have hu2 := upd_same (H := H5) (a := u2) (o := .tup [.str "write", .int (i : Nat), .int (j : Nat)])
      generalize upd H5 u2 (.tup [.str "write", .int (i : Nat), .int (j : Nat)]) = H6 at x2 hu2 ⊢
      have e1 : ("w" : Str).length = 1 := by decide +kernel
      refine ⟨_, rfl, _, rfl, (i : Int), rfl, log4 hi4, _, _, rfl, rfl, ?_, _, rfl, (j : Int), rfl, log4 hj4, _, _, rfl, rfl, ?_, D, upd H6 D (.dK (putK kv2 (.inr (tS (wd (.wr i j)))) (.ref u2))), rfl, ?_, ?_⟩
      · have e2 := congrArg (fun z : Str => z.length) (strI' hi4)
        rw [tS_len] at e2
        refine Nat.le_trans (Nat.le_of_eq (sum2 e1 e2)) ?_
        show 1 + 1 ≤ sizeLine
        decide
      · have e2 := congrArg (fun z : Str => z.length) (strI' hi4)
        have e3 := congrArg (fun z : Str => z.length) (strI' hj4)
        rw [tS_len] at e2 e3
        refine Nat.le_trans (Nat.le_of_eq (sum2 ((app_len _ _).trans (sum2 e1 e2)) e3)) ?_
        show 1 + 1 + 1 ≤ sizeLine
        decide
      · rw [ew2]
        exact DPut.k (k := .inr (tS (wd (.wr i j)))) (x2 _ _ gD5) (by rw [sizeLine_eq]; omega)
      have gD6 := x2 _ _ gD5
      have dv2 : DV K H6 (.ref u2) (.wr i j) := ⟨u2, rfl, SqT.of hu2⟩
      have W2 := DW.putIn gD6 (gW5.mono x2) dv2
      have l2 := putK_le kv2 (.inr (tS (wd (.wr i j)))) (.ref u2)
      refine ⟨_, _, rfl, upd_same, W2.iff fun e => ?_, by omega, (ge5.trans x2).mut nD⟩
      have et : (cellD i).take (j + 1 + 1) = (cellD i).take (j + 1) ++ [.wr i j] := by
        match j, hj3 with
        | 0, _ => rfl
        | 1, _ => rfl
        | 2, _ => rfl
      rw [et, List.append_assoc]
    · rintro σ' H5 ⟨v3', kv2, rfl, gD5, gW5, gl5, ge5⟩
      have gl5 : kv2.length ≤ 2 + 4 * i + 3 := gl5
      exact ⟨_, _, kv2, rfl, gD5, gW5.iff fun e => by rw [allD_succ]; rfl, by omega, ge5⟩
  · rintro σ' H2 ⟨v2, v3, kvs, rfl, gD, gW, gl, ge⟩
    have W : DW K H2 kvs fun d => d.ok 4 := gW.iff fun d => allD_mem d
    cases hd : deedOf l with
    | none =>
      refine ⟨_, rfl, D, rfl, .inl ⟨kvs, .inl gD⟩, _, rfl, _, DGet.k (k := .inr (tS l)) gD, ?_⟩
      rw [W.none hd]
      exact k .non H2 ge (fun _ => rfl) (fun d z => by rw [hd] at z; cases z)
    | some d =>
      obtain ⟨ok, e⟩ := deedOf_ok hd
      obtain ⟨v, hv, dv⟩ := W.has d ok
      rw [e] at hv
      refine ⟨_, rfl, D, rfl, .inl ⟨kvs, .inl gD⟩, _, rfl, _, DGet.k (k := .inr (tS l)) gD, ?_⟩
      rw [hv]
      exact k v H2 ge (fun z => by rw [hd] at z; cases z) (fun d' z => by rw [hd] at z; cases z; exact dv)

/-- what read tells, or the refusal's row and place -/
def sp_law_told (K : PySem.W.Frag) : Sp := fun vs H Q _ => ∃ (l : List Nat), vs = [.str (tS l)] ∧ l.length ≤ 16000000 ∧ ∀ (v : V) (H' : Hp), Ex H H' → Dp K H' v (datR (readD l)) → Q v H'
theorem d_law_told {aDoorError aBadMemory aBadOrder aBadProgram aBadRule aTooMany aBadText fI : Addr} (T : Nb mg) (Z : ClsG K mg aDoorError aBadMemory aBadOrder aBadProgram aBadRule aTooMany aBadText) (Y : TxtE K aBadMemory aBadOrder aBadProgram aBadRule aTooMany aBadText)
    (X_BadText : OwnX K mg "BadText" aBadText aDoorError fI "row" "place") (D_read : Dn P w K mg base (L2.CX P w) "read" ["text"] 4 (sp_readX K aBadText)) (h : Has K mg "_law_told" s_law_told) : Dn P w K mg base CX0 "_law_told" ["_law_text_here"] 5 (sp_law_told K) := by
  refine dn_of h (fun f fd F => F.binds fun _ _ _ _ _ _ us hl => match us, hl with | [_], _ => rfl) fun f fd F _ => F.ok sc_law_told (fun vs H Q E h => ?_) (fun cdv A outer s H vs Q E hr h => ?_)
  · obtain ⟨_, rfl, _⟩ := h
    rfl
  obtain ⟨l, rfl, hl, k⟩ := h
  refine ⟨_, (pss_one (ps_try_as (i := 1) rfl rfl sc_law_told.nd rfl rfl ⟨rfl, by decide +kernel, .inl Z.g_DoorError⟩ takes0 (fun W pn xe tk _ =>
      (pss_one (ps_ret (pe_dnS D_read hr (by omega) (fun σ => passAt tk σ) (pa_cons (pv 0) pa_nil))))) (fun a oe cls d pn hz hf =>
      (pss_cons (ps_set (i := 2) sc_law_told.nd rfl (Or.inl rfl) (pe_callB (call_isDT hz hf) (by rfl) T.n_isinstance PyProof.Rows.boot_isinstance (pa_cons (pv 1) (pa_cons (pe_tup (pa_cons (pe_glob (v := .ref aBadMemory) rfl Z.g_BadMemory rfl) (pa_cons (pe_glob (v := .ref aBadOrder) rfl Z.g_BadOrder rfl) (pa_cons (pe_glob (v := .ref aBadProgram) rfl Z.g_BadProgram rfl) (pa_cons (pe_glob (v := .ref aBadRule) rfl Z.g_BadRule rfl) (pa_cons (pe_glob (v := .ref aTooMany) rfl Z.g_TooMany rfl) pa_nil)))))) pa_nil))))
      (pss_cons (ps_if (PW.pt (pw_or (pt_not (pt_val (pe_callB (call_isD hz hf) (by rfl) T.n_isinstance PyProof.Rows.boot_isinstance (pa_cons (pv 1) (pa_cons (pe_glob (v := .ref aBadText) rfl Z.g_BadText rfl) pa_nil))))) (pw_or (pt_not (pt_val (pe_callB (call_isD hz hf) (by rfl) T.n_isinstance PyProof.Rows.boot_isinstance (pa_cons (pv 1) (pa_cons (pe_bltn (v := .ty "ValueError") rfl Z.n_VE (by rfl) rfl) pa_nil))))) (pw_or1 (pt_val (pv 2)))))) (pss_one (ps_ret (pe_tup (pa_cons pe_str (pa_cons pe_int (pa_cons pe_int pa_nil)))))) pss_nil)
      (pss_one (ps_ret (pe_tup (pa_cons pe_str (pa_cons (pe_xf X_BadText.Xf X_BadText.n1 hz hf (pv 1)) (pa_cons (pe_xf X_BadText.Xf X_BadText.n2 hz hf (pv 1)) pa_nil))))))))))), ?_⟩
  refine ⟨_, rfl, l, rfl, hl, fun ds es e t p q us xs H' f ht hp hP hq hX => ?_, fun r j e d H' nd f hd => ⟨true, X_BadText.te, fun _ a na => ?_, fun z => Bool.noConfusion z⟩⟩
  · rw [e] at k
    exact k _ _ f (Dp.tup (SqT.of ht) (.cons (PV.dp (SqL.of hp) hP) (.cons (PV.dp (SqL.of hq) hX) .nil)))
  rw [e] at k
  have dk : ∀ {H1 : Hp}, Ex H' H1 → DctOk (some d) H1 := fun x => ⟨_, x _ _ hd⟩
  have hall : PySem.W.kitAny K (.ref aBadText) [.ref aBadMemory, .ref aBadOrder, .ref aBadProgram, .ref aBadRule, .ref aTooMany] = some false :=
    kitAny_cons Y.k1 (fun _ => kitAny_cons Y.k2 (fun _ => kitAny_cons Y.k3 (fun _ => kitAny_cons Y.k4 (fun _ => kitAny_cons Y.k5 (fun _ => rfl) (fun z => Bool.noConfusion z)) (fun z => Bool.noConfusion z)) (fun z => Bool.noConfusion z)) (fun z => Bool.noConfusion z)) (fun z => Bool.noConfusion z)
  refine ⟨_, rfl, by show 5 ≤ sizeLine; decide, fun tp ntp => ⟨aBadText, tp, _, _, false, rfl, rfl, Y.ic, dk (Ex.new ntp), upd_same, .cons (.own _) (.cons (.own _) (.cons (.own _) (.cons (.own _) (.cons (.own _) .nil)))), hall, ?_⟩⟩
  refine gn ?_
  dsimp only
  have x1 := Ex.new (o := .tup [.ref aBadMemory, .ref aBadOrder, .ref aBadProgram, .ref aBadRule, .ref aTooMany]) ntp
  refine q_when (b := false) (et_is (et_or (a := false) (b := false) (et_is (et_not (a := true) (et_test (ev_cb (ea_cons (ev_var rfl) (ea_cons ev_c ea_nil)) fun H1 e1 Q z => ⟨aBadText, _, _, true, rfl, rfl, Y.ic, dk (x1.trans e1), .own _, Y.k6, z H1 (Ex.refl _)⟩))) rfl)
    (fun _ => et_is (et_or (a := false) (b := false) (et_is (et_not (a := true) (et_test (ev_cb (ea_cons (ev_var rfl) (ea_cons ev_c ea_nil)) fun H1 e1 Q z => ⟨aBadText, _, _, true, rfl, rfl, Y.ic, dk (x1.trans e1), .ty _, Y.k7, z H1 (Ex.refl _)⟩))) rfl) (fun _ => et_test (ev_var rfl))) rfl)) rfl) (fun z => nomatch z) (fun _ H1 f1 => ?_)
  have x2 := x1.trans f1
  refine ⟨_, rfl, rfl, rfl, d, _, _, rfl, x2 _ _ hd, rfl, _, rfl, rfl, rfl, d, _, _, rfl, x2 _ _ hd, rfl, by show 3 ≤ sizeLine; decide, fun t nt => ?_⟩
  exact k _ _ ((f.trans x2).trans (Ex.new nt)) (Dp.tup (SqT.of upd_same) (.cons (.str _) (.cons (.int _) (.cons (.int _) .nil))))

/-- what a text tells, by the law's own reader -/
def sp_law_due (K : PySem.W.Frag) : Sp := fun vs H Q _ => ∃ (l : List Nat), vs = [.str (tS l)] ∧ l.length ≤ 16000000 ∧ wt spc l ≤ 1000 ∧ ∀ (v : V) (H' : Hp), Ex H H' → Dp K H' v (datR (readD l)) → Q v H'
theorem d_law_due (T : Nb mg) (D_law_word : Dn P w K mg base CX0 "_law_word" ["_law_word_here"] 1 (sp_law_word K)) (h : Has K mg "_law_due" s_law_due) : Dn P w K mg base CX0 "_law_due" ["_law_text_here"] 2 (sp_law_due K) := by
  refine dn_of h (fun f fd F => F.binds fun _ _ _ _ _ _ us hl => match us, hl with | [_], _ => rfl) fun f fd F _ => F.ok sc_law_due (fun vs H Q E h => ?_) (fun cdv A outer s H vs Q E hr h => ?_)
  · obtain ⟨_, rfl, _⟩ := h
    rfl
  obtain ⟨l, rfl, hl, hw, k⟩ := h
  refine ⟨_, (pss_cons (ps_set (i := 1) sc_law_due.nd rfl (Or.inl rfl) (pe_split (pv 0) pe_str))
    (pss_cons (ps_set (i := 2) sc_law_due.nd rfl (Or.inl rfl) (pe_lst pa_nil))
    (pss_cons (ps_for PassesOwn.never rfl (pi_range1 rfl T.n_range (pa_cons (pe_callB (call_min2 rfl) (by rfl) T.n_min PyProof.Rows.boot_min (pa_cons pe_int (pa_cons (pe_callB (call_len_seqK K) (by rfl) T.n_len PySem.boot_len (pa_cons (pv 1) pa_nil)) pa_nil))) pa_nil)) (pg_name (i := 3) sc_law_due.nd rfl (Or.inl rfl))
      (pss_cons (ps_set (i := 4) sc_law_due.nd rfl (Or.inl rfl) (pe_ifExp (pt_cmpR op_ne (pe_ix (ix_listK K) (pv 1) (pv 3) (fun _ _ => rfl)) pe_str (nomark _)) (pe_split (pe_ix (ix_listK K) (pv 1) (pv 3) (fun _ _ => rfl)) pe_str) (pe_lst pa_nil)))
      (pss_cons (ps_set (i := 5) sc_law_due.nd rfl (Or.inr rfl) (pe_slice sl_list (pe_lc (own := [("_law_word_here", 8)]) rfl sc_law_due.nd (pi_list (pv 4)) (blkOk_by (own := [("_law_word_here", 8)]) (N := ["_law_text_here", "_law_rows", "_law_found", "_law_k", "_law_words", "_law_deeds", "_law_bad", "_law_place", "_law_word_here"]) (sc := defScope s_law_due) (by decide +kernel)) (fun _ _ _ _ _ => (pg_name (i := 8) sc_law_due.nd rfl (Or.inl rfl))) (fun _ _ _ _ _ => pts_nil) (fun _ _ _ _ _ => (pe_dn D_law_word hr (by omega) pass0 (pa_cons (pv 8) pa_nil)))) po_none (po_some pe_int)))
      (pss_cons (ps_setLc (i := 6) (own := [("_law_place", 7)]) rfl sc_law_due.nd rfl rfl (sw_true rfl rfl rfl (by decide +kernel)) (pi_range1 rfl T.n_range (pa_cons (pe_callB (call_len_seqK K) (by rfl) T.n_len PySem.boot_len (pa_cons (pv 5) pa_nil)) pa_nil)) (blkOk_by (own := [("_law_place", 7)]) (N := ["_law_text_here", "_law_rows", "_law_found", "_law_k", "_law_words", "_law_deeds", "_law_bad", "_law_place", "_law_word_here"]) (sc := defScope s_law_due) (by decide +kernel)) (fun _ _ _ _ _ => (pg_name (i := 7) sc_law_due.nd rfl (Or.inl rfl))) (fun _ _ _ _ _ => pts_one (PW.pt (pw_or (pt_cmpR op_isN (pe_ix (ix_listK K) (pv 5) (pv 7) (fun _ _ => rfl)) pe_non (nomark _)) (pw_or1 (pt_cmpR op_eq (pv 7) pe_int (nomark _)))))) (fun _ _ _ _ _ => (pv 7)))
      (pss_cons (ps_if (pt_cmpR (op_neDK K rfl hr.units) (pv 6) (pe_lst pa_nil) (nomark _)) (pss_one (ps_ret (pe_tup (pa_cons pe_str (pa_cons (pv 3) (pa_cons (pe_ix (ix_listK K) (pv 6) pe_int (fun _ _ => rfl)) pa_nil)))))) pss_nil)
      (pss_one (ps_expr (pe_bm PySem.F.plainAttrs_list PySem.F.slot_list_append PySem.F.type_list_append mt_append (pv 2) (pa_cons (pv 5) pa_nil)))))))))
    (pss_cons (ps_if (pt_cmpR op_ne (pe_callB (call_len_seqK K) (by rfl) T.n_len PySem.boot_len (pa_cons (pv 1) pa_nil)) pe_int (nomark _)) (pss_one (ps_ret (pe_tup (pa_cons pe_str (pa_cons (pe_ix (ix_listK K) (pe_lst (pa_cons pe_int (pa_cons pe_int pa_nil))) (pe_callTy call_int1 (by rfl) T.n_int PyProof.Rows.boot_int (pa_cons (pe_cmpR op_gt (pe_callB (call_len_seqK K) (by rfl) T.n_len PySem.boot_len (pa_cons (pv 1) pa_nil)) pe_int (nomark _)) pa_nil)) (fun _ _ => rfl)) (pa_cons pe_int pa_nil)))))) pss_nil)
    (pss_one (ps_ret (pe_tup (pa_cons (pe_ix (ix_listK K) (pv 2) pe_int (fun _ _ => rfl)) (pa_cons (pe_ix (ix_listK K) (pv 2) pe_int (fun _ _ => rfl)) pa_nil))))))))), ?_⟩
  refine q_asgL (el_split (c := 10) (by decide +kernel) (ev_var rfl) ev_c hl) fun rl H1 nrl f1 hrl => ?_
  refine q_asgL (xs := []) (el_lst ea_nil (by decide)) fun fl H2 nfl f2 hfl => ?_
  have hrl2 := f2 _ _ hrl
  have f12 := f1.trans f2
  have nfl0 : H fl = none := fresh_back f1 nfl
  have nrf : rl ≠ fl := ne_of_none hrl nfl
  have hn1 := words_ne 10 l
  have hn2 := words_le10 l
  have rb := @readD_bad l
  have re := @readD_end l
  have rw0 : ∀ r ∈ wordsOf 10 l, r.length ≤ l.length ∧ wt spc r ≤ wt spc l := fun r hr => ⟨row_le_text hr, wt_word hr⟩
  generalize hws : wordsOf 10 l = ws at hrl hrl2 hn1 hn2 rb re rw0
  have hnp : 0 < ws.length := List.length_pos_iff.mpr hn1
  refine q_forR1 (n := ((min 2 ws.length : Nat) : Int)) (ea_cons (ev_is (ev_cb (ea_cons ev_c (ea_cons (ev_cb (ea_cons (ev_var (v := .ref rl) rfl) ea_nil) (rc_lenL (SqL.of hrl2))) ea_nil)) rc_min) (by
      congr 1
      rw [List.length_map, List.length_map]
      split <;> omega)) ea_nil) (by omega)
    (fun i σ' H' => ∃ (v3 v4 v5 v6 v7 v8 : Option V) (fs : List V) (dss : List (List Deed)), σ' = [some (.str (tS l)), some (.ref rl), some (.ref fl), v3, v4, v5, v6, v7, v8] ∧ H' rl = some (.lst ((ws.map tS).map V.str)) ∧ H' fl = some (.lst fs) ∧ Paired (PL K fl H') fs dss ∧ (ws.take i).map progD = dss.map .ok ∧ fs.length = i ∧ Ex H H')
    (fun H3 f3 => ⟨_, _, _, _, _, _, [], [], rfl, f3 _ _ hrl2, f3 _ _ hfl, .nil, rfl, rfl, f12.trans f3⟩) ?_ ?_
  · rintro i σ' H3 hi ⟨v3, v4, v5, v6, v7, v8, fs, dss, rfl, gr, gf, gP, gd, gn0, ge⟩
    have hi2 : i < 2 := by omega
    have hiw : i < ws.length := by omega
    obtain ⟨r, hr⟩ : ∃ r, ws[i]? = some r := ⟨ws[i], List.getElem?_eq_getElem hiw⟩
    have hxr : ((ws.map tS).map V.str)[i]? = some (.str (tS r)) := by rw [List.getElem?_map, List.getElem?_map, hr]; rfl
    obtain ⟨hrl1, hrl3⟩ := rw0 r (List.mem_of_getElem? hr)
    have e0 : ("" : Str) = tS [] := by decide +kernel
    have evr : ∀ {σ : L2.St} {H' : Hp}, σ[1]? = some (some (.ref rl)) → σ[3]? = some (some (.int (i : Int))) → H' rl = some (.lst ((ws.map tS).map V.str)) → Ev (tOp (rIxL K) (tVar 1) (tVar 3)) σ H' (.str (tS r)) := fun h1 h2 h3 => ev_op (ev_var h1) (ev_var h2) (rv_ixL (SqL.of h3) (atI_nat hxr))
    -- words
    refine q_asgL (xs := ((wsk r).map tS).map V.str) (el_if (b := decide (r ≠ [])) (et_test (ev_is (ev_op (x := .str (tS r)) (y := .str "") (evr rfl rfl gr) ev_c (rv_ne rfl)) (by rw [e0, tS_is]; simp)))
      (fun hb => by
        have e : wsk r = wordsOf 32 r := if_neg (of_decide_eq_true hb)
        rw [e]
        exact el_split (c := 32) (by decide +kernel) (evr rfl rfl gr) ev_c (by omega))
      (fun hb => by
        have e : wsk r = [] := if_pos (by simpa using hb)
        rw [e]
        exact el_lst ea_nil (by decide))) fun wl H4 nwl f4 hwl => ?_
    have hwk : (wsk r).length ≤ 1001 := by
      unfold wsk
      split
      · simp
      · have := words_le32 r; omega
    have hpw := progD_wsk r
    have hwlen : ∀ x ∈ wsk r, True := fun _ _ => trivial
    generalize wsk r = ks at hwl hwk hpw
    have ge4 := ge.trans f4
    -- deeds
    refine ⟨_, rfl, wl, rfl, ⟨_, SqL.of hwl⟩, fun L nL => ?_⟩
    refine it_list (xs := (ks.map tS).map V.str) (fun j X => ∃ bs, X L = some (.lst bs) ∧ Paired (OD K X) bs ((ks.map deedOf).take j) ∧ Ex H4 X ∧ bs.length = j) ⟨[], upd_same, .nil, Ex.new nL, rfl⟩ (fun j X _ ⟨_, _, _, e, _⟩ => SqL.of (e _ _ hwl)) ?_ ?_
    · rintro j x X hj ⟨bs, hb, hB, eX, hn⟩
      have hjk : j < ks.length := by have := (List.getElem?_eq_some_iff.mp hj).1; simpa using this
      obtain ⟨u, hu⟩ : ∃ u, ks[j]? = some u := ⟨ks[j], List.getElem?_eq_getElem hjk⟩
      have ex : x = .str (tS u) := by
        rw [List.getElem?_map, List.getElem?_map, hu] at hj
        exact (Option.some.inj hj).symm
      subst ex
      refine gn ?_
      refine ⟨rfl, _, rfl, u, rfl, fun v Y eY hv1 hv2 => ?_⟩
      have hb2 := eY _ _ hb
      have b2 : Bt [L] Y (upd Y L (.lst (bs ++ [v]))) := (Bt.refl Y).set (by simp)
      have l2 : ∀ q ∈ [L], ∃ us, Y q = some (.lst us) := by simp [hb2]
      have ov : OD K Y v (deedOf u) := by
        cases hd : deedOf u with
        | none => exact hv1 hd
        | some d => exact hv2 d hd
      refine ⟨bs, hb2, by show bs.length < 2 ^ 24; omega, bs ++ [v], upd_same, ?_, (eX.trans eY).mut nL, by rw [List.length_append, hn]; rfl⟩
      have et : (ks.map deedOf).take (j + 1) = (ks.map deedOf).take j ++ [deedOf u] := by
        rw [List.take_add_one, List.getElem?_map, hu]
        rfl
      rw [et]
      exact paired_app (Paired.mapP hB fun _ _ z => (z.mono eY).buts b2 l2) (.cons (ov.buts b2 l2) .nil)
    rintro X ⟨bs, hb, hB, eX, hn⟩
    rw [List.take_of_length_le (by simp)] at hB
    refine ⟨_, rfl, L, bs, rfl, SqL.of hb, fun dl ndl => ?_⟩
    refine gn ?_
    dsimp only
    rw [show cutV bs none (some 41) = bs.take 41 from cutV_to bs 41]
    have hB2 := paired_take 41 hB
    have x1 := Ex.new (o := .lst (bs.take 41)) ndl
    have hB3 := Paired.mapP hB2 fun _ _ z => z.mono x1
    have hdl := upd_same (H := X) (a := dl) (o := .lst (bs.take 41))
    have gf' := x1 _ _ (eX _ _ (f4 _ _ gf))
    have gr' := x1 _ _ (eX _ _ (f4 _ _ gr))
    have ge' := (ge4.trans eX).trans x1
    have f35 := (f4.trans eX).trans x1
    have ndf : dl ≠ fl := (ne_of_none (eX _ _ (f4 _ _ gf)) ndl).symm
    have hlen : (bs.take 41).length = min 41 ks.length := by
      rw [List.length_take, hn]; simp
    generalize bs.take 41 = cs at hB3 hdl hlen gf' gr' ge' f35 ⊢
    generalize upd X dl (.lst cs) = H5 at hB3 hdl gf' gr' ge' f35 ⊢
    -- bad places
    refine q_asgL (xs := given ((cs.length : Nat) : Int).toNat (badAt ks) wV) (el_lcR1 (badAt ks) wV (ea_cons (ev_cb (ea_cons (ev_var (v := .ref dl) rfl) ea_nil) (rc_lenL (SqL.of hdl))) ea_nil) (by omega) (fun x => rfl) (fun p H6 f6 hp => by
        have hp2 : p < cs.length := by omega
        obtain ⟨v, hv⟩ : ∃ v, cs[p]? = some v := ⟨cs[p], List.getElem?_eq_getElem hp2⟩
        obtain ⟨o, ho, hod⟩ := paired_get hB3 hv
        have eo : ((ks.map deedOf).take 41).getD p none = o := by rw [List.getD_eq_getElem?_getD, ho]; rfl
        unfold badAt
        rw [eo, ← hod.isn]
        refine et_is (et_or (et_test (ev_op (x := v) (y := .non) (ev_op (ev_var rfl) (ev_var (v := .int (p : Int)) rfl) (rv_ixL (SqL.of (f6 _ _ hdl)) (atI_nat hv))) ev_c (fun H7 _ Q z => ⟨rfl, z H7 (Ex.refl _)⟩))) (fun _ => et_test (ev_op (x := .int (p : Int)) (y := .int 40) (ev_var rfl) ev_c (rv_eq rfl)))) ?_
        congr 1
        exact decide_eq_decide.mpr ⟨fun z => by have := V.int.inj z; omega, fun z => by rw [z]; rfl⟩)
      (fun p H6 f6 _ _ => ev_var rfl)) fun bl H6 nbl f6 hbl => ?_
    have eb : given ((cs.length : Nat) : Int).toNat (badAt ks) wV = (bads ks).map wV := by
      unfold given bads
      rw [Int.toNat_natCast, hlen]
    rw [eb] at hbl
    have ge6 := ge'.trans f6
    refine q_when (b := decide (bads ks ≠ [])) (et_test (ev_is (ev_opL (x := .ref bl) (xs := []) (ev_var rfl) (el_lst ea_nil (by decide)) fun p H7 hp f7 => rv_neD (n := 1) (m := 1) (d := .list (wD (bads ks))) (e := .list (wD [])) (.lst (SqL.of (f7 _ _ hbl)) (dpa_w _)) (.lst (SqL.of hp) .nil) (sh_w _) (sh_w _) (by decide) (by decide)) (by rw [eqv_list_w]; simp))) (fun hb H7 f7 => ?_) (fun hb H7 f7 => ?_)
    · cases hs : scan 0 ks with
      | ok ds =>
        have z := (bads_ok hs).1
        exact absurd z (of_decide_eq_true hb)
      | error j =>
        obtain ⟨rr, ej⟩ := bads_err hs
        rw [ej] at hbl
        have erd := rb (j := j) hr hi2 gd (by rw [hpw]; exact hs)
        refine s_retU (xs := [.str "BadText", .int (i : Int), .int (j : Int)]) (eu_tup (ea_cons ev_c (ea_cons (ev_var rfl) (ea_cons (ev_op (ev_var (v := .ref bl) rfl) ev_c (rv_ixL (SqL.of (f7 _ _ hbl)) (atI_nat (j := 0) rfl))) ea_nil))) (by simp)) fun t H8 nt f8 ht => ?_
        refine k _ _ ((ge6.trans f7).trans f8) ?_
        rw [erd]
        exact Dp.tup (SqT.of ht) (.cons (.str _) (.cons (.int _) (.cons (.int _) .nil)))
    · cases hs : scan 0 ks with
      | error j =>
        obtain ⟨rr, ej⟩ := bads_err hs
        rw [ej] at hb
        simp at hb
      | ok ds =>
        obtain ⟨_, ho⟩ := bads_ok hs
        rw [ho] at hB3
        have hP := paired_good hB3
        have f57 := f6.trans f7
        refine s_app (l := fl) (v := .ref dl) (f57 _ _ gf') (ev_var rfl) (ev_var rfl) (by omega) fun H8 f8 => ?_
        have f58 := f57.trans f8
        have gf8 := f58 _ _ gf'
        have pl : PL K fl H8 (.ref dl) ds := ⟨dl, cs, rfl, ndf, f58 _ _ hdl, hP.mono f58⟩
        refine ⟨_, _, _, _, _, _, fs ++ [.ref dl], dss ++ [ds], rfl, by rw [upd_ne nrf]; exact f58 _ _ gr', upd_same, ?_, ?_, by rw [List.length_append, gn0]; rfl, (ge'.trans f58).mut nfl0⟩
        · exact paired_app (Paired.mapP gP fun _ _ z => (z.mono (f35.trans f58)).set gf8) (.cons (pl.set gf8) .nil)
        · rw [List.take_add_one, hr, Option.toList_some, List.map_append, gd, List.map_append]
          congr 1
          show [progD r] = [Except.ok ds]
          rw [hpw, hs]
  · rintro σ' H3 ⟨v3, v4, v5, v6, v7, v8, fs, dss, rfl, gr, gf, gP, gd, gn0, ge⟩
    rw [Int.toNat_natCast] at gd gn0
    have rr := re gd
    have evn : Ev (tCB (rLenS K) (tCons (tVar 1) tNil)) [some (.str (tS l)), some (.ref rl), some (.ref fl), v3, v4, v5, v6, v7, v8] H3 (.int (ws.length : Int)) := ev_is (ev_cb (ea_cons (ev_var (v := .ref rl) rfl) ea_nil) (rc_lenL (SqL.of gr))) (by rw [List.length_map, List.length_map])
    refine q_when (b := decide (ws.length ≠ 2)) (et_test (ev_is (ev_op (x := .int (ws.length : Int)) (y := .int 2) evn ev_c (rv_ne rfl)) (by
      congr 1
      rw [← decide_not]
      exact decide_eq_decide.mpr (not_congr ⟨fun z => by have := V.int.inj z; omega, fun z => by rw [z]; rfl⟩)))) (fun hb H4 f4 => ?_) (fun hb H4 f4 => ?_)
    · have nb := of_decide_eq_true hb
      have evi : Ev (tCB (fun xs H Q => (∃ i, xs = [V.int i] ∧ Q (.int i) H) ∨ ∃ k, xs = [V.bl k] ∧ Q (.int (if k then 1 else 0)) H) (tCons (tOp (rI0 fun i j => .bl (decide (j < i))) (tCB (rLenS K) (tCons (tVar 1) tNil)) (tC (.int 2))) tNil)) [some (.str (tS l)), some (.ref rl), some (.ref fl), v3, v4, v5, v6, v7, v8] H4 (.int (if decide (2 < ws.length) then 1 else 0)) :=
        ev_is (ev_cb (ea_cons (ev_op (evn.mono f4) ev_c rv_I0) ea_nil) rc_int9) (by
          have e : decide ((2 : Int) < (ws.length : Int)) = decide (2 < ws.length) := decide_eq_decide.mpr (by omega)
          rw [e])
      rcases rr with ⟨h1, h2⟩ | ⟨h1, h2⟩ | ⟨ds, es, h1, _⟩
      · refine s_retU (xs := [.str "BadText", .int 1, .int 0]) (eu_tup (ea_cons ev_c (ea_cons (ev_ixNew (xs := [.int 1, .int 2]) (i := 0) (el_lst (ea_cons ev_c (ea_cons ev_c ea_nil)) (by decide)) (ev_is evi (by rw [h1]; rfl)) rfl) (ea_cons ev_c ea_nil))) (by simp)) fun t H8 nt f8 ht => ?_
        refine k _ _ ((ge.trans f4).trans f8) ?_
        rw [h2]
        exact Dp.tup (SqT.of ht) (.cons (.str _) (.cons (.int _) (.cons (.int _) .nil)))
      · refine s_retU (xs := [.str "BadText", .int 2, .int 0]) (eu_tup (ea_cons ev_c (ea_cons (ev_ixNew (xs := [.int 1, .int 2]) (i := 1) (el_lst (ea_cons ev_c (ea_cons ev_c ea_nil)) (by decide)) (ev_is evi (by rw [decide_eq_true h1]; rfl)) rfl) (ea_cons ev_c ea_nil))) (by simp)) fun t H8 nt f8 ht => ?_
        refine k _ _ ((ge.trans f4).trans f8) ?_
        rw [h2]
        exact Dp.tup (SqT.of ht) (.cons (.str _) (.cons (.int _) (.cons (.int _) .nil)))
      · exact absurd h1 nb
    · have nb : ws.length = 2 := by simpa using hb
      rcases rr with ⟨h1, h2⟩ | ⟨h1, h2⟩ | ⟨ds, es, h1, rfl, h2⟩
      · omega
      · omega
      obtain ⟨v, u, rfl, pv, pu⟩ : ∃ v u, fs = [v, u] ∧ PL K fl H3 v ds ∧ PL K fl H3 u es := by
        match fs, gP with
        | [_, _], .cons a (.cons b .nil) => exact ⟨_, _, rfl, a, b⟩
      have gf4 := f4 _ _ gf
      refine s_retU (xs := [v, u]) (eu_tup (ea_cons (ev_op (ev_var (v := .ref fl) rfl) ev_c (rv_ixL (SqL.of gf4) rfl)) (ea_cons (ev_op (ev_var (v := .ref fl) rfl) ev_c (rv_ixL (SqL.of gf4) rfl)) ea_nil)) (by simp)) fun t H8 nt f8 ht => ?_
      refine k _ _ ((ge.trans f4).trans f8) ?_
      rw [h2]
      exact Dp.tup (SqT.of ht) (.cons (pv.mono (f4.trans f8)).dp (.cons (pu.mono (f4.trans f8)).dp .nil))

theorem q_draw {tz : TS} {D : Ends} {σ : L2.St} {H : Hp} {E : XK} {i j : Nat} {tm : TE} {m : Int} {h l : Addr} (hm : Ev tm σ H (.int m)) (hj : σ[j]? = some (some (.ref h))) (G : Draw H h l) (h0 : 0 < m) (h1 : m < 1073741824)
    (k : ∀ (r : Int) (H1 : Hp), 0 ≤ r → r < m → Drew H H1 h l → tz D (σ.set i (some (.int r))) H1) : tSeq (tAsg (tCall sp_law_next [] E (tCons (tVar j) (tCons tm tNil))) (gName i)) tz D σ H :=
  ⟨_, hj, hm H (Ex.refl H) _ fun H1 f1 => ⟨h, l, m, rfl, G.mono f1, h0, h1, fun r H2 r0 r1 D2 => k r H2 r0 r1 (((Drew.refl G).of_ex f1).trans D2)⟩⟩

/-- a text changed -/
def sp_law_changed : Sp := fun vs H Q _ => ∃ (h lA : Addr) (l : List Nat), vs = [.ref h, .str (tS l)] ∧ Draw H h lA ∧ l.length ≤ 353009 ∧ wt spc l ≤ 400 ∧ ∀ (l' : List Nat) (H' : Hp), Chg l l' → Drew H H' h lA → Q (.str (tS l')) H'
theorem tS_one (c : Nat) : (⟨#[c]⟩ : Str) = tS [c] := rfl
theorem reps9 {α : Type} (x : α) (n : Nat) : (List.replicate n [x]).flatten = List.replicate n x := by
  induction n with
  | zero => rfl
  | succ n ih => rw [List.replicate_succ, List.flatten_cons, ih]; rfl
theorem tS_no : ("" : Str) = tS [] := by decide +kernel
theorem signs_at {s : Int} (s0 : 0 ≤ s) (s1 : s < 12) : ∃ c, atI ("0123 -rw\n4xR" : Str).cps.toList s = some c := by
  obtain ⟨n, rfl⟩ : ∃ n : Nat, s = n := ⟨s.toNat, by omega⟩
  have e : ("0123 -rw\n4xR" : Str).cps.toList.length = 12 := by decide +kernel
  exact ⟨_, atI_nat (List.getElem?_eq_getElem (by omega : n < ("0123 -rw\n4xR" : Str).cps.toList.length))⟩
def oddL : List (List Nat) := [[], [45], [114, 48], [114, 51], [114, 52], [119, 48, 50], [119, 48, 51], [119, 52, 48], [119, 48], [114, 48, 48], [45, 45], [82, 48], [119, 48, 49, 50]]
theorem odd_at {s : Int} (s0 : 0 ≤ s) (s1 : s < 13) : ∃ o : List Nat, o.length ≤ 4 ∧ wt spc o = 0 ∧ atI ((oddL.map tS).map V.str) s = some (.str (tS o)) := by
  obtain ⟨n, rfl⟩ : ∃ n : Nat, s = n := ⟨s.toNat, by omega⟩
  have e : oddL.length = 13 := rfl
  have hn : n < oddL.length := by omega
  have ho : oddL[n]? = some oddL[n] := List.getElem?_eq_getElem hn
  have all : ∀ o ∈ oddL, o.length ≤ 4 ∧ wt spc o = 0 := by decide
  obtain ⟨h1, h2⟩ := all _ (List.getElem_mem hn)
  exact ⟨oddL[n], h1, h2, atI_nat (by rw [List.getElem?_map, List.getElem?_map, ho]; rfl)⟩
theorem d_law_changed (T : Nb mg) (D_law_next : Dn P w K mg base CX0 "_law_next" ["_law_h", "_law_many"] 1 sp_law_next) (h : Has K mg "_law_changed" s_law_changed) : Dn P w K mg base CX0 "_law_changed" ["_law_h", "_law_text_here"] 2 sp_law_changed := by
  refine dn_of h (fun f fd F => F.binds fun _ _ _ _ _ _ us hl => match us, hl with | [_, _], _ => rfl) fun f fd F _ => F.ok sc_law_changed (fun vs H Q E h => ?_) (fun cdv A outer s H vs Q E hr h => ?_)
  · obtain ⟨_, _, _, rfl, _⟩ := h
    rfl
  obtain ⟨h, lA, l, rfl, D, hl, hw, k⟩ := h
  refine ⟨_, (pss_cons (ps_set (i := 2) sc_law_changed.nd rfl (Or.inl rfl) (pe_dn D_law_next hr (by omega) pass0 (pa_cons (pv 0) (pa_cons pe_int pa_nil))))
    (pss_cons (ps_set (i := 3) sc_law_changed.nd rfl (Or.inl rfl) (pe_dn D_law_next hr (by omega) pass0 (pa_cons (pv 0) (pa_cons (pe_op op_add (pe_callB call_len (by rfl) T.n_len PySem.boot_len (pa_cons (pv 1) pa_nil)) pe_int) pa_nil))))
    (pss_cons (ps_set (i := 4) sc_law_changed.nd rfl (Or.inl rfl) (pe_ix ix_str pe_str (pe_dn D_law_next hr (by omega) pass0 (pa_cons (pv 0) (pa_cons pe_int pa_nil))) (fun _ _ => rfl)))
    (pss_cons (ps_if (pt_cmpR op_lt (pv 2) pe_int (nomark _)) (pss_one (ps_ret (pe_op op_add_str (pe_op op_add_str (pe_slice sl_str (pv 1) po_none (po_some (pv 3))) (pe_ix (ix_listK K) (pe_lst (pa_cons (pv 4) (pa_cons pe_str (pa_cons (pv 4) pa_nil)))) (pv 2) (fun _ _ => rfl))) (pe_slice sl_str (pv 1) (po_some (pe_op op_add (pv 3) (pe_callTy call_int1 (by rfl) T.n_int PyProof.Rows.boot_int (pa_cons (pe_cmpR op_gt (pv 2) pe_int (nomark _)) pa_nil)))) po_none)))) pss_nil)
    (pss_cons (ps_set (i := 5) sc_law_changed.nd rfl (Or.inl rfl) (pe_split (pv 1) pe_str))
    (pss_cons (ps_set (i := 6) sc_law_changed.nd rfl (Or.inl rfl) (pe_dn D_law_next hr (by omega) pass0 (pa_cons (pv 0) (pa_cons (pe_callB (call_len_seqK K) (by rfl) T.n_len PySem.boot_len (pa_cons (pv 5) pa_nil)) pa_nil))))
    (pss_cons (ps_if (pt_cmpR op_lt (pv 2) pe_int (nomark _)) (pss_cons (ps_set (i := 7) sc_law_changed.nd rfl (Or.inl rfl) (pe_lst (pa_cons (pe_op op_cat (pe_slice sl_list (pv 5) po_none (po_some (pv 6))) (pe_slice sl_list (pv 5) (po_some (pe_op op_add (pv 6) pe_int)) po_none)) (pa_cons (pe_op op_cat (pe_op op_cat (pe_slice sl_list (pv 5) po_none (po_some (pv 6))) (pe_slice sl_list (pv 5) (po_some (pv 6)) (po_some (pe_op op_add (pv 6) pe_int)))) (pe_slice sl_list (pv 5) (po_some (pv 6)) po_none)) (pa_cons (pe_op op_cat (pe_slice sl_list (pv 5) (po_some (pv 6)) po_none) (pe_slice sl_list (pv 5) po_none (po_some (pv 6)))) pa_nil)))))
      (pss_one (ps_ret (pe_join pe_str (pe_ix (ix_listK K) (pv 7) (pe_op op_sub (pv 2) pe_int) (fun _ _ => rfl)))))) pss_nil)
    (pss_cons (ps_set (i := 8) sc_law_changed.nd rfl (Or.inl rfl) (pe_split (pe_ix (ix_listK K) (pv 5) (pv 6) (fun _ _ => rfl)) pe_str))
    (pss_cons (ps_set (i := 9) sc_law_changed.nd rfl (Or.inl rfl) (pe_dn D_law_next hr (by omega) pass0 (pa_cons (pv 0) (pa_cons (pe_callB (call_len_seqK K) (by rfl) T.n_len PySem.boot_len (pa_cons (pv 8) pa_nil)) pa_nil))))
    (pss_cons (ps_set (i := 10) sc_law_changed.nd rfl (Or.inl rfl) (pe_ix (ix_listK K) (pe_lst (pa_cons pe_str (pa_cons pe_str (pa_cons pe_str (pa_cons pe_str (pa_cons pe_str (pa_cons pe_str (pa_cons pe_str (pa_cons pe_str (pa_cons pe_str (pa_cons pe_str (pa_cons pe_str (pa_cons pe_str (pa_cons pe_str pa_nil)))))))))))))) (pe_dn D_law_next hr (by omega) pass0 (pa_cons (pv 0) (pa_cons pe_int pa_nil))) (fun _ _ => rfl)))
    (pss_cons (ps_set (i := 8) sc_law_changed.nd rfl (Or.inl rfl) (pe_op op_cat (pe_op op_cat (pe_slice sl_list (pv 8) po_none (po_some (pv 9))) (pe_ix (ix_listK K) (pe_lst (pa_cons (pe_lst pa_nil) (pa_cons (pe_op op_rep (pe_lst (pa_cons (pe_ix (ix_listK K) (pv 8) (pv 9) (fun _ _ => rfl)) pa_nil)) (pe_ix (ix_listK K) (pe_lst (pa_cons pe_int (pa_cons pe_int pa_nil))) (pe_dn D_law_next hr (by omega) pass0 (pa_cons (pv 0) (pa_cons pe_int pa_nil))) (fun _ _ => rfl))) (pa_cons (pe_lst (pa_cons (pv 10) pa_nil)) pa_nil)))) (pe_op op_sub (pv 2) pe_int) (fun _ _ => rfl))) (pe_slice sl_list (pv 8) (po_some (pe_op op_add (pv 9) pe_int)) po_none)))
    (pss_one (ps_ret (pe_join pe_str (pe_op op_cat (pe_op op_cat (pe_slice sl_list (pv 5) po_none (po_some (pv 6))) (pe_lst (pa_cons (pe_join pe_str (pv 8)) pa_nil))) (pe_slice sl_list (pv 5) (po_some (pe_op op_add (pv 6) pe_int)) po_none)))))))))))))))), ?_⟩
  refine q_draw (m := 9) ev_c rfl D (by decide) (by decide) fun t H1 t0 t1 D1 => ?_
  refine q_draw (m := (l.length : Int) + 1) (ev_op (ev_cb (ea_cons (ev_var rfl) ea_nil) (rc_lenT9 (by omega))) ev_c rv_I0) rfl D1.dr (by omega) (by omega) fun a H2 a0 a1 D2 => ?_
  obtain ⟨at', rfl⟩ : ∃ n : Nat, a = n := ⟨a.toNat, by omega⟩
  refine ⟨_, rfl, h, lA, 12, rfl, D2.dr, by decide, by decide, fun s H3 s0 s1 D3 => ?_⟩
  obtain ⟨c, hc⟩ := signs_at s0 s1
  refine ⟨_, s, c, rfl, rfl, by decide +kernel, hc, ?_⟩
  refine gn ?_
  dsimp only
  rw [tS_one]
  have D03 := (D1.trans D2).trans D3
  refine q_when (b := decide (t < 3)) (et_test (ev_op (x := .int t) (y := .int 3) (ev_var rfl) ev_c rv_I0)) (fun hb H4 f4 => ?_) (fun hb H4 f4 => ?_)
  · have hb := of_decide_eq_true hb
    obtain ⟨s', hs', hat⟩ : ∃ s' : List Nat, s'.length ≤ 1 ∧ atI ([.str (tS [c]), .str "", .str (tS [c])] : List V) t = some (.str (tS s')) := by
      have hz : t = 0 ∨ t = 1 ∨ t = 2 := by omega
      rcases hz with rfl | rfl | rfl
      · exact ⟨[c], by simp, rfl⟩
      · exact ⟨[], by simp, by rw [← tS_no]; rfl⟩
      · exact ⟨[c], by simp, rfl⟩
    refine s_ret (v := .str (tS (l.take at' ++ s' ++ l.drop (at' + (if decide (0 < t) = true then 1 else 0))))) (ev_catS (ev_catS (ev_slTo (ev_var rfl) eo_none (eo_some (ev_var rfl)) (by omega)) (ev_ixNew (xs := [.str (tS [c]), .str "", .str (tS [c])]) (el_lst (ea_cons (ev_var rfl) (ea_cons ev_c (ea_cons (ev_var rfl) ea_nil))) (by simp)) (ev_var rfl) hat) (by rw [List.length_take]; omega))
      (ev_slFrom (ev_var rfl) (eo_some (ev_is (ev_op (x := .int (at' : Int)) (y := .int (if decide (0 < t) then 1 else 0)) (ev_var rfl) (ev_cb (ea_cons (ev_op (x := .int t) (y := .int 0) (ev_var rfl) ev_c rv_I0) ea_nil) rc_int9) rv_I0) (by congr 1; split <;> simp))) eo_none (by omega)) (by rw [List.length_append, List.length_take, List.length_drop]; omega)) fun H5 f5 => ?_
    exact k _ _ (chg_sign hs' (by omega)) (D03.of_ex (f4.trans f5))
  have hb := of_decide_eq_false hb
  have D04 := D03.of_ex f4
  refine q_asgL (el_split (c := 10) (by decide +kernel) (ev_var rfl) ev_c (by omega)) fun rl H5 nrl f5 hrl => ?_
  have D05 := D04.of_ex f5
  have nrl' := D04.dr.out nrl
  have hn1 := words_ne 10 l
  have hn2 := words_le10 l
  have cr := @chg_rows l
  have cw := @chg_words l
  have rw0 : ∀ r ∈ wordsOf 10 l, r.length ≤ l.length ∧ wt spc r ≤ wt spc l := fun r hr => ⟨row_le_text hr, wt_word hr⟩
  generalize hws : wordsOf 10 l = ws at hrl hn1 hn2 cr cw rw0
  have hnp : 0 < ws.length := List.length_pos_iff.mpr hn1
  refine q_draw (m := (ws.length : Int)) (ev_is (ev_cb (ea_cons (ev_var (v := .ref rl) rfl) ea_nil) (rc_lenL (SqL.of hrl))) (by rw [List.length_map, List.length_map])) rfl D05.dr (by omega) (by omega) fun kk H6 k0 k1 D6 => ?_
  obtain ⟨ki, rfl⟩ : ∃ n : Nat, kk = n := ⟨kk.toNat, by omega⟩
  have hrl6 := D6.bt _ _ nrl' hrl
  have D06 := D05.trans D6
  obtain ⟨r, hr⟩ : ∃ r, ws[ki]? = some r := ⟨_, List.getElem?_eq_getElem (by omega : ki < ws.length)⟩
  have hxr : ((ws.map tS).map V.str)[ki]? = some (.str (tS r)) := by rw [List.getElem?_map, List.getElem?_map, hr]; rfl
  obtain ⟨hr1, hr2⟩ := rw0 r (List.mem_of_getElem? hr)
  have em1 : ∀ n, ((ws.map tS).map V.str).take n = ((ws.take n).map tS).map V.str := fun n => by rw [List.map_take, List.map_take]
  have em2 : ∀ n, ((ws.map tS).map V.str).drop n = ((ws.drop n).map tS).map V.str := fun n => by rw [List.map_drop, List.map_drop]
  have k1' : ((ki : Int) + 1) = ((ki + 1 : Nat) : Int) := by omega
  have ed : (ws.drop ki).take 1 = [r] := by
    rw [List.drop_eq_getElem_cons (by omega : ki < ws.length)]
    rw [List.getElem?_eq_getElem (by omega : ki < ws.length)] at hr
    rw [Option.some.inj hr]
    rfl
  refine q_when (b := decide (t < 6)) (et_test (ev_op (x := .int t) (y := .int 6) (ev_var rfl) ev_c rv_I0)) (fun hb6 H7 f7 => ?_) (fun hb6 H7 f7 => ?_)
  · have hb6 := of_decide_eq_true hb6
    have hrl7 := f7 _ _ hrl6
    have slA : ∀ {σ : L2.St}, σ[5]? = some (some (.ref rl)) → σ[6]? = some (some (.int (ki : Int))) → EvL (tSl (rSlL K) (tVar 5) tNoPart (tPart (tVar 6))) σ H7 (((ws.take ki).map tS).map V.str) := fun h1 h2 =>
      ev_slL (ev_var h1) eo_none (eo_some (ev_var h2)) (SqL.of hrl7) (by rw [cutV_to, em1])
    have slB : ∀ {σ : L2.St}, σ[5]? = some (some (.ref rl)) → σ[6]? = some (some (.int (ki : Int))) → EvL (tSl (rSlL K) (tVar 5) (tPart (tOp (rI0 fun i j => .int (i + j)) (tVar 6) (tC (.int 1)))) tNoPart) σ H7 (((ws.drop (ki + 1)).map tS).map V.str) := fun h1 h2 =>
      ev_slL (ev_var h1) (eo_some (ev_is (ev_op (x := .int (ki : Int)) (y := .int 1) (ev_var h2) ev_c rv_I0) (by rw [k1']))) eo_none (SqL.of hrl7) (by rw [cutV_from, em2])
    have slC : ∀ {σ : L2.St}, σ[5]? = some (some (.ref rl)) → σ[6]? = some (some (.int (ki : Int))) → EvL (tSl (rSlL K) (tVar 5) (tPart (tVar 6)) (tPart (tOp (rI0 fun i j => .int (i + j)) (tVar 6) (tC (.int 1))))) σ H7 ((([r]).map tS).map V.str) := fun h1 h2 =>
      ev_slL (ev_var h1) (eo_some (ev_var h2)) (eo_some (ev_op (x := .int (ki : Int)) (y := .int 1) (ev_var h2) ev_c rv_I0)) (SqL.of hrl7) (by rw [cut_at, em2, ← List.map_take, ← List.map_take, ed])
    have slD : ∀ {σ : L2.St}, σ[5]? = some (some (.ref rl)) → σ[6]? = some (some (.int (ki : Int))) → EvL (tSl (rSlL K) (tVar 5) (tPart (tVar 6)) tNoPart) σ H7 (((ws.drop ki).map tS).map V.str) := fun h1 h2 =>
      ev_slL (ev_var h1) (eo_some (ev_var h2)) eo_none (SqL.of hrl7) (by rw [cutV_from, em2])
    have lt : ∀ n, (((ws.take n).map tS).map V.str).length ≤ 401 := fun n => by rw [List.length_map, List.length_map, List.length_take]; omega
    have ld : ∀ n, (((ws.drop n).map tS).map V.str).length ≤ 401 := fun n => by rw [List.length_map, List.length_map, List.length_drop]; omega
    have eA := el_catN (slA (σ := [some (.ref h), some (.str (tS l)), some (.int t), some (.int (at' : Int)), some (.str (tS [c])), some (.ref rl), some (.int (ki : Int)), none, none, none, none]) rfl rfl) (slB rfl rfl) (by have := lt ki; have := ld (ki + 1); omega)
    have eB := el_catN (el_catN (slA (σ := [some (.ref h), some (.str (tS l)), some (.int t), some (.int (at' : Int)), some (.str (tS [c])), some (.ref rl), some (.int (ki : Int)), none, none, none, none]) rfl rfl) (slC rfl rfl) (by have := lt ki; simp at this ⊢; omega)) (slD rfl rfl) (by have := lt ki; have := ld ki; simp at *; omega)
    have eC := el_catN (slD (σ := [some (.ref h), some (.str (tS l)), some (.int t), some (.int (at' : Int)), some (.str (tS [c])), some (.ref rl), some (.int (ki : Int)), none, none, none, none]) rfl rfl) (slA rfl rfl) (by have := lt ki; have := ld ki; omega)
    refine eA H7 (Ex.refl _) _ fun pa Ha na fa ha => eB Ha fa _ fun pb Hb nb fb hb' => eC Hb (fa.trans fb) _ fun pc Hc nc fc hc' => ⟨by show 3 ≤ sizeLine; decide, fun pl npl => ?_⟩
    refine gn ?_
    dsimp only
    have xp := Ex.new (o := .lst [.ref pa, .ref pb, .ref pc]) npl
    have hpl := upd_same (H := Hc) (a := pl) (o := .lst [.ref pa, .ref pb, .ref pc])
    have ha8 := xp _ _ (fc _ _ (fb _ _ ha))
    have hb8 := xp _ _ (fc _ _ hb')
    have hc8 := xp _ _ hc'
    have f78 := ((fa.trans fb).trans fc).trans xp
    generalize upd Hc pl (.lst [.ref pa, .ref pb, .ref pc]) = H8 at hpl ha8 hb8 hc8 f78 ⊢
    obtain ⟨q, ns, hq, hat, hns⟩ : ∃ (q : Addr) (ns : List (List Nat)), H8 q = some (.lst ((ns.map tS).map V.str)) ∧ atI ([.ref pa, .ref pb, .ref pc] : List V) (t - 3) = some (.ref q) ∧ (ns = ws.take ki ++ ws.drop (ki + 1) ∨ ns = ws.take ki ++ [r] ++ ws.drop ki ∨ ns = ws.drop ki ++ ws.take ki) := by
      have hz : t = 3 ∨ t = 4 ∨ t = 5 := by omega
      rcases hz with rfl | rfl | rfl
      · exact ⟨pa, _, by rw [ha8, ← List.map_append, ← List.map_append], rfl, .inl rfl⟩
      · exact ⟨pb, _, by rw [hb8, ← List.map_append, ← List.map_append, ← List.map_append, ← List.map_append], rfl, .inr (.inl rfl)⟩
      · exact ⟨pc, _, by rw [hc8, ← List.map_append, ← List.map_append], rfl, .inr (.inr rfl)⟩
    have ch := cr hr hns
    have hlen := ch.len
    refine s_ret (v := .str (tS (jn 10 ns))) (ev_joinR (c := 10) (p := q) (by decide +kernel) ev_c (ev_op (x := .ref pl) (y := .int (t - 3)) (ev_var rfl) (ev_op (x := .int t) (y := .int 3) (ev_var rfl) ev_c rv_I0) (rv_ixL (SqL.of hpl) hat)) (SqL.of hq) (by omega)) fun H9 f9 => ?_
    exact k _ _ ch (D06.of_ex ((f7.trans f78).trans f9))
  -- words
  have hb6 := of_decide_eq_false hb6
  have hrl7 := f7 _ _ hrl6
  have D07 := D06.of_ex f7
  refine q_asgL (el_split (c := 32) (l := r) (by decide +kernel) (ev_op (x := .ref rl) (y := .int (ki : Int)) (ev_var rfl) (ev_var rfl) (rv_ixL (SqL.of hrl7) (atI_nat hxr))) ev_c (by omega)) fun wl H8 nwl f8 hwl => ?_
  have D08 := D07.of_ex f8
  have nwl' := D07.dr.out nwl
  have hrl8 := f8 _ _ hrl7
  have hm1 := words_ne 32 r
  have hm2 := words_le32 r
  have cw' := fun j w mid => @cw r w ki j mid hr
  clear cw cr rw0
  generalize hks : wordsOf 32 r = ks at hwl hm1 hm2 cw'
  have hkp : 0 < ks.length := List.length_pos_iff.mpr hm1
  refine q_draw (m := (ks.length : Int)) (ev_is (ev_cb (ea_cons (ev_var (v := .ref wl) rfl) ea_nil) (rc_lenL (SqL.of hwl))) (by rw [List.length_map, List.length_map])) rfl D08.dr (by omega) (by omega) fun jj H9 j0 j1 D9 => ?_
  obtain ⟨ji, rfl⟩ : ∃ n : Nat, jj = n := ⟨jj.toNat, by omega⟩
  have hwl9 := D9.bt _ _ nwl' hwl
  have hrl9 := D9.bt _ _ nrl' hrl8
  have D09 := D08.trans D9
  obtain ⟨u, hu⟩ : ∃ u, ks[ji]? = some u := ⟨_, List.getElem?_eq_getElem (by omega : ji < ks.length)⟩
  have hxu : ((ks.map tS).map V.str)[ji]? = some (.str (tS u)) := by rw [List.getElem?_map, List.getElem?_map, hu]; rfl
  -- an odd word
  have oL : ∀ {σ : L2.St} {H : Hp}, EvL (tLst (tCons (tC (.str "")) (tCons (tC (.str "-")) (tCons (tC (.str "r0")) (tCons (tC (.str "r3")) (tCons (tC (.str "r4")) (tCons (tC (.str "w02")) (tCons (tC (.str "w03")) (tCons (tC (.str "w40")) (tCons (tC (.str "w0")) (tCons (tC (.str "r00")) (tCons (tC (.str "--")) (tCons (tC (.str "R0")) (tCons (tC (.str "w012")) tNil)))))))))))))) σ H ((oddL.map tS).map V.str) := fun {σ} {H} => by
    have e : ((oddL.map tS).map V.str) = [.str "", .str "-", .str "r0", .str "r3", .str "r4", .str "w02", .str "w03", .str "w40", .str "w0", .str "r00", .str "--", .str "R0", .str "w012"] := by decide +kernel
    rw [e]
    exact el_lst (ea_cons ev_c (ea_cons ev_c (ea_cons ev_c (ea_cons ev_c (ea_cons ev_c (ea_cons ev_c (ea_cons ev_c (ea_cons ev_c (ea_cons ev_c (ea_cons ev_c (ea_cons ev_c (ea_cons ev_c (ea_cons ev_c ea_nil))))))))))))) (by decide)
  refine q_set_bind (op_bindL oL fun ol H10 nol f10 hol => ⟨_, rfl, h, lA, 13, rfl, D09.dr.mono f10, by decide, by decide, fun z H11 z0 z1 D11 => ?_⟩)
  obtain ⟨o, ho1, ho2, hoa⟩ := odd_at z0 z1
  have nol' := D09.dr.out nol
  refine ⟨ol, _, z, _, rfl, rfl, SqL.of (D11.bt _ _ nol' hol), hoa, ?_⟩
  refine gn ?_
  dsimp only
  have D011 := (D09.of_ex f10).trans D11
  have hwl11 := D11.bt _ _ nwl' (f10 _ _ hwl9)
  have hrl11 := D11.bt _ _ nrl' (f10 _ _ hrl9)
  have em3 : ∀ n, ((ks.map tS).map V.str).take n = ((ks.take n).map tS).map V.str := fun n => by rw [List.map_take, List.map_take]
  have em4 : ∀ n, ((ks.map tS).map V.str).drop n = ((ks.drop n).map tS).map V.str := fun n => by rw [List.map_drop, List.map_drop]
  have j1' : ((ji : Int) + 1) = ((ji + 1 : Nat) : Int) := by omega
  have lt : ∀ n, (((ks.take n).map tS).map V.str).length ≤ 401 := fun n => by rw [List.length_map, List.length_map, List.length_take]; omega
  have ld : ∀ n, (((ks.drop n).map tS).map V.str).length ≤ 401 := fun n => by rw [List.length_map, List.length_map, List.length_drop]; omega
  -- words[:j]
  have s1 : EvL (tSl (rSlL K) (tVar 8) tNoPart (tPart (tVar 9))) [some (.ref h), some (.str (tS l)), some (.int t), some (.int (at' : Int)), some (.str (tS [c])), some (.ref rl), some (.int (ki : Int)), none, some (.ref wl), some (.int (ji : Int)), some (.str (tS o))] H11 (((ks.take ji).map tS).map V.str) :=
    ev_slL (ev_var rfl) eo_none (eo_some (ev_var rfl)) (SqL.of hwl11) (by rw [cutV_to, em3])
  refine s1 H11 (Ex.refl _) _ fun p1 H12 np1 f12 hp1 => ?_
  -- the middle
  refine ⟨by show 0 ≤ sizeLine; decide, fun m0 nm0 => ?_⟩
  have x0 := Ex.new (o := .lst []) nm0
  have hm0 := upd_same (H := H12) (a := m0) (o := .lst [])
  have hp1a := x0 _ _ hp1
  have f13 := f12.trans x0
  generalize upd H12 m0 (.lst []) = H13 at x0 hm0 hp1a f13 ⊢
  have s2 : EvL (tLst (tCons (tOp (rIxL K) (tVar 8) (tVar 9)) tNil)) [some (.ref h), some (.str (tS l)), some (.int t), some (.int (at' : Int)), some (.str (tS [c])), some (.ref rl), some (.int (ki : Int)), none, some (.ref wl), some (.int (ji : Int)), some (.str (tS o))] H13 [.str (tS u)] :=
    el_lst (ea_cons (ev_op (x := .ref wl) (y := .int (ji : Int)) (ev_var rfl) (ev_var rfl) (rv_ixL (SqL.of (f13 _ _ hwl11)) (atI_nat hxu))) ea_nil) (by simp)
  refine cons_bind (op_bindL s2 fun p2 H14 np2 f14 hp2 => ⟨by show 2 ≤ sizeLine; decide, fun p3 np3 => ⟨_, rfl, h, lA, 2, rfl, D011.dr.mono ((f13.trans f14).trans (Ex.new np3)), by decide, by decide, fun y H16 y0 y1 D16 => ?_⟩⟩)
  have f15 := Ex.new (o := .lst [.int 2, .int 41]) np3
  have np3' := (D011.dr.mono (f13.trans f14)).out np3
  have np2' := (D011.dr.mono f13).out np2
  have nm0' := (D011.dr.mono f12).out nm0
  have np1' := D011.dr.out np1
  obtain ⟨n, hn, hat2⟩ : ∃ n : Nat, n ≤ 41 ∧ atI ([.int 2, .int 41] : List V) y = some (.int (n : Int)) := by
    have hz : y = 0 ∨ y = 1 := by omega
    rcases hz with rfl | rfl
    · exact ⟨2, by decide, rfl⟩
    · exact ⟨41, by decide, rfl⟩
  have hp2b := D16.bt _ _ np2' (f15 _ _ hp2)
  refine ⟨p3, _, y, _, rfl, rfl, SqL.of (D16.bt _ _ np3' upd_same), hat2, p2, (n : Int), _, rfl, rfl, hp2b, by omega, by omega, by rw [Int.toNat_natCast]; show 1 * n ≤ sizeLine; exact Nat.le_trans (by omega : _ ≤ 100) (by decide), fun p4 np4 => ?_⟩
  have D016 := (D011.of_ex ((f13.trans f14).trans f15)).trans D16
  have hp1b := D16.bt _ _ np1' (f15 _ _ (f14 _ _ hp1a))
  have hm0b := D16.bt _ _ nm0' (f15 _ _ (f14 _ _ hm0))
  have hwl16 := D16.bt _ _ nwl' (f15 _ _ (f14 _ _ (f13 _ _ hwl11)))
  have hrl16 := D16.bt _ _ nrl' (f15 _ _ (f14 _ _ (f13 _ _ hrl11)))
  rw [Int.toNat_natCast, reps9]
  have x17 := Ex.new (o := .lst (List.replicate n (.str (tS u)))) np4
  have hp4 := upd_same (H := H16) (a := p4) (o := .lst (List.replicate n (.str (tS u))))
  generalize upd H16 p4 (.lst (List.replicate n (.str (tS u)))) = H17 at x17 hp4 ⊢
  refine ⟨_, rfl, by show 1 ≤ sizeLine; decide, fun p5 np5 => ?_⟩
  have x18 := Ex.new (o := .lst [.str (tS o)]) np5
  have hp5 := upd_same (H := H17) (a := p5) (o := .lst [.str (tS o)])
  generalize upd H17 p5 (.lst [.str (tS o)]) = H18 at x18 hp5 ⊢
  refine ⟨by show 3 ≤ sizeLine; decide, fun p6 np6 => ?_⟩
  have x19 := Ex.new (o := .lst [.ref m0, .ref p4, .ref p5]) np6
  have hp6 := upd_same (H := H18) (a := p6) (o := .lst [.ref m0, .ref p4, .ref p5])
  have f1619 := (x17.trans x18).trans x19
  have hp4c := x19 _ _ (x18 _ _ hp4)
  have hp5c := x19 _ _ hp5
  generalize upd H18 p6 (.lst [.ref m0, .ref p4, .ref p5]) = H19 at x19 hp6 f1619 hp4c hp5c ⊢
  have hm0c := f1619 _ _ hm0b
  obtain ⟨q, mid, hq, hat, hmid⟩ : ∃ (q : Addr) (mid : List (List Nat)), H19 q = some (.lst ((mid.map tS).map V.str)) ∧ atI ([.ref m0, .ref p4, .ref p5] : List V) (t - 6) = some (.ref q) ∧ (mid = [] ∨ (∃ n, n ≤ 41 ∧ mid = List.replicate n u) ∨ ∃ o : List Nat, mid = [o] ∧ o.length ≤ 4 ∧ wt spc o = 0) := by
    have hz : t = 6 ∨ t = 7 ∨ t = 8 := by omega
    rcases hz with rfl | rfl | rfl
    · exact ⟨m0, [], hm0c, rfl, .inl rfl⟩
    · exact ⟨p4, List.replicate n u, by rw [hp4c, List.map_replicate, List.map_replicate], rfl, .inr (.inl ⟨n, hn, rfl⟩)⟩
    · exact ⟨p5, [o], hp5c, rfl, .inr (.inr ⟨o, rfl, ho1, ho2⟩)⟩
  have lmid : mid.length ≤ 41 := by
    rcases hmid with rfl | ⟨n, hn, rfl⟩ | ⟨o, rfl, _, _⟩ <;> simp [*]
  have ch := cw' ji u mid hu hmid
  generalize hnk : ks.take ji ++ mid ++ ks.drop (ji + 1) = nk at ch
  generalize hnr : jn 32 nk = nr at ch
  have hlen := ch.len
  have hnrl : nr.length ≤ (jn 10 (ws.take ki ++ [nr] ++ ws.drop (ki + 1))).length := jn_mem_len (by simp)
  have hp1c := f1619 _ _ hp1b
  refine ⟨_, rfl, _, _, rfl, rfl, p6, _, t - 6, .ref q, rfl, rfl, SqL.of hp6, hat, p1, q, _, _, rfl, rfl, hp1c, hq, by
    have := lt ji
    rw [List.length_map, List.length_map] at this
    rw [List.length_map, List.length_map, List.length_map, List.length_map]
    exact Nat.le_trans (by omega : _ ≤ 1000) (by decide), fun p7 np7 => ?_⟩
  rw [← List.map_append, ← List.map_append]
  have x20 := Ex.new (o := .lst (((ks.take ji ++ mid).map tS).map V.str)) np7
  have hp7 := upd_same (H := H19) (a := p7) (o := .lst (((ks.take ji ++ mid).map tS).map V.str))
  generalize upd H19 p7 (.lst (((ks.take ji ++ mid).map tS).map V.str)) = H20 at x20 hp7 ⊢
  have f20 := f1619.trans x20
  have s3 : EvL (tSl (rSlL K) (tVar 8) (tPart (tOp (rI0 fun i j => .int (i + j)) (tVar 9) (tC (.int 1)))) tNoPart) [some (.ref h), some (.str (tS l)), some (.int t), some (.int (at' : Int)), some (.str (tS [c])), some (.ref rl), some (.int (ki : Int)), none, some (.ref wl), some (.int (ji : Int)), some (.str (tS o))] H20 (((ks.drop (ji + 1)).map tS).map V.str) :=
    ev_slL (ev_var rfl) (eo_some (ev_is (ev_op (x := .int (ji : Int)) (y := .int 1) (ev_var rfl) ev_c rv_I0) (by rw [j1']))) eo_none (SqL.of (f20 _ _ hwl16)) (by rw [cutV_from, em4])
  refine s3 H20 (Ex.refl _) _ fun p8 H21 np8 f21 hp8 => ⟨p7, p8, _, _, rfl, rfl, f21 _ _ hp7, hp8, by
    have := lt ji
    have := ld (ji + 1)
    rw [List.length_map, List.length_map] at *
    rw [List.length_map, List.length_map, List.length_append]
    exact Nat.le_trans (by omega : _ ≤ 1000) (by decide), fun p9 np9 => ?_⟩
  refine gn ?_
  dsimp only
  rw [← List.map_append, ← List.map_append, hnk]
  have x22 := Ex.new (o := .lst ((nk.map tS).map V.str)) np9
  have hp9 := upd_same (H := H21) (a := p9) (o := .lst ((nk.map tS).map V.str))
  generalize upd H21 p9 (.lst ((nk.map tS).map V.str)) = H22 at x22 hp9 ⊢
  have f22 := (f20.trans f21).trans x22
  have D022 := D016.of_ex f22
  have hrl22 := f22 _ _ hrl16
  have lt2 : ∀ n, (((ws.take n).map tS).map V.str).length ≤ 401 := fun n => by rw [List.length_map, List.length_map, List.length_take]; omega
  have ld2 : ∀ n, (((ws.drop n).map tS).map V.str).length ≤ 401 := fun n => by rw [List.length_map, List.length_map, List.length_drop]; omega
  refine s_ret (v := .str (tS (jn 10 (ws.take ki ++ [nr] ++ ws.drop (ki + 1))))) (ev_joinL (c := 10) (by decide +kernel) ev_c (by
      rw [List.map_append, List.map_append, List.map_append, List.map_append]
      exact el_catN (el_catN (ev_slL (ev_var (v := .ref rl) rfl) eo_none (eo_some (ev_var (v := .int (ki : Int)) rfl)) (SqL.of hrl22) (by rw [cutV_to, em1])) (el_lst (ea_cons (by rw [← hnr]; exact ev_joinR (c := 32) (p := p9) (by decide +kernel) ev_c (ev_var rfl) (SqL.of hp9) (by rw [hnr]; omega)) ea_nil) (by simp)) (by have := lt2 ki; simp at this ⊢; omega))
        (ev_slL (ev_var (v := .ref rl) rfl) (eo_some (ev_is (ev_op (x := .int (ki : Int)) (y := .int 1) (ev_var rfl) ev_c rv_I0) (by rw [k1']))) eo_none (SqL.of hrl22) (by rw [cutV_from, em2])) (by have := lt2 ki; have := ld2 (ki + 1); simp at *; omega)) (by omega)) fun H23 f23 => ?_
  exact k _ _ ch (D022.of_ex f23)

theorem sp_law_text_v {H : Hp} {p q : Addr} {us xs : List V} {ds es : List Deed} (h1 : SqL K H p us) (h2 : PV K H us ds) (h3 : ds.length ≤ 40) (h4 : ∀ d ∈ ds, d.ok 4) (h5 : SqL K H q xs) (h6 : PV K H xs es) (h7 : es.length ≤ 40) (h8 : ∀ d ∈ es, d.ok 4) :
    SpV (sp_law_text K) [.ref p, .ref q] H (.str (tS (textS ds es))) := fun H1 e Q k _ => ⟨p, q, us, xs, ds, es, rfl, ex_l e h1, h2.mono e, h3, h4, ex_l e h5, h6.mono e, h7, h8, k⟩
def sp_law (K : PySem.W.Frag) : Sp := fun vs H Q _ => ∃ (a : Addr) (ns : List Int), vs = [.ref a] ∧ SqL K H a (ns.map V.int) ∧ ns.length ≤ 63 ∧ ∀ H', Q (.bl true) H'
theorem d_law (T : Nb mg) (D_law_mix : Dn P w K mg base CX0 "_law_mix" ["_law_script", "_law_seed"] 1 (sp_law_mix K)) (D_law_next : Dn P w K mg base CX0 "_law_next" ["_law_h", "_law_many"] 1 sp_law_next)
    (D_law_program : Dn P w K mg base CX0 "_law_program" ["_law_h", "_law_cells", "_law_most"] 3 (sp_law_program K)) (D_law_text : Dn P w K mg base CX0 "_law_text" ["_law_left", "_law_right"] 1 (sp_law_text K)) (D_law_alike : Dn P w K mg base CX0 "_law_alike" ["_law_found", "_law_due_here"] 5 (sp_law_alike K 4))
    (D_law_changed : Dn P w K mg base CX0 "_law_changed" ["_law_h", "_law_text_here"] 2 sp_law_changed) (D_law_told : Dn P w K mg base CX0 "_law_told" ["_law_text_here"] 5 (sp_law_told K)) (D_law_due : Dn P w K mg base CX0 "_law_due" ["_law_text_here"] 2 (sp_law_due K)) {f : Addr} {fd : FuncData} (F : Fun K "law" "law" s_law f fd) : FnOk P w K mg base CX0 7 f fd ["_law_script"] (sp_law K) := by
  refine F.ok sc_law (fun vs H Q E h => ?_) (fun cdv A outer s H vs Q E hr h => ?_)
  · obtain ⟨_, _, rfl, _⟩ := h
    rfl
  obtain ⟨a, ns, rfl, hS, hn, k⟩ := h
  refine ⟨_, (pss_cons (ps_set (i := 1) sc_law.nd rfl (Or.inl rfl) (pe_dn D_law_mix hr (by omega) pass0 (pa_cons (pv 0) (pa_cons pe_int pa_nil))))
    (pss_cons (ps_set (i := 2) sc_law.nd rfl (Or.inl rfl) (pe_lst (pa_cons pe_str (pa_cons pe_str (pa_cons pe_str (pa_cons pe_str (pa_cons pe_str (pa_cons pe_str (pa_cons pe_str (pa_cons pe_str (pa_cons pe_str (pa_cons pe_str (pa_cons pe_str pa_nil)))))))))))))
    (pss_cons (ps_expr (pe_bm PySem.F.plainAttrs_list PySem.F.slot_list_append PySem.F.type_list_append mt_append (pv 2) (pa_cons (pe_op op_add_str (pe_op op_add_str pe_str (pe_op op_mulT pe_str pe_int)) pe_str) pa_nil)))
    (pss_cons (ps_for PassesOwn.never rfl (pi_range1 rfl T.n_range (pa_cons pe_int pa_nil)) (pg_name (i := 3) sc_law.nd rfl (Or.inl rfl))
      (pss_cons (ps_set (i := 4) sc_law.nd rfl (Or.inl rfl) (pe_dn D_law_text hr (by omega) pass0 (pa_cons (pe_dn D_law_program hr (by omega) pass0 (pa_cons (pv 1) (pa_cons pe_int (pa_cons (pe_ix (ix_listK K) (pe_lst (pa_cons pe_int (pa_cons pe_int pa_nil))) (pe_dn D_law_next hr (by omega) pass0 (pa_cons (pv 1) (pa_cons pe_int pa_nil))) (fun _ _ => rfl)) pa_nil)))) (pa_cons (pe_dn D_law_program hr (by omega) pass0 (pa_cons (pv 1) (pa_cons pe_int (pa_cons pe_int pa_nil)))) pa_nil))))
      (pss_cons (ps_for PassesOwn.never rfl (pi_range1 rfl T.n_range (pa_cons (pe_dn D_law_next hr (by omega) pass0 (pa_cons (pv 1) (pa_cons pe_int pa_nil))) pa_nil)) (pg_name (i := 5) sc_law.nd rfl (Or.inl rfl))
        (pss_one (ps_set (i := 4) sc_law.nd rfl (Or.inl rfl) (pe_dn D_law_changed hr (by omega) pass0 (pa_cons (pv 1) (pa_cons (pv 4) pa_nil))))))
      (pss_one (ps_for PassesOwn.never rfl (pi_list (pe_lst (pa_cons (pv 4) (pa_cons (pe_ix (ix_listK K) (pv 2) (pe_dn D_law_next hr (by omega) pass0 (pa_cons (pv 1) (pa_cons pe_int pa_nil))) (fun _ _ => rfl)) pa_nil)))) (pg_name (i := 6) sc_law.nd rfl (Or.inl rfl))
        (pss_one (ps_for PassesOwn.never rfl (pi_range1 rfl T.n_range (pa_cons pe_int pa_nil)) (pg_name (i := 7) sc_law.nd rfl (Or.inl rfl))
          (pss_one (ps_if (pt_not (pt_val (pe_dn D_law_alike hr (by omega) pass0 (pa_cons (pe_dn D_law_told hr (by omega) pass0 (pa_cons (pv 6) pa_nil)) (pa_cons (pe_dn D_law_due hr (by omega) pass0 (pa_cons (pv 6) pa_nil)) pa_nil))))) (pss_one (ps_ret pe_bl)) pss_nil)))))))))
    (pss_one (ps_ret pe_bl)))))), ?_⟩
  refine ⟨_, rfl, a, 41, ns, rfl, hS, hn, fun h l H1 f1 D1 => ?_⟩
  refine gn ?_
  dsimp only
  refine q_asgL (xs := odd11.map V.str) (el_lst (ea_cons ev_c (ea_cons ev_c (ea_cons ev_c (ea_cons ev_c (ea_cons ev_c (ea_cons ev_c (ea_cons ev_c (ea_cons ev_c (ea_cons ev_c (ea_cons ev_c (ea_cons ev_c ea_nil))))))))))) (by decide)) fun ol H2 nol f2 hol => ?_
  have D2 := D1.mono f2
  have nol' := D1.out nol
  refine q_app (l := ol) (v := .str odd12) hol (ev_var rfl) (fun H3 f3 Q z => ⟨"- ", 40, rfl, rfl, by decide +kernel, by decide +kernel, by decide, by decide, _, _, rfl, rfl, by decide +kernel, _, _, rfl, rfl, by decide +kernel, z H3 (Ex.refl _)⟩) (by decide) fun H3 f3 => ?_
  have hol3 := upd_same (H := H3) (a := ol) (o := .lst (odd11.map V.str ++ [.str odd12]))
  have D3 : Draw (upd H3 ol (.lst (odd11.map V.str ++ [.str odd12]))) h l := by
    obtain ⟨x, p, ns, e1, e2, e3⟩ := D2.mono f3
    have n1 : h ≠ ol := fun z => nol' (by rw [z]; simp)
    have n2 : l ≠ ol := fun z => nol' (by rw [z]; simp)
    exact ⟨x, p, ns, by rw [upd_ne n1]; exact e1, by rw [upd_ne n2]; exact e2, e3⟩
  rw [show odd11.map V.str ++ [.str odd12] = (odd11 ++ [odd12]).map V.str by simp] at hol3 D3
  have he : upd H3 ol (.lst (odd11.map V.str ++ [.str odd12])) = upd H3 ol (.lst ((odd11 ++ [odd12]).map V.str)) := by rw [List.map_append]; rfl
  rw [he]
  generalize upd H3 ol (.lst ((odd11 ++ [odd12]).map V.str)) = H4 at hol3 D3 ⊢
  refine q_forR1 (n := 5) (by walk_at "ea") (by decide) (fun _ σ' H' => ∃ v3 v4 v5 v6 v7 : Option V, σ' = [some (.ref a), some (.ref h), some (.ref ol), v3, v4, v5, v6, v7] ∧ Draw H' h l ∧ H' ol = some (.lst ((odd11 ++ [odd12]).map V.str)))
    (fun H5 f5 => ⟨none, none, none, none, none, rfl, D3.mono f5, f5 _ _ hol3⟩) ?_ (fun σ' H' ⟨_, _, _, _, _, e, _⟩ => by subst e; exact k _)
  rintro i σ' H2 hi ⟨v3, v4, v5, v6, v7, rfl, D2, ho2⟩
  clear hol3 D3 he f3 f2 hol H4 H3
  -- two programs
  refine ⟨_, rfl, by show 2 ≤ sizeLine; decide, fun pt nt => ⟨_, rfl, h, l, 2, rfl, (D2.mono (Ex.new (o := .lst [.int 8, .int 40]) nt)), by decide, by decide, fun z H3 z0 z1 D3 => ?_⟩⟩
  have hpt : H3 pt = some (.lst [.int 8, .int 40]) := D3.bt _ _ (D2.out nt) upd_same
  have ho3 := D3.bt _ _ nol' (Ex.new (o := .lst [.int 8, .int 40]) nt _ _ ho2)
  obtain ⟨mo, hmo, hat⟩ : ∃ mo : Nat, mo ≤ 40 ∧ atI ([.int 8, .int 40] : List V) z = some (.int (mo : Int)) := by
    have hz : z = 0 ∨ z = 1 := by omega
    rcases hz with rfl | rfl
    · exact ⟨8, by decide, rfl⟩
    · exact ⟨40, by decide, rfl⟩
  refine ⟨pt, _, z, _, rfl, rfl, SqL.of hpt, hat, h, l, 4, mo, rfl, D3.dr, by decide, by decide, hmo, fun p us ds H6 np hp6 hP6 hl6 hok6 D6 => ⟨_, rfl, h, l, 4, 12, rfl, D6.dr, by decide, by decide, by decide, fun q xs es H7 nq hq7 hX7 hl7 hok7 D7 => ?_⟩⟩
  have hp7 : H7 p = some (.lst us) := D7.bt _ _ (D3.dr.out np) hp6
  have hP7 : PV K H7 us ds := D6.dr.pv D7.bt hP6
  have ho7 := D7.bt _ _ nol' (D6.bt _ _ nol' ho3)
  have D7 := D7.dr
  have tb := tb_text (ds := ds) (es := es) (by omega) hl7
  refine ⟨p, q, us, xs, ds, es, rfl, SqL.of hp7, hP7, by omega, hok6, SqL.of hq7, hX7, by omega, hok7, fun H8 f8 => ?_⟩
  refine gn ?_
  dsimp only
  have D8 := D7.mono f8
  have ho8 := f8 _ _ ho7
  generalize textS ds es = tx at tb
  clear hp7 hP7 hq7 hX7 D7 f8 ho7 hpt ho3
  -- changes
  refine q_forRX9 (R := fun n H9 => 0 ≤ n ∧ n < 4 ∧ Drew H8 H9 h l) (fun Q z => ⟨_, rfl, h, l, 4, rfl, D8, by decide, by decide, fun r H9 r0 r1 D9 => z r H9 ⟨r0, r1, D9⟩⟩) fun n H9 ⟨n0, n1, D9⟩ => ?_
  have ho9 := D9.bt _ _ nol' ho8
  refine q_forR1 (n := n) (ea_cons ev_c ea_nil) (by omega) (fun j σ' H' => ∃ (v5 : Option V) (x : List Nat), σ' = [some (.ref a), some (.ref h), some (.ref ol), some (.int (i : Int)), some (.str (tS x)), v5, v6, v7] ∧ Draw H' h l ∧ H' ol = some (.lst ((odd11 ++ [odd12]).map V.str)) ∧ TB j x)
    (fun H10 f10 => ⟨_, tx, rfl, D9.dr.mono f10, f10 _ _ ho9, tb⟩) ?_ ?_
  · rintro j σ' H10 hj ⟨v5', x, rfl, D10, ho10, tbx⟩
    obtain ⟨x1, x2⟩ := tbx.two (by omega)
    refine ⟨_, rfl, _, rfl, h, l, x, rfl, D10, x1, x2, fun x' H11 cx D11 => ?_⟩
    exact ⟨_, x', rfl, D11.dr, D11.bt _ _ nol' ho10, tbx.next cx⟩
  rintro σ' H10 ⟨v5', x, rfl, D10, ho10, tbx⟩
  obtain ⟨x1, x2⟩ := tbx.end' (by omega)
  -- both texts
  refine s_forXL (R := fun pl H11 => ∃ o : List Nat, o.length ≤ 16000000 ∧ wt spc o ≤ 1000 ∧ Draw H11 h l ∧ H11 ol = some (.lst ((odd11 ++ [odd12]).map V.str)) ∧ H11 pl = some (.lst [.str (tS x), .str (tS o)])) (fun Q zz => ⟨_, rfl, _, rfl, _, rfl, h, l, 12, rfl, D10, by decide, by decide, fun r H11 r0 r1 D11 => ?_⟩) fun pl H11 ⟨o, o1, o2, D11, ho11, hpl⟩ => ?_
  · obtain ⟨rn, rfl⟩ : ∃ rn : Nat, r = rn := ⟨r.toNat, by omega⟩
    have hrn : rn < (odd11 ++ [odd12]).length := by show rn < 12; omega
    obtain ⟨o, ho⟩ : ∃ o, (odd11 ++ [odd12])[rn]? = some o := ⟨_, List.getElem?_eq_getElem hrn⟩
    obtain ⟨o1, o2⟩ := odd_ok o (List.mem_of_getElem? ho)
    have ho11 := D11.bt _ _ nol' ho10
    refine ⟨ol, _, (rn : Int), .str o, rfl, rfl, SqL.of ho11, atI_nat (by rw [List.getElem?_map, ho]; rfl), by show 2 ≤ sizeLine; decide, fun pl npl => zz pl _ ⟨o.cps.toList, o1, o2, D11.dr.mono (Ex.new npl), Ex.new npl _ _ ho11, ?_⟩⟩
    rw [tS_of]
    exact upd_same
  refine s_forLn (xs := [.str (tS x), .str (tS o)]) ev_c (SqL.of hpl) (fun j σ' H' => ∃ (v6 v7 : Option V), σ' = [some (.ref a), some (.ref h), some (.ref ol), some (.int (i : Int)), some (.str (tS x)), v5', v6, v7] ∧ Ex H11 H')
    (fun H12 f12 => ⟨_, _, rfl, f12⟩) (fun j σ' H' _ ⟨_, _, _, z⟩ => SqL.of (z _ _ hpl)) ?_ (fun σ' H' ⟨_, _, e, f⟩ => ⟨_, _, _, _, _, e, D11.mono f, f _ _ ho11⟩)
  rintro j y σ' H12 hy ⟨v6', v7', rfl, f12⟩
  obtain ⟨yl, rfl, y1, y2⟩ : ∃ yl : List Nat, y = .str (tS yl) ∧ yl.length ≤ 16000000 ∧ wt spc yl ≤ 1000 := by
    match j, hy with
    | 0, hy => cases hy; exact ⟨x, rfl, x1, x2⟩
    | 1, hy => cases hy; exact ⟨o, rfl, o1, o2⟩
  refine s_forR1 (n := 2) (ea_cons ev_c ea_nil) (by decide) (fun m σ' H' => ∃ (v7 : Option V), σ' = [some (.ref a), some (.ref h), some (.ref ol), some (.int (i : Int)), some (.str (tS x)), v5', some (.str (tS yl)), v7] ∧ Ex H11 H')
    (fun H13 f13 => ⟨_, rfl, f12.trans f13⟩) ?_ (fun σ' H' ⟨_, e, f⟩ => ⟨_, _, e, f⟩)
  rintro m σ' H13 hm ⟨v7'', rfl, f13⟩
  refine s_whenX (R := fun H14 => Ex H13 H14) (fun Q zz => ⟨_, rfl, yl, rfl, y1, fun v H14 f14 dv => ⟨_, rfl, yl, rfl, y1, y2, fun u H15 f15 du => ?_⟩⟩) fun H14 f14 => ⟨_, rfl, f13.trans f14⟩
  have al := sp_law_alike_v (K := K) (n := 3) (dp_mono f15 _ _ dv) du (nice_R yl)
  show sp_law_alike K 4 [v, u] _ (fun x H1 => ∃ c, x = V.bl c ∧ Q (!c) H1) E0
  exact al _ (Ex.refl _) _ (fun H16 f16 => ⟨true, rfl, zz H16 ((f14.trans f15).trans f16)⟩) E0

theorem all_mk {l : PySem.W.OpenLaw} {w : World} {K : PySem.W.Frag} {h : Heap} {mg : Str → Option Value} {fa f fi : Addr} {aR aW a1 a2 a3 a4 a5 a6 a7 : Addr} {t4 t40 : Tok} {od an od2 an2 : Option Addr} {sl sl2 : Array (Option Value)} {oc kV dc pm cd ct oc2 kV2 dc2 pm2 cd2 ct2 : Value}
    (X : K.In h) (G : h.Ns mainGlobals mg) (hfa : mg "law" = some (.ref fa)) (T : Nb mg) (TP : TxP K mg aR aW t4 t40) (Z : ClsG K mg a1 a2 a3 a4 a5 a6 a7)
    (B : mg "DoorError" = some (.ref a1) → BaseX K mg a1) (OX : mg "BadText" = some (.ref a7) → OwnX K mg "BadText" a7 a1 fi "row" "place") (Y : TxtE K a2 a3 a4 a5 a6 a7)
    (lI : K.lookup fi = some ⟨oc2, od2, .func (PySem.W.fnOf "__init__" "BadText.__init__" (defArgs s_BadText_init) (defBody s_BadText_init) (defScope s_BadText_init) .none kV2 dc2 pm2 an2 cd2 ct2), sl2⟩) (cI : PySem.W.codeIn K cd2 "BadText.__init__" = true) (kI : PySem.W.keepIn K (.ref fi) = true)
    (aL : PySem.W.nsIn K mainGlobals "law" = some (some (.ref f))) (lL : K.lookup f = some ⟨oc, od, .func (PySem.W.fnOf "law" "law" (defArgs s_law) (defBody s_law) (defScope s_law) .none kV dc pm an cd ct), sl⟩) (cL : PySem.W.codeIn K cd "law" = true) (kL : PySem.W.keepIn K (.ref f) = true)
    (h_word_of : Has K mg "word_of" s_word_of) (h_deeds_by_word : Has K mg "deeds_by_word" s_deeds_by_word) (h_program_of : Has K mg "program_of" s_program_of) (h_read : Has K mg "read" s_read) (h_law_mix : Has K mg "_law_mix" s_law_mix) (h_law_next : Has K mg "_law_next" s_law_next) (h_law_alike : Has K mg "_law_alike" s_law_alike) (h_law_deed : Has K mg "_law_deed" s_law_deed) (h_law_program : Has K mg "_law_program" s_law_program) (h_law_text : Has K mg "_law_text" s_law_text) (h_law_word : Has K mg "_law_word" s_law_word) (h_law_due : Has K mg "_law_due" s_law_due) (h_law_told : Has K mg "_law_told" s_law_told) (h_law_changed : Has K mg "_law_changed" s_law_changed) :
    ∃ fd : FuncData, (∀ (s : Shared) (v : Value), BindsTo s fd ⟨[v], []⟩ [("_law_script", v)]) ∧ ∀ base : Heap, K.In base → base.Ns mainGlobals mg → FnOk l.prog w K mg base CX0 7 fa fd ["_law_script"] (sp_law K) := by
  have e := hfa.symm.trans (PySem.W.mg_of X G aL)
  cases e
  have F := fun_mk (st := s_law) lL cL kL
  refine ⟨PySem.W.fnOf "law" "law" (defArgs s_law) (defBody s_law) (defScope s_law) .none kV dc pm an cd ct, fun s v => .of_eq rfl, fun base _ _ => ?_⟩
  · have OB := B Z.g_DoorError
    have OT := OX Z.g_BadText
    have FI := fun_mk (st := s_BadText_init) lI cI kI
    have I1 := d_BadText_init (P := l.prog) (w := w) (base := base) OB FI
    have B1 := FI.binds (ps := ["self", "row", "place"]) fun _ _ _ _ _ _ us hl => match us, hl with | [_, _, _], _ => rfl
    have x1 := d_word_of (P := l.prog) (w := w) (base := base) h_word_of
    have x2 := d_deeds_by_word T TP x1 h_deeds_by_word
    have x4 := d_program_ofX T TP OT I1 B1 x2 h_program_of
    have x6 := d_readX T OT I1 B1 x4 h_read
    have v1 := d_law_mix (P := l.prog) (w := w) (base := base) T h_law_mix
    have v2 := d_law_next (P := l.prog) (w := w) (base := base) T h_law_next
    have v3 := d_law_deed T v2 h_law_deed
    have v4 := d_law_program T v2 v3 h_law_program
    have v6 := d_law_alike (P := l.prog) (w := w) (base := base) T h_law_alike 4
    have v7 := d_law_text (P := l.prog) (w := w) (base := base) T h_law_text
    have v8 := d_law_word (P := l.prog) (w := w) (base := base) T h_law_word
    have v9 := d_law_told T Z Y OT x6 h_law_told
    have v10 := d_law_due T v8 h_law_due
    have v11 := d_law_changed T v2 h_law_changed
    exact d_law T v1 v2 v4 v7 v6 v11 v9 v10 F
theorem walk {l : PySem.W.OpenLaw} {q : Program} {loose : List Str} {XP : (Str → Option Value) → Heap → Prop} {YP : World → Heap → Prop} {d : DefRec} {K : Params → PySem.W.Frag} (hn : l.most = some 63) (hdf : d.params.defaults = [])
    (hY : ∀ (w : World) (h : Heap), YP w h → (K w.params).In h)
    (F : ∀ (w : World) (mg : Str → Option Value) (fa : Addr) (h : Heap), (K w.params).In h → h.Ns mainGlobals mg → mg d.name = some (.ref fa) →
      ∃ fd : FuncData, (∀ (s : Shared) (u : Value), BindsTo s fd ⟨[u], []⟩ [("_law_script", u)]) ∧ ∀ base : Heap, (K w.params).In base → base.Ns mainGlobals mg → FnOk l.prog w (K w.params) mg base CX0 7 fa fd ["_law_script"] (sp_law (K w.params))) :
    PySem.W.WalkO q loose XP YP l.row.toRowW d [] (fun f vs => PySem.call f vs) :=
  L2.walk_of (n := 63) (k := 7) (x := "_law_script") (CX := fun _ => CX0) (sp := fun w => sp_law (K w.params)) hn (by decide) hdf ⟨rfl, by decide, by decide⟩ hY F (fun _ _ a ns hl _ hS => ⟨a, ns, rfl, hS, hl, fun _ => rfl⟩) fun _ _ _ _ _ z => z

end
end Db

open PySem PySem.W PyProof.Rows
set_option maxRecDepth 100000 in
set_option maxHeartbeats 0 in
theorem PySem.Challenge.cw_doorbeat_k12_texts_that_tell_no_programs_holds : PySem.Challenge.rw_doorbeat_k12_texts_that_tell_no_programs.Holds := by
  w_on; o_law; k_head; (case hw => w_witness2)
  k_fill
  refine Db.walk (l := PySem.Challenge.rw_doorbeat_k12_texts_that_tell_no_programs) rfl rfl (fun w h Y => PySem.W.kIn_of Y) ?F
  case F =>
    intro w mg fa h KX G hmg
    refine' Db.all_mk KX G hmg ?T ?TP ?Z ?B ?OX ?Y ?lI ?cI ?kI ?aL ?lL ?cL ?kL ?h_word_of ?h_deeds_by_word ?h_program_of ?h_read ?h_law_mix ?h_law_next ?h_law_alike ?h_law_deed ?h_law_program ?h_law_text ?h_law_word ?h_law_due ?h_law_told ?h_law_changed
    case T => refine' Db.nb_mk KX G ?b1 ?b2 ?b3 ?b4 ?b5 ?b6 ?b7 ?b8 ?b9 ?b10 ?b11 ?b12 <;> k_is
    case TP => (refine' Db.txp_mk KX G ?a1 ?l1 ?a2 ?l2 ?c4 ?c40; (case a1 => k_is); (case l1 => k_is); (case a2 => k_is); (case l2 => k_is); (case c4 => k_is); (case c40 => k_is))
    (case Z => (refine' Db.clsG_mk KX G ?q0 ?q1 ?q2 ?q3 ?q4 ?q5 ?q6 ?q7; (case q0 => k_is); (case q1 => k_is); (case q2 => k_is); (case q3 => k_is); (case q4 => k_is); (case q5 => k_is); (case q6 => k_is); (case q7 => k_is)))
    (case B => intro gB; (refine' Db.baseX_mk gB ?q0 ?q1 ?q2; (case q0 => k_is); (case q1 => k_is); (case q2 => k_is)))
    (case OX => intro gO; refine' Db.ownX_mk gO ?oT ?oX ?oi ?ot ?on ?om ?oe; (case oT => (refine' Db.oexC_mk ?l ?r ?sa ?ex ?ty ?kp; (case l => k_is); (case r => decide +kernel); (case sa => k_is); (case ex => k_is); (case ty => k_is); (case kp => k_is))); (case oX => (refine' Db.xfC_mk ?q0 ?q1 ?q2 ?q3; (case q0 => k_is); (case q1 => k_is); (case q2 => k_is); (case q3 => k_is))); (case oi => k_is); (case ot => k_is); (case on => k_is); (case om => k_is); (case oe => (refine' Db.exm_of ?q0 ?q1 ?q2 ?q3; (case q0 => k_is); (case q1 => k_is); (case q2 => k_is); (case q3 => k_is))))
    (case Y => refine' Db.txtE_mk ?ic ?c1 ?c2 ?c3 ?c4 ?c5 ?s1 ?s2 ?s3 ?s4 ?s5 ?n1 ?n2 ?n3 ?n4 ?n5 ?s7; (case ic => (refine' Db.isC_mk ?xf ?e1 ?e2 ?e3 ?e4; (case xf => (refine' Db.xfC_mk ?q0 ?q1 ?q2 ?q3; (case q0 => k_is); (case q1 => k_is); (case q2 => k_is); (case q3 => k_is))); (case e1 => k_is); (case e2 => k_is); (case e3 => k_is); (case e4 => k_is))); (case c1 => (refine' ⟨?u, ?v⟩; (case u => k_is); (case v => k_is))); (case c2 => (refine' ⟨?u, ?v⟩; (case u => k_is); (case v => k_is))); (case c3 => (refine' ⟨?u, ?v⟩; (case u => k_is); (case v => k_is))); (case c4 => (refine' ⟨?u, ?v⟩; (case u => k_is); (case v => k_is))); (case c5 => (refine' ⟨?u, ?v⟩; (case u => k_is); (case v => k_is))); (case s1 => k_is); (case s2 => k_is); (case s3 => k_is); (case s4 => k_is); (case s5 => k_is); (case n1 => decide); (case n2 => decide); (case n3 => decide); (case n4 => decide); (case n5 => decide); (case s7 => k_is))
    (case lI => k_is)
    (case cI => k_is)
    (case kI => k_is)
    (case aL => k_is)
    (case lL => k_is)
    (case cL => k_is)
    (case kL => k_is)
    case h_word_of => (refine' Db.has_mk KX G ?a ?l ?c ?k; (case a => k_is); (case l => k_is); (case c => k_is); (case k => k_is))
    case h_deeds_by_word => (refine' Db.has_mk KX G ?a ?l ?c ?k; (case a => k_is); (case l => k_is); (case c => k_is); (case k => k_is))
    case h_program_of => (refine' Db.has_mk KX G ?a ?l ?c ?k; (case a => k_is); (case l => k_is); (case c => k_is); (case k => k_is))
    case h_read => (refine' Db.has_mk KX G ?a ?l ?c ?k; (case a => k_is); (case l => k_is); (case c => k_is); (case k => k_is))
    case h_law_mix => (refine' Db.has_mk KX G ?a ?l ?c ?k; (case a => k_is); (case l => k_is); (case c => k_is); (case k => k_is))
    case h_law_next => (refine' Db.has_mk KX G ?a ?l ?c ?k; (case a => k_is); (case l => k_is); (case c => k_is); (case k => k_is))
    case h_law_alike => (refine' Db.has_mk KX G ?a ?l ?c ?k; (case a => k_is); (case l => k_is); (case c => k_is); (case k => k_is))
    case h_law_deed => (refine' Db.has_mk KX G ?a ?l ?c ?k; (case a => k_is); (case l => k_is); (case c => k_is); (case k => k_is))
    case h_law_program => (refine' Db.has_mk KX G ?a ?l ?c ?k; (case a => k_is); (case l => k_is); (case c => k_is); (case k => k_is))
    case h_law_text => (refine' Db.has_mk KX G ?a ?l ?c ?k; (case a => k_is); (case l => k_is); (case c => k_is); (case k => k_is))
    case h_law_word => (refine' Db.has_mk KX G ?a ?l ?c ?k; (case a => k_is); (case l => k_is); (case c => k_is); (case k => k_is))
    case h_law_due => (refine' Db.has_mk KX G ?a ?l ?c ?k; (case a => k_is); (case l => k_is); (case c => k_is); (case k => k_is))
    case h_law_told => (refine' Db.has_mk KX G ?a ?l ?c ?k; (case a => k_is); (case l => k_is); (case c => k_is); (case k => k_is))
    case h_law_changed => (refine' Db.has_mk KX G ?a ?l ?c ?k; (case a => k_is); (case l => k_is); (case c => k_is); (case k => k_is))
