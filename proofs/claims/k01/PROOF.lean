import PyProof.Rows.All
import Wide.All
import OpenK.AllK
import Wide.FinOn
import HandS.ForMost
import HandS.Evl
import HandS.Wide
import HandS.IsInst
import HandS.CallLocal
import HandS.Defaults
import HandS.Walk
import HandS.More
import KE.KDictZip
import HandS.Star
import HandS.Text
import PyProof.Draws
import PyProof.StrOps2
import PyProof.Rows.StrMul
import PyProof.Rows.RegReprOcc
import HandS.TupSets
import KE.KeyNested
import KE.KDictKeyed
import HandS.SetBool
import KE.SortData
import KE.DataEq
import PyProof.StrLawsTight
import PyProof.StrLawsChain
import HandS.Conv
import HandS.TupAny
import HandS.FStr
import HandS.DictComp
import HandS.Dict
import HandS.ExcInit
import HandS.ExcField
import HandS.ExcIs
import HandS.WordsExc
import OpenK.KCls
import KE.KExcIs
import HandS.Lambda
import HandS.Nested
import KE.KDflt
import HandS.CallSlots
import HandS.Small
import PyProof.ExcBaseAll.ValueError
import HandS.List
import HandS.Replace
import HandS.ReplaceLit
import HandS.ReplaceList
import HandS.TupMul
import HandS.EndTab
import PySem.Challenge.RW_doorbeat_k01_programs_refused
set_option Elab.async false
set_option linter.all false
set_option maxRecDepth 100000
set_option maxHeartbeats 4000000
namespace Db
open PySem L2 Evl

/-! ### a def of the text by its name -/
structure Has (K : PySem.W.Frag) (mg : Str → Option Value) (x : Str) (st : Stmt) : Prop where
  ex : ∃ f fd, Fun K x x st f fd ∧ mg x = some (.ref f)
structure Dn (P : Program) (w : World) (K : PySem.W.Frag) (mg : Str → Option Value) (base : Heap) (CX : CXT) (x : Str) (ps : List Str) (k : Nat) (sp : Sp) : Prop where
  ex : ∃ f fd, FnOk P w K mg base CX k f fd ps sp ∧ mg x = some (.ref f) ∧ PySem.W.keepIn K (.ref f) = true ∧ Binds K fd ps []
theorem dn_of {P : Program} {w : World} {K : PySem.W.Frag} {mg : Str → Option Value} {base : Heap} {CX : CXT} {x : Str} {ps : List Str} {k : Nat} {sp : Sp} {st : Stmt} (h : Has K mg x st)
    (hb : ∀ f fd, Fun K x x st f fd → Binds K fd ps []) (hf : ∀ f fd, Fun K x x st f fd → mg x = some (.ref f) → FnOk P w K mg base CX k f fd ps sp) : Dn P w K mg base CX x ps k sp := by
  obtain ⟨f, fd, F, hm⟩ := h.ex
  exact ⟨f, fd, hf f fd F hm, hm, F.kp, hb f fd F⟩
theorem has_mk {K : PySem.W.Frag} {h : Heap} {mg : Str → Option Value} {x : Str} {st : Stmt} {f : Addr} {oc : Value} {od an : Option Addr} {osl : Array (Option Value)} {kV doc pm cdv ct : Value} (X : K.In h) (G : h.Ns mainGlobals mg)
    (a : PySem.W.nsIn K mainGlobals x = some (some (.ref f)))
    (l : K.lookup f = some ⟨oc, od, .func (PySem.W.fnOf x x (defArgs st) (defBody st) (defScope st) .none kV doc pm an cdv ct), osl⟩)
    (c : PySem.W.codeIn K cdv x = true) (k : PySem.W.keepIn K (.ref f) = true) : Has K mg x st := ⟨f, _, fun_mk l c k, PySem.W.mg_of X G a⟩
section
variable {X : Cx}
theorem pe_dn {CX : CXT} {x : Str} {ps : List Str} {k j : Nat} {sp : Sp} {E : XK} {e : Expr} {es : List Expr} {t : TA} {p pos : Pos} (h : Dn X.prog X.w X.K X.mg X.base CX x ps k sp) (hr : Room j X.A) (hk : k ≤ j) (hx : Passes CX X E)
    (ha : PA X (e :: es) t) (hg : Gl X x := by rfl) (hdb : (x == ("__debug__" : Str)) = false := by decide) (he : starEach (e :: es) X.env = (false, eval e X.env) :: starEach es X.env := by rfl)
    (hpl : (backTo pos (starEach es X.env)).any (·.1) = false := by rfl) : PE X (.Call (.Name x p) (e :: es) [] pos) (tCall sp [] E t) := by
  obtain ⟨f, fd, F, hm, kp, b⟩ := h.ex
  exact pe_call F (hr.mono hk) hg hm kp b .nil hx ha hdb he hpl
end

/-- names of the built-ins that no def or constant hides -/
structure Nb (mg : Str → Option Value) : Prop where
  n_len : mg "len" = none
  n_isinstance : mg "isinstance" = none
  n_max : mg "max" = none
  n_min : mg "min" = none
  n_range : mg "range" = none
  n_enumerate : mg "enumerate" = none
  n_zip : mg "zip" = none
  n_list : mg "list" = none
  n_tuple : mg "tuple" = none
  n_int : mg "int" = none
  n_bool : mg "bool" = none
  n_str : mg "str" = none
/-! ### a def that only looks: R of the arguments, the heap, the value -/
def spF (n : Nat) (R : List V → Hp → V → Prop) : Sp := fun vs H Q _ => vs.length = n ∧ ∃ v, R vs H v ∧ ∀ H', Ex H H' → Q v H'
theorem spF_v {n : Nat} {R : List V → Hp → V → Prop} {vs : List V} {H : Hp} {v : V} (hl : vs.length = n) (h : ∀ H1, Ex H H1 → R vs H1 v) : SpV (spF n R) vs H v := fun H1 e Q q _ => ⟨hl, v, h H1 e, q⟩

/-! ### deeds -/
inductive Deed where
  | rd (c : Nat) | wr (c w : Nat) | rs
  deriving DecidableEq
def Deed.vals : Deed → List V
  | .rd c => [.str "read", .int (c : Int)]
  | .wr c w => [.str "write", .int (c : Int), .int (w : Int)]
  | .rs => [.str "rest"]
def Deed.ok (n : Nat) : Deed → Prop
  | .rd c => c < n
  | .wr c w => c < n ∧ w < 3
  | .rs => True
def Deed.ok.mono {n m : Nat} (h : n ≤ m) : ∀ {d : Deed}, d.ok n → d.ok m
  | .rd _, x => Nat.lt_of_lt_of_le (show _ < n from x) h
  | .wr _ _, x => ⟨Nat.lt_of_lt_of_le x.1 h, x.2⟩
  | .rs, _ => True.intro
/-- the value v is the deed d -/
def DV (K : PySem.W.Frag) (H : Hp) (v : V) (d : Deed) : Prop := ∃ a, v = .ref a ∧ SqT K H a d.vals
theorem DV.mono {K : PySem.W.Frag} {H H' : Hp} {v : V} {d : Deed} (e : Ex H H') (h : DV K H v d) : DV K H' v d := by
  obtain ⟨a, h1, h2⟩ := h
  exact ⟨a, h1, ex_t e h2⟩
def Deed.dat : Deed → List PyData
  | .rd c => [.str "read", .int (c : Int)]
  | .wr c w => [.str "write", .int (c : Int), .int (w : Int)]
  | .rs => [.str "rest"]
theorem DV.dp {K : PySem.W.Frag} {H : Hp} {v : V} {d : Deed} (h : DV K H v d) : Dp K H v (.tuple d.dat) := by
  obtain ⟨a, rfl, h2⟩ := h
  cases d with
  | rd c => exact .tup h2 (.cons (.str _) (.cons (.int _) .nil))
  | wr c w => exact .tup h2 (.cons (.str _) (.cons (.int _) (.cons (.int _) .nil)))
  | rs => exact .tup h2 (.cons (.str _) .nil)
/-- data of no more than n levels, laid out as the library wants it -/
structure Sh (n : Nat) (d : PyData) : Prop where
  lay : d.canLay0 = true
  dep : d.depth ≤ n
theorem Sh.mono {n m : Nat} {d : PyData} (h : Sh n d) (l : n ≤ m) : Sh m d := ⟨h.lay, Nat.le_trans h.dep l⟩
theorem Sh.shaped {n : Nat} {d : PyData} (h : Sh n d) (l : n ≤ 64) : SeqAt.shaped d = true := by
  unfold SeqAt.shaped
  rw [h.lay, decide_eq_true (Nat.le_trans h.dep l)]
  rfl
theorem sh_int {n : Nat} {i : Int} : Sh n (.int i) := ⟨by simp [PyData.canLay0], by simp [PyData.depth]⟩
theorem sh_bool {n : Nat} {i : Bool} : Sh n (.bool i) := ⟨by simp [PyData.canLay0], by simp [PyData.depth]⟩
theorem sh_none {n : Nat} : Sh n .none := ⟨by simp [PyData.canLay0], by simp [PyData.depth]⟩
theorem sh_str {n : Nat} {x : Str} (h : PyData.strOk x = true) : Sh n (.str x) := ⟨by simpa [PyData.canLay0] using h, by simp [PyData.depth]⟩
theorem sh_all {n : Nat} : ∀ {ds : List PyData}, (∀ d ∈ ds, Sh n d) → PyData.canLayAll0 ds = true ∧ PyData.depthAll ds ≤ n
  | [], _ => ⟨by simp [PyData.canLayAll0], by simp [PyData.depthAll]⟩
  | d :: r, h => by
    have h1 := h d List.mem_cons_self
    have h2 := sh_all (ds := r) fun x hx => h x (List.mem_cons_of_mem _ hx)
    refine ⟨?_, ?_⟩
    · rw [PyData.canLayAll0, h1.lay, h2.1]
      rfl
    · rw [PyData.depthAll]
      exact Nat.max_le.mpr ⟨h1.dep, h2.2⟩
theorem sh_tup {n : Nat} {ds : List PyData} (h : ∀ d ∈ ds, Sh n d) : Sh (n + 1) (.tuple ds) := by
  have q := sh_all h
  refine ⟨?_, ?_⟩
  · rw [PyData.canLay0]
    exact q.1
  · rw [PyData.depth]
    exact Nat.succ_le_succ q.2
theorem sh_lst {n : Nat} {ds : List PyData} (h : ∀ d ∈ ds, Sh n d) : Sh (n + 1) (.list ds) := by
  have q := sh_all h
  refine ⟨?_, ?_⟩
  · rw [PyData.canLay0]
    exact q.1
  · rw [PyData.depth]
    exact Nat.succ_le_succ q.2
theorem sh_ints (ns : List Int) : Sh 1 (.list (ns.map PyData.int)) := sh_lst fun d hd => by
  obtain ⟨n, _, rfl⟩ := List.mem_map.mp hd
  exact sh_int
theorem dpa_ints {K : PySem.W.Frag} {H : Hp} : ∀ ns : List Int, DpAll K H (ns.map V.int) (ns.map PyData.int)
  | [] => .nil
  | n :: r => .cons (.int n) (dpa_ints r)
theorem Sh.eqv {n : Nat} {d : PyData} (h : Sh n d) : PyData.eqv d d = true := SeqAt.eqv_refl d h.lay
theorem sk_read : PyData.strOk "read" = true := by decide +kernel
theorem sk_write : PyData.strOk "write" = true := by decide +kernel
theorem sk_rest : PyData.strOk "rest" = true := by decide +kernel
theorem Deed.sh (d : Deed) : Sh 1 (.tuple d.dat) := by
  cases d with
  | rd c => exact sh_tup (by simp only [Deed.dat, List.mem_cons, List.not_mem_nil, or_false]; rintro d (rfl | rfl) <;> first | exact sh_str sk_read | exact sh_int)
  | wr c w => exact sh_tup (by simp only [Deed.dat, List.mem_cons, List.not_mem_nil, or_false]; rintro d (rfl | rfl | rfl) <;> first | exact sh_str sk_write | exact sh_int)
  | rs => exact sh_tup (by simp only [Deed.dat, List.mem_cons, List.not_mem_nil, or_false]; rintro d rfl; exact sh_str sk_rest)
theorem Deed.eqv_rs (d : Deed) : PyData.eqv (.tuple d.dat) (.tuple Deed.rs.dat) = decide (d = .rs) := by
  cases d with
  | rd c => simp [Deed.dat, PyData.eqv, PyData.eqvAll]
  | wr c w => simp [Deed.dat, PyData.eqv, PyData.eqvAll]
  | rs => simp [Deed.dat, PyData.eqv, PyData.eqvAll]
/-- a program: its values, its deeds -/
def PV (K : PySem.W.Frag) (H : Hp) (vs : List V) (ds : List Deed) : Prop := Paired (DV K H) vs ds

/-! ### evaluation, some more -/
section
variable {K : PySem.W.Frag} {σ : L2.St} {H H' : Hp} {ta tb te tx : TE} {t u : TT} {x y z v : V}
theorem rc_len {p : Addr} {xs : List V} (h : SqL K H p xs ∨ SqT K H p xs) : RC (rLenS K) [.ref p] H (.int (xs.length : Int)) := fun H1 e _ q => ⟨p, xs, rfl, h.imp (ex_l e) (ex_t e), q H1 (Ex.refl H1)⟩
theorem rc_lenL {p : Addr} {xs : List V} (h : SqL K H p xs) : RC (rLenS K) [.ref p] H (.int (xs.length : Int)) := rc_len (.inl h)
theorem rc_lenT {p : Addr} {xs : List V} (h : SqT K H p xs) : RC (rLenS K) [.ref p] H (.int (xs.length : Int)) := rc_len (.inr h)
theorem rc_max {i j : Int} : RC rMax2 [.int i, .int j] H (.int (if j > i then j else i)) := fun H1 _ _ q => ⟨i, j, rfl, q H1 (Ex.refl H1)⟩
/-- a value's type that stays -/
def TyS (K : PySem.W.Frag) (H : Hp) (x : V) (t : Value) : Prop := ∀ H1, Ex H H1 → TyX K H1 x t
theorem tys_int {i : Int} : TyS K H (.int i) (.type "int") := fun _ _ => .base (.int i)
theorem tys_str {i : Str} : TyS K H (.str i) (.type "str") := fun _ _ => .base (.str i)
theorem tys_bl {i : Bool} : TyS K H (.bl i) (.type "bool") := fun _ _ => .base (.bl i)
theorem tys_non : TyS K H .non (.type "NoneType") := fun _ _ => .base .non
theorem tys_tup {a : Addr} {xs : List V} (h : SqT K H a xs) : TyS K H (.ref a) (.type "tuple") := fun H1 e => by
  rcases ex_t e h with (h | ⟨o, h⟩) | ⟨o, its, n, h, c, _⟩
  · exact .base (.tup h)
  · exact .fTuple h
  · exact .kTuple h c
theorem tys_lst {a : Addr} {xs : List V} (h : SqL K H a xs) : TyS K H (.ref a) (.type "list") := fun H1 e => by
  rcases ex_l e h with (h | ⟨o, h⟩) | ⟨o, its, n, h, c, _⟩
  · exact .base (.lst h)
  · exact .base (.frz h)
  · exact .kList h c
theorem rc_isi {c : String} {t : Value} {b : Bool} (h : TyS K H x t) (k : PySem.W.kitOne K t (.type c) = some b) : RC (rIsi K) [x, .ty c] H (.bl b) := fun H1 e _ q => ⟨x, .ty c, t, .type c, b, rfl, .ty c, h H1 e, k, q H1 (Ex.refl H1)⟩
theorem rc_isiB {c d : String} {b : Bool} (h : TyS K H x (.type d)) (k : kitB d c = some b) : RC (rIsi K) [x, .ty c] H (.bl b) := rc_isi h (kit_ty k)
/-- isinstance(x, (c, d)) -/
theorem ev_isi2 {c d f : String} {b1 b2 : Bool} (hx : Ev te σ H x) (h : TyS K H x (.type f)) (k1 : kitB f c = some b1) (k2 : kitB f d = some b2) :
    Ev (tCB (rIsiT K) (tCons te (tCons (tTup (tCons (tC (.ty c)) (tCons (tC (.ty d)) tNil))) tNil))) σ H (.bl (b1 || b2)) := fun H1 e Q q =>
  hx H1 e _ fun H2 e2 => ⟨by show 2 ≤ sizeLine; decide, fun p hp => ⟨x, p, [.ty c, .ty d], .type f, [.type c, .type d], b1 || b2, rfl, upd_same, .cons (.ty c) (.cons (.ty d) .nil), h _ ((e.trans e2).trans (Ex.new hp)),
    kitAny_cons (kit_ty k1) (fun h1 => kitAny_cons (kit_ty k2) (fun h2 => by rw [h1, h2]; exact kitAny_nil) (fun h2 => by rw [h2]; cases b1 <;> rfl)) (fun h1 => by rw [h1]; rfl), q _ (e2.trans (Ex.new hp))⟩⟩
/-! == and != of data -/
mutual
theorem dp_mono (e : Ex H H') : ∀ (d : PyData) (v : V), Dp K H v d → Dp K H' v d
  | .none, _, h => by cases h; exact .non
  | .bool b, _, h => by cases h; exact .bl b
  | .int i, _, h => by cases h; exact .int i
  | .str x, _, h => by cases h; exact .str x
  | .list ds, _, h => by
    cases h with
    | lst q r => exact .lst (ex_l e q) (dpAll_mono e ds _ r)
  | .tuple ds, _, h => by
    cases h with
    | tup q r => exact .tup (ex_t e q) (dpAll_mono e ds _ r)
  | .dict kvs, _, h => by cases h
theorem dpAll_mono (e : Ex H H') : ∀ (ds : List PyData) (vs : List V), DpAll K H vs ds → DpAll K H' vs ds
  | [], _, h => by cases h; exact .nil
  | d :: ds, _, h => by
    cases h with
    | cons a b => exact .cons (dp_mono e d _ a) (dpAll_mono e ds _ b)
end
theorem rv_eqD {d e : PyData} {n m : Nat} (hx : Dp K H x d) (hy : Dp K H y e) (hd : Sh n d) (he : Sh m e) (hn : n ≤ 64) (hm : m ≤ 64) : RV (rEqD K) x y H (.bl (PyData.eqv d e)) := fun H1 a _ q =>
  ⟨d, e, dp_mono a d x hx, dp_mono a e y hy, hd.shaped hn, he.shaped hm, q H1 (Ex.refl H1)⟩
theorem rv_neD {d e : PyData} {n m : Nat} (hx : Dp K H x d) (hy : Dp K H y e) (hd : Sh n d) (he : Sh m e) (hn : n ≤ 64) (hm : m ≤ 64) : RV (rNeD K) x y H (.bl (!PyData.eqv d e)) := fun H1 a _ q =>
  ⟨d, e, dp_mono a d x hx, dp_mono a e y hy, hd.shaped hn, he.shaped hm, q H1 (Ex.refl H1)⟩
theorem rv_is {r : R2} {w : V} (h : RV r x y H z) (e : z = w) : RV r x y H w := by
  rw [← e]
  exact h
/-- an if of one kind or the other, the value known -/
theorem ev_ifT (h : EvT t σ H true) (h1 : Ev ta σ H v) : Ev (tIf t ta tb) σ H v := ev_if h (fun _ => h1) (fun z => nomatch z)
theorem ev_ifF (h : EvT t σ H false) (h1 : Ev tb σ H v) : Ev (tIf t ta tb) σ H v := ev_if h (fun z => nomatch z) (fun _ => h1)
/-- a < b < c -/
theorem ev_chain {r r' : R2} {tc : TE} {w : V} {a b : Bool} (h1 : Ev ta σ H x) (h2 : Ev tb σ H y) (hr : RV r x y H (.bl a)) (h3 : a = true → Ev tc σ H w) (hr' : a = true → RV r' y w H (.bl b)) : Ev (tChain r r' ta tb tc) σ H (.bl (a && b)) := fun H1 e Q q =>
  h1 H1 e _ fun H2 e2 => h2 H2 (e.trans e2) _ fun H3 e3 => hr H3 ((e.trans e2).trans e3) _ fun H4 e4 => ⟨a, rfl, by
    have e04 := ((e.trans e2).trans e3).trans e4
    cases a with
    | false =>
      show Q (.bl false) H4
      exact q H4 ((e2.trans e3).trans e4)
    | true =>
      show tc σ H4 _
      exact h3 rfl H4 e04 _ fun H5 e5 => hr' rfl H5 (e04.trans e5) _ fun H6 e6 => q H6 ((((e2.trans e3).trans e4).trans e5).trans e6)⟩
end

/-! ### data of any kind, two of them alike -/
/-- an item of a list or a tuple -/
def rIxA (K : PySem.W.Frag) : R2 := fun x y H Q => rIxL K x y H Q ∨ rIxT K x y H Q
theorem ix_any {X : Cx} : IxR X (rIxA X.K) := fun value slice pins s σ H x y v u Q I rx ry q hs => by
  rcases q with q | q
  · exact ix_list value slice pins s σ H x y v u Q I rx ry q hs
  · exact ix_tup value slice pins s σ H x y v u Q I rx ry q hs
/-! rules that name the written part by itself (for a comprehension's block) -/
section
variable {X : Cx} (K : PySem.W.Frag) (e : X.K = K := by rfl)
include e
theorem ix_anyK : IxR X (rIxA K) := by subst e; exact ix_any
theorem ix_listK : IxR X (rIxL K) := by subst e; exact ix_list
theorem ix_tupK : IxR X (rIxT K) := by subst e; exact ix_tup
theorem call_len_seqK : CallR X (.builtin "len") (rLenS K) := by subst e; exact call_len_seq
theorem call_isiK2 : CallR X (.builtin "isinstance") (rIsi K) := by subst e; exact call_isi
theorem call_isiTK : CallR X (.builtin "isinstance") (rIsiT K) := by subst e; exact call_isiT
theorem op_eqDK (hu : X.A.units + 64 < cLine) : OpR X (compareOp .Eq) (rEqD K) := by subst e; exact op_eqD hu
theorem op_neDK (hu : X.A.units + 64 < cLine) : OpR X (compareOp .NotEq) (rNeD K) := by subst e; exact op_neD hu
theorem op_in_seqK : OpR X (compareOp .In) (rIn K false) := by subst e; exact op_in_seq
theorem op_notIn_seqK : OpR X (compareOp .NotIn) (rIn K true) := by subst e; exact op_notIn_seq
theorem call_list_ofK : CallR X (.type "list") (rListS K) := by subst e; exact call_list_of
end
def SqA (K : PySem.W.Frag) (H : Hp) (p : Addr) (xs : List V) : Prop := SqL K H p xs ∨ SqT K H p xs
theorem ex_a {K : PySem.W.Frag} {H H' : Hp} {p : Addr} {xs : List V} (e : Ex H H') (h : SqA K H p xs) : SqA K H' p xs := h.imp (ex_l e) (ex_t e)
theorem rv_ixA {K : PySem.W.Frag} {H : Hp} {p : Addr} {xs : List V} {i : Int} {v : V} (h : SqA K H p xs) (ha : atI xs i = some v) : RV (rIxA K) (.ref p) (.int i) H v := fun H1 e _ q => by
  rcases ex_a e h with h | h
  · exact .inl ⟨p, xs, i, v, rfl, rfl, h, ha, q H1 (Ex.refl H1)⟩
  · exact .inr ⟨p, xs, i, v, rfl, rfl, h, ha, q H1 (Ex.refl H1)⟩
/-- data of up to n levels, each list of up to a thousand -/
inductive Nice : Nat → PyData → Prop where
  | non {n : Nat} : Nice n .none
  | bl {n : Nat} (b : Bool) : Nice n (.bool b)
  | int {n : Nat} (i : Int) : Nice n (.int i)
  | str {n : Nat} {x : Str} : PyData.strOk x = true → Nice n (.str x)
  | lst {n : Nat} {ds : List PyData} : ds.length ≤ 1000 → (∀ d ∈ ds, Nice n d) → Nice (n + 1) (.list ds)
  | tup {n : Nat} {ds : List PyData} : ds.length ≤ 1000 → (∀ d ∈ ds, Nice n d) → Nice (n + 1) (.tuple ds)
theorem Nice.sh : ∀ {n : Nat} {d : PyData}, Nice n d → Sh n d
  | _, _, .non => sh_none
  | _, _, .bl _ => sh_bool
  | _, _, .int _ => sh_int
  | _, _, .str h => sh_str h
  | _, _, .lst _ h => sh_lst fun d hd => Nice.sh (h d hd)
  | _, _, .tup _ h => sh_tup fun d hd => Nice.sh (h d hd)
theorem Nice.mono {n : Nat} {d : PyData} (h : Nice n d) : ∀ {m : Nat}, n ≤ m → Nice m d := by
  induction h with
  | non => intro m _; exact .non
  | bl b => intro m _; exact .bl b
  | int i => intro m _; exact .int i
  | str h => intro m _; exact .str h
  | lst hl _ ih =>
    intro m hm
    obtain ⟨k, rfl⟩ : ∃ k, m = k + 1 := ⟨m - 1, by omega⟩
    exact .lst hl fun d hd => ih d hd (by omega)
  | tup hl _ ih =>
    intro m hm
    obtain ⟨k, rfl⟩ : ∃ k, m = k + 1 := ⟨m - 1, by omega⟩
    exact .tup hl fun d hd => ih d hd (by omega)
theorem dpa_len {K : PySem.W.Frag} {H : Hp} : ∀ {vs : List V} {ds : List PyData}, DpAll K H vs ds → vs.length = ds.length
  | _, _, .nil => rfl
  | _, _, .cons _ h => congrArg (· + 1) (dpa_len h)
theorem dpa_get {K : PySem.W.Frag} {H : Hp} : ∀ {vs : List V} {ds : List PyData} {i : Nat} {d : PyData}, DpAll K H vs ds → ds[i]? = some d → ∃ v, vs[i]? = some v ∧ Dp K H v d
  | _, _, _, _, .nil, e => by simp at e
  | _, _, 0, _, .cons r _, e => by simp at e; subst e; exact ⟨_, rfl, r⟩
  | _, _, i + 1, x, .cons _ t, e => by
    obtain ⟨u, h1, h2⟩ := dpa_get (i := i) (d := x) t (by simpa using e)
    exact ⟨u, by simpa using h1, h2⟩
theorem dpa_of {K : PySem.W.Frag} {H : Hp} {vs : List V} {ds : List Deed} (h : Paired (DV K H) vs ds) : DpAll K H vs (ds.map fun d => .tuple d.dat) := by
  induction h with
  | nil => exact .nil
  | cons a _ ih => exact .cons a.dp ih
section
variable {K : PySem.W.Frag} {σ : L2.St} {H : Hp} {te : TE} {t : TT}
/-- a comprehension over a new tuple, over a tuple -/
theorem el_lcNT {xs : List V} {tl : TE} {j : Nat} {vs : List Nat} (f : Nat → Bool) (v : Nat → V) (h : EvU tl σ H xs) (hz : xs.length ≤ 40000) (hw : ∀ x, wipe ((wipe σ vs).set j (some x)) vs = wipe σ vs)
    (ht : ∀ (i : Nat) (x : V) H1, Ex H H1 → xs[i]? = some x → EvT t ((wipe σ vs).set j (some x)) H1 (f i)) (he : ∀ (i : Nat) (x : V) H1, Ex H H1 → xs[i]? = some x → f i = true → Ev te ((wipe σ vs).set j (some x)) H1 (v i)) :
    EvL (tLc (iTup K tl) (gName j) t te vs) σ H (given xs.length f v) := fun H0 e Q q => h H0 e _ fun a H1 ha e1 hx => ⟨a, rfl, ⟨xs, st_of hx⟩, fun Dl hD =>
  lc_tup (xs := xs) (Cw H1 f v Dl) ⟨hD, Ex.new hD, upd_same⟩ (fun i H' _ p => st_of (p.2.1 a _ hx)) (fun i x H' hi p => ⟨hw x, cw_turn p (by have := (List.getElem?_eq_some_iff.mp hi).1; omega) (ht i x H1 (e.trans e1) hi) (fun hf => he i x H1 (e.trans e1) hi hf)⟩)
    (fun H' p => q Dl H' (fresh_back e1 p.1) (e1.trans p.2.1) p.2.2)⟩
theorem el_lcT {a : Addr} {xs : List V} {tl : TE} {j : Nat} {vs : List Nat} (f : Nat → Bool) (v : Nat → V) (h : Ev tl σ H (.ref a)) (hx : SqT K H a xs) (hz : xs.length ≤ 40000) (hw : ∀ x, wipe ((wipe σ vs).set j (some x)) vs = wipe σ vs)
    (ht : ∀ (i : Nat) (x : V) H1, Ex H H1 → xs[i]? = some x → EvT t ((wipe σ vs).set j (some x)) H1 (f i)) (he : ∀ (i : Nat) (x : V) H1, Ex H H1 → xs[i]? = some x → f i = true → Ev te ((wipe σ vs).set j (some x)) H1 (v i)) :
    EvL (tLc (iTup K tl) (gName j) t te vs) σ H (given xs.length f v) := fun H0 e Q q => h H0 e _ fun H1 e1 => ⟨a, rfl, ⟨xs, ex_t (e.trans e1) hx⟩, fun Dl hD =>
  lc_tup (xs := xs) (Cw H1 f v Dl) ⟨hD, Ex.new hD, upd_same⟩ (fun i H' _ p => ex_t ((e.trans e1).trans p.2.1) hx) (fun i x H' hi p => ⟨hw x, cw_turn p (by have := (List.getElem?_eq_some_iff.mp hi).1; omega) (ht i x H1 (e.trans e1) hi) (fun hf => he i x H1 (e.trans e1) hi hf)⟩)
    (fun H' p => q Dl H' (fresh_back e1 p.1) (e1.trans p.2.1) p.2.2)⟩
end
theorem given_two (f : Nat → Bool) (v : Nat → V) : given 2 f v = (if f 0 then [v 0] else []) ++ (if f 1 then [v 1] else []) := by
  have e : given 2 f v = (([0, 1] : List Nat).filter f).map v := rfl
  rw [e]
  cases h0 : f 0 <;> cases h1 : f 1 <;> simp [List.filter, h0, h1]
def Deed.tag : Deed → Str
  | .rd _ => "read"
  | .wr _ _ => "write"
  | .rs => "rest"
def Deed.cell : Deed → Option Nat
  | .rd c => some c
  | .wr c _ => some c
  | .rs => none
def Deed.isW : Deed → Bool
  | .wr _ _ => true
  | _ => false
/-- whether both are at one cell, and one writes -/
def clashD (d e : Deed) : Bool := match d.cell, e.cell with
  | some a, some b => decide (a = b) && (d.isW || e.isW)
  | _, _ => false
theorem DV.tag {K : PySem.W.Frag} {H : Hp} {a : Addr} {d : Deed} (h : SqT K H a d.vals) : RV (rIxT K) (.ref a) (.int 0) H (.str d.tag) := rv_ixT h (by cases d <;> rfl)
theorem in_ww : inV (.str "write") [.str "write", .str "write"] = true := by decide +kernel
theorem in_wr : inV (.str "write") [.str "write", .str "read"] = true := by decide +kernel
theorem in_rw : inV (.str "write") [.str "read", .str "write"] = true := by decide +kernel
theorem in_rr : inV (.str "write") [.str "read", .str "read"] = false := by decide +kernel
theorem tag_rest (d : Deed) : (!decide (V.str d.tag = V.str "rest")) = !decide (d = .rs) := by
  cases d with
  | rd c =>
    have h : decide (V.str (Deed.rd c).tag = V.str "rest") = false := (show decide (V.str "read" = V.str "rest") = false by decide +kernel)
    rw [h]
    simp
  | wr c w =>
    have h : decide (V.str (Deed.wr c w).tag = V.str "rest") = false := (show decide (V.str "write" = V.str "rest") = false by decide +kernel)
    rw [h]
    simp
  | rs => simp [Deed.tag]
theorem cut_at (us : List V) (i : Nat) : cutV us (some (i : Int)) (some ((i : Int) + 1)) = (us.drop i).take 1 := by
  unfold cutV
  have e1 : HT.sIx us.length 0 (some (i : Int)) = min i us.length := HT.sIx_nat _ _ _
  have e2 : HT.sIx us.length us.length (some ((i : Int) + 1)) = min (i + 1) us.length := HT.sIx_nat us.length us.length (i + 1)
  rw [e1, e2]
  by_cases h : i < us.length
  · have h1 : min i us.length = i := by omega
    have h2 : min (i + 1) us.length = i + 1 := by omega
    rw [h1, h2]
    have h3 : i + 1 - i = 1 := by omega
    rw [h3]
  · have h1 : min i us.length = us.length := by omega
    rw [h1, List.drop_of_length_le (Nat.le_refl _), List.drop_of_length_le (by omega)]
    simp
theorem cut_tail (us : List V) : cutV us (some 1) none = us.drop 1 := by
  unfold cutV
  have e1 : HT.sIx us.length 0 (some ((1 : Nat) : Int)) = min 1 us.length := HT.sIx_nat _ _ _
  have e2 : HT.sIx us.length us.length none = us.length := HT.sIx_none _ _
  have e3 : (some (1 : Int)) = some ((1 : Nat) : Int) := rfl
  rw [e3, e1, e2]
  cases us with
  | nil => rfl
  | cons a r =>
    have h1 : min 1 (a :: r).length = 1 := by simp
    rw [h1]
    simp
theorem PV.drop {K : PySem.W.Frag} {H : Hp} : ∀ {vs : List V} {ds : List Deed} (n : Nat), PV K H vs ds → PV K H (vs.drop n) (ds.drop n)
  | _, _, 0, h => h
  | _, _, n + 1, .nil => .nil
  | _, _, n + 1, .cons _ t => PV.drop n t
theorem sqt_K {K : PySem.W.Frag} {a : Addr} {d : Option Addr} {its : Array Value} {n : Nat} {sl : Array (Option Value)} {xs : List V} (l : K.lookup a = some ⟨.type "tuple", d, .seq its n, sl⟩) (hz : its.size ≤ sizeLine) (r : Vals xs its.toList) (H : Hp) : SqT K H a xs :=
  .inr ⟨_, its, n, l, rfl, rfl, hz, r⟩
/-- the written things of the program's first files -/
structure TxP (K : PySem.W.Frag) (mg : Str → Option Value) (aREST aWORTHS : Addr) (t4 t40 : Tok) : Prop where
  g_REST : mg "REST" = some (.ref aREST)
  REST : ∀ H, SqT K H aREST Deed.rs.vals
  g_WORTHS : mg "WORTHS" = some (.ref aWORTHS)
  WORTHS : ∀ H, SqT K H aWORTHS [.int 0, .int 1, .int 2]
  g_MOST_CELLS : mg "MOST_CELLS" = some (.int 4 t4)
  g_MOST_DEEDS : mg "MOST_DEEDS" = some (.int 40 t40)
theorem in_worths (i : Int) : inV (.int i) [.int 0, .int 1, .int 2] = decide (0 ≤ i ∧ i < 3) := by
  rw [Bool.eq_iff_iff]
  simp only [inV, eqV, List.any_cons, List.any_nil, Bool.or_false, Bool.or_eq_true, beq_iff_eq, decide_eq_true_eq]
  omega
theorem given_none (n : Nat) (v : Nat → V) : given n (fun _ => false) v = [] := by
  unfold given
  rw [List.filter_eq_nil_iff.mpr (fun _ _ => by decide)]
  rfl

/-! ### what is kept but at some places -/
def Bt (S : List Addr) (H H' : Hp) : Prop := ∀ b o, ¬ b ∈ S → H b = some o → H' b = some o
theorem Bt.refl {S : List Addr} (H : Hp) : Bt S H H := fun _ _ _ h => h
theorem Bt.trans {S : List Addr} {H H1 H2 : Hp} (a : Bt S H H1) (b : Bt S H1 H2) : Bt S H H2 := fun c o n h => b c o n (a c o n h)
theorem Bt.of_ex {S : List Addr} {H H' : Hp} (e : Ex H H') : Bt S H H' := fun c o _ h => e c o h
theorem Bt.ex {S : List Addr} {H H' : Hp} (a : Bt S H H') (h : ∀ b ∈ S, ∀ o, H b = some o → H' b = some o) : Ex H H' := fun c o q => by
  by_cases hc : c ∈ S
  · exact h c hc o q
  · exact a c o hc q
theorem Bt.mono {S T : List Addr} {H H' : Hp} (a : Bt S H H') (h : ∀ b ∈ S, b ∈ T) : Bt T H H' := fun c o n q => a c o (fun z => n (h c z)) q
theorem Bt.upd {S : List Addr} {H H' : Hp} {p : Addr} {o : HO} (a : Bt S H H') (hp : p ∈ S ∨ H p = none) : Bt S H (upd H' p o) := fun c u n q => by
  have hc : c ≠ p := by
    rintro rfl
    rcases hp with hp | hp
    · exact n hp
    · rw [hp] at q
      cases q
  rw [upd_ne hc]
  exact a c u n q
theorem Bt.free {S : List Addr} {H H' : Hp} {p : Addr} (a : Bt S H H') (hp : ¬ p ∈ S) (h : H' p = none) : H p = none := by
  cases q : H p with
  | none => rfl
  | some o =>
    rw [a p o hp q] at h
    cases h

/-! ### the draws: a list at h of a number, a list at l, a number -/
structure Draw (H : Hp) (h l : Addr) : Prop where
  st : ∃ (a p : Int) (ns : List Int), H h = some (.lst [.int a, .ref l, .int p]) ∧ H l = some (.lst (ns.map V.int)) ∧ ns.length ≤ 63
theorem Draw.ne {H : Hp} {h l : Addr} (D : Draw H h l) : h ≠ l := by
  obtain ⟨a, p, ns, h1, h2, _⟩ := D.st
  refine ne_of h1 h2 fun z => ?_
  injection z with z
  cases ns with
  | nil => cases z
  | cons n r =>
    cases r with
    | nil => cases z
    | cons m r =>
      injection z with _ z
      injection z with z _
      cases z
theorem Draw.mono {H H' : Hp} {h l : Addr} (e : Ex H H') (D : Draw H h l) : Draw H' h l := by
  obtain ⟨a, p, ns, h1, h2, h3⟩ := D.st
  exact ⟨a, p, ns, e _ _ h1, e _ _ h2, h3⟩
/-- a tuple stays through draws -/
theorem Draw.t {K : PySem.W.Frag} {H H' : Hp} {h l a : Addr} {xs : List V} (D : Draw H h l) (e : Bt [h, l] H H') (q : SqT K H a xs) : SqT K H' a xs := by
  obtain ⟨_, _, _, h1, h2, _⟩ := D.st
  rcases q with (q | ⟨o, q⟩) | q
  · refine .inl (.inl (e a _ ?_ q))
    simp only [List.mem_cons, List.not_mem_nil, or_false]
    rintro (rfl | rfl)
    · rw [h1] at q; cases q
    · rw [h2] at q; cases q
  · refine .inl (.inr ⟨o, e a _ ?_ q⟩)
    simp only [List.mem_cons, List.not_mem_nil, or_false]
    rintro (rfl | rfl)
    · rw [h1] at q; cases q
    · rw [h2] at q; cases q
  · exact .inr q
theorem Draw.dv {K : PySem.W.Frag} {H H' : Hp} {h l : Addr} {v : V} {d : Deed} (D : Draw H h l) (e : Bt [h, l] H H') (q : DV K H v d) : DV K H' v d := by
  obtain ⟨a, h1, h2⟩ := q
  exact ⟨a, h1, D.t e h2⟩
theorem pv_map {K : PySem.W.Frag} {H H' : Hp} {vs : List V} {ds : List Deed} (f : ∀ v d, DV K H v d → DV K H' v d) (q : PV K H vs ds) : PV K H' vs ds := L2.Paired.mapP q f
theorem Draw.pv {K : PySem.W.Frag} {H H' : Hp} {h l : Addr} {vs : List V} {ds : List Deed} (D : Draw H h l) (e : Bt [h, l] H H') (q : PV K H vs ds) : PV K H' vs ds := pv_map (fun _ _ => D.dv e) q
theorem PV.mono {K : PySem.W.Frag} {H H' : Hp} {vs : List V} {ds : List Deed} (e : Ex H H') (q : PV K H vs ds) : PV K H' vs ds := pv_map (fun _ _ => DV.mono e) q
theorem PV.length {K : PySem.W.Frag} {H : Hp} {vs : List V} {ds : List Deed} (q : PV K H vs ds) : vs.length = ds.length := Paired.length q
theorem PV.get {K : PySem.W.Frag} {H : Hp} : ∀ {vs : List V} {ds : List Deed} {i : Nat} {v : V}, PV K H vs ds → vs[i]? = some v → ∃ d, ds[i]? = some d ∧ DV K H v d
  | _, _, _, _, .nil, e => by simp at e
  | _, _, 0, _, .cons r _, e => by simp at e; subst e; exact ⟨_, rfl, r⟩
  | _, _, i + 1, x, .cons _ t, e => by
    obtain ⟨u, h1, h2⟩ := PV.get (i := i) (v := x) t (by simpa using e)
    exact ⟨u, by simpa using h1, h2⟩
theorem PV.snoc {K : PySem.W.Frag} {H : Hp} {v : V} {d : Deed} (r : DV K H v d) : ∀ {vs : List V} {ds : List Deed}, PV K H vs ds → PV K H (vs ++ [v]) (ds ++ [d])
  | _, _, .nil => .cons r .nil
  | _, _, .cons q t => .cons q (PV.snoc r t)
/-- a deed stays where a list is changed -/
theorem dv_but {K : PySem.W.Frag} {H H' : Hp} {p : Addr} {us : List V} {v : V} {d : Deed} (b : Bt [p] H H') (hp : H p = some (.lst us)) (q : DV K H v d) : DV K H' v d := by
  obtain ⟨a, h1, h2⟩ := q
  refine ⟨a, h1, ?_⟩
  have ne : ∀ o, H a = some o → (∀ xs, o ≠ .lst xs) → ¬ a ∈ [p] := by
    intro o ho no hm
    rw [List.mem_singleton.mp hm, hp] at ho
    exact no us (Option.some.inj ho).symm
  rcases h2 with (h2 | ⟨o, h2⟩) | h2
  · exact .inl (.inl (b a _ (ne _ h2 (fun _ z => by cases z)) h2))
  · exact .inl (.inr ⟨o, b a _ (ne _ h2 (fun _ z => by cases z)) h2⟩)
  · exact .inr h2
/-- a worth -/
def wV (n : Nat) : V := .int (n : Int)
/-- what a drawer promises of the heap -/
structure Drew (H H' : Hp) (h l : Addr) : Prop where
  dr : Draw H' h l
  bt : Bt [h, l] H H'
theorem Drew.refl {H : Hp} {h l : Addr} (D : Draw H h l) : Drew H H h l := ⟨D, Bt.refl H⟩
theorem Drew.trans {H H1 H2 : Hp} {h l : Addr} (a : Drew H H1 h l) (b : Drew H1 H2 h l) : Drew H H2 h l := ⟨b.dr, a.bt.trans b.bt⟩
theorem Drew.of_ex {H H1 H2 : Hp} {h l : Addr} (a : Drew H H1 h l) (e : Ex H1 H2) : Drew H H2 h l := ⟨a.dr.mono e, a.bt.trans (Bt.of_ex e)⟩
theorem Drew.new {H H1 : Hp} {h l p : Addr} {o : HO} (a : Drew H H1 h l) (hp : H1 p = none) : Drew H (upd H1 p o) h l := a.of_ex (Ex.new hp)

/-! ### a def with a default -/
structure HasD (K : PySem.W.Frag) (mg : Str → Option Value) (x : Str) (st : Stmt) (dvs : List V) : Prop where
  ex : ∃ f fd, FunD K x x (defArgs st) (defBody st) (defScope st) dvs [] f fd ∧ mg x = some (.ref f)
/-- called so that these fill up its last parameters -/
structure Dq (P : Program) (w : World) (K : PySem.W.Frag) (mg : Str → Option Value) (base : Heap) (CX : CXT) (x : Str) (ps : List Str) (dvs : List V) (k : Nat) (sp : Sp) : Prop where
  ex : ∃ f fd ds, FnOk P w K mg base CX k f fd ps sp ∧ mg x = some (.ref f) ∧ PySem.W.keepIn K (.ref f) = true ∧ Binds K fd ps ds ∧ Vals dvs ds
section
variable {P : Program} {w : World} {K : PySem.W.Frag} {mg : Str → Option Value} {base : Heap} {x : Str} {st : Stmt} {dvs : List V}
theorem FunD.ok0 {qual : Str} {f : Addr} {fd : FuncData} {N ps : List Str} {k : Nat} {sp : Sp} (F : FunD K x qual (defArgs st) (defBody st) (defScope st) dvs [] f fd) (S : FnScope N ps (defScope st)) (len : ∀ vs H Q E, sp vs H Q E → vs.length = ps.length)
    (hbody : ∀ (cdv : Value) (A : Around) (outer : List Env) (s : Shared) (H : Hp) (vs : List V) (Q : VK) (E : XK), Room k (A.deeper (PyProof.Rows.envOfC qual (defScope st) s.heap.objs.size f cdv)) → sp vs H Q E →
      ∃ t, PSs (cxOf CX0 P w K mg base N qual (defScope st) f cdv A outer s H E).nox (defBody st) t ∧ t { nx := fun _ H' => Q .non H', rt := Q } (start N vs) H) : FnOk P w K mg base CX0 (k + 1) f fd ps sp :=
  F.ok S len fun cdv A outer s H vs Q E hr hsp => by
    obtain ⟨t, h, q⟩ := hbody cdv A outer s H vs Q E hr hsp
    exact ⟨t, h.nox, q⟩
theorem dq_of {CX : CXT} {ps : List Str} {k : Nat} {sp : Sp} (n j : Nat) (h : HasD K mg x st dvs) (hd : dvs ≠ []) (hn : n + (dvs.length - j) = ps.length)
    (hb : ∀ (T : Addr) (kV doc pm : Value) (an : Option Addr) (cdv ct : Value) (us its : List Value), us.length = n → its.length = dvs.length →
      ∃ k, bindArgs (PySem.W.fnOf x x (defArgs st) (defBody st) (defScope st) (.ref T) kV doc pm an cdv ct) ⟨us, []⟩ = seqItems? (.ref T) >>= k ∧ k (some its.toArray) = pure (ps.zip (us ++ its.drop j)))
    (hf : ∀ f fd, FunD K x x (defArgs st) (defBody st) (defScope st) dvs [] f fd → FnOk P w K mg base CX k f fd ps sp) : Dq P w K mg base CX x ps (dvs.drop j) k sp := by
  obtain ⟨f, fd, F, hm⟩ := h.ex
  obtain ⟨ds, r, b⟩ := F.binds1 n j hd hn hb
  exact ⟨f, fd, ds, hf f fd F, hm, F.kp, b, r⟩
theorem hasD_mk {h : Heap} {f T : Addr} {oc cT : Value} {od an dT : Option Addr} {osl slT : Array (Option Value)} {kV doc pm cdv ct : Value} {i : Int} {tk : Tok} {n : Nat} (X : K.In h) (G : h.Ns mainGlobals mg)
    (a : PySem.W.nsIn K mainGlobals x = some (some (.ref f)))
    (l : K.lookup f = some ⟨oc, od, .func (PySem.W.fnOf x x (defArgs st) (defBody st) (defScope st) (.ref T) kV doc pm an cdv ct), osl⟩)
    (c : PySem.W.codeIn K cdv x = true) (k : PySem.W.keepIn K (.ref f) = true) (lT : K.lookup T = some ⟨cT, dT, .seq #[.int i tk] n, slT⟩) : HasD K mg x st [.int i] :=
  ⟨f, _, ⟨⟨oc, od, .ref T, kV, doc, pm, an, cdv, ct, osl, rfl, l, c, .inr ⟨by simp, T, _, [.int i tk], n, rfl, lT, rfl, .cons ⟨_, rfl⟩ .nil⟩, .inl rfl⟩, k⟩, PySem.W.mg_of X G a⟩
end
section
variable {X : Cx}
theorem pe_dq {CX : CXT} {x : Str} {ps : List Str} {dvs : List V} {k j : Nat} {sp : Sp} {E : XK} {e : Expr} {es : List Expr} {t : TA} {p pos : Pos} (h : Dq X.prog X.w X.K X.mg X.base CX x ps dvs k sp) (hr : Room j X.A) (hk : k ≤ j) (hx : Passes CX X E)
    (ha : PA X (e :: es) t) (hg : Gl X x := by rfl) (hdb : (x == ("__debug__" : Str)) = false := by decide) (he : starEach (e :: es) X.env = (false, eval e X.env) :: starEach es X.env := by rfl)
    (hpl : (backTo pos (starEach es X.env)).any (·.1) = false := by rfl) : PE X (.Call (.Name x p) (e :: es) [] pos) (tCall sp dvs E t) := by
  obtain ⟨f, fd, ds, F, hm, kp, b, r⟩ := h.ex
  exact pe_call F (hr.mono hk) hg hm kp b r hx ha hdb he hpl
end
end Db

namespace Db
open PySem L2 Evl
/-! ### the five rules, beat by beat -/
inductive Rule where
  | old | new | left | right | wait
  deriving DecidableEq
def Rule.name : Rule → Str
  | .old => "old" | .new => "new" | .left => "left" | .right => "right" | .wait => "wait"
def rdl (ws : List Nat) : Deed → List Nat
  | .rd c => [ws.getD c 0]
  | _ => []
def wrl (ws : List Nat) : Deed → List Nat
  | .wr c x => ws.set c x
  | _ => ws
theorem wrl_length (ws : List Nat) (d : Deed) : (wrl ws d).length = ws.length := by
  cases d <;> simp [wrl]
theorem rdl_length (ws : List Nat) (d : Deed) : (rdl ws d).length ≤ 1 := by
  cases d <;> simp [rdl]
theorem wrl_small {ws : List Nat} {d : Deed} {n : Nat} (h : ∀ x ∈ ws, x < 3) (hd : d.ok n) : ∀ x ∈ wrl ws d, x < 3 := by
  intro x hx
  cases d with
  | rd c => exact h x hx
  | rs => exact h x hx
  | wr c y =>
    rcases List.mem_or_eq_of_mem_set hx with hx | rfl
    · exact h x hx
    · exact hd.2
/-- what is told of a beat: the worths behind it, what is read at each door -/
def beat : Rule → List Nat → Deed → Deed → List Nat × List Nat × List Nat
  | .old, ws, d, e => (wrl (wrl ws e) d, rdl ws d, rdl ws e)
  | .new, ws, d, e => (wrl (wrl ws e) d, rdl (wrl (wrl ws e) d) d, rdl (wrl (wrl ws e) d) e)
  | .right, ws, d, e => (wrl (wrl ws e) d, rdl (wrl ws e) d, rdl ws e)
  | _, ws, d, e => (wrl (wrl ws d) e, rdl ws d, rdl (wrl ws d) e)
theorem beat_length (r : Rule) (ws : List Nat) (d e : Deed) : (beat r ws d e).1.length = ws.length := by
  cases r <;> simp [beat, wrl_length]
theorem beat_seen (r : Rule) (ws : List Nat) (d e : Deed) : (beat r ws d e).2.1.length ≤ 1 := by
  cases r <;> exact rdl_length _ _
theorem beat_others (r : Rule) (ws : List Nat) (d e : Deed) : (beat r ws d e).2.2.length ≤ 1 := by
  cases r <;> exact rdl_length _ _
theorem beat_small {r : Rule} {ws : List Nat} {d e : Deed} {n : Nat} (h : ∀ x ∈ ws, x < 3) (hd : d.ok n) (he : e.ok n) : ∀ x ∈ (beat r ws d e).1, x < 3 := by
  cases r
  case old => exact wrl_small (wrl_small h he) hd
  case new => exact wrl_small (wrl_small h he) hd
  case left => exact wrl_small (wrl_small h hd) he
  case right => exact wrl_small (wrl_small h he) hd
  case wait => exact wrl_small (wrl_small h hd) he
structure Sts where
  ws : List Nat
  l : List Deed
  r : List Deed
  ss : List Nat
  os : List Nat
  n : Nat
def Sts.done (S : Sts) : Prop := S.l = [] ∧ S.r = []
instance (S : Sts) : Decidable S.done := inferInstanceAs (Decidable (_ ∧ _))
/-- whether the right door waits -/
def waits (r : Rule) (S : Sts) : Bool := decide (r = .wait) && clashD (S.l.headD .rs) (S.r.headD .rs)
def after (S : Sts) (b : List Nat × List Nat × List Nat) (w : Bool) : Sts := { ws := b.1, l := S.l.tail, r := if w then S.r else S.r.tail, ss := S.ss ++ b.2.1, os := S.os ++ b.2.2, n := S.n + 1 }
def one (r : Rule) (S : Sts) : Sts := if waits r S = true then after S (beat .left S.ws (S.l.headD .rs) .rs) true else after S (beat r S.ws (S.l.headD .rs) (S.r.headD .rs)) false
def stepS (r : Rule) (S : Sts) : Sts := if S.done then S else one r S
def Sts.meas (S : Sts) : Nat := S.l.length + S.r.length
theorem waits_l {r : Rule} {S : Sts} (h : waits r S = true) : S.l ≠ [] := by
  intro z
  unfold waits at h
  rw [z] at h
  have e : clashD (([] : List Deed).headD .rs) (S.r.headD .rs) = false := rfl
  rw [e, Bool.and_false] at h
  cases h
theorem one_less {r : Rule} {S : Sts} (h : ¬ S.done) : (one r S).meas < S.meas := by
  unfold one
  by_cases hw : waits r S = true
  · rw [if_pos hw]
    have hl := waits_l hw
    unfold Sts.meas after
    cases hS : S.l with
    | nil => exact absurd hS hl
    | cons d t => simp
  · rw [if_neg hw]
    unfold Sts.meas after
    cases hl : S.l with
    | nil =>
      cases hr : S.r with
      | nil => exact absurd ⟨hl, hr⟩ h
      | cons e t => simp
    | cons d t =>
      cases hr : S.r with
      | nil => simp
      | cons e u => simp; omega
theorem stepS_of {r : Rule} {S : Sts} (h : ¬ S.done) : stepS r S = one r S := if_neg h
theorem stepS_done {r : Rule} {S : Sts} (h : S.done) : stepS r S = S := if_pos h
def runF (r : Rule) : Nat → Sts → Sts
  | 0, S => S
  | n + 1, S => runF r n (stepS r S)
theorem runF_done {r : Rule} {S : Sts} (h : S.done) : ∀ n, runF r n S = S
  | 0 => rfl
  | n + 1 => by
    rw [runF, stepS_done h]
    exact runF_done h n
theorem runF_more {r : Rule} : ∀ (n : Nat) (S : Sts), S.meas ≤ n → runF r n S = runF r S.meas S
  | 0, S, h => by rw [show S.meas = 0 by omega]
  | n + 1, S, h => by
    by_cases hd : S.done
    · rw [runF_done hd, runF_done hd]
    · have hl := one_less (r := r) hd
      obtain ⟨m, hm⟩ : ∃ m, S.meas = m + 1 := ⟨S.meas - 1, by omega⟩
      rw [hm, runF, runF, stepS_of hd, runF_more n _ (by omega)]
      by_cases e : m = n
      · rw [e, runF_more n _ (by omega)]
      · exact (runF_more m _ (by omega)).symm
  termination_by n => n
/-- what stands when all is done -/
def out (r : Rule) (S : Sts) : Sts := runF r S.meas S
theorem out_done {r : Rule} {S : Sts} (h : S.done) : out r S = S := runF_done h _
theorem out_one {r : Rule} {S : Sts} (h : ¬ S.done) : out r (one r S) = out r S := by
  unfold out
  have hl := one_less (r := r) h
  obtain ⟨m, hm⟩ : ∃ m, S.meas = m + 1 := ⟨S.meas - 1, by omega⟩
  rw [hm, runF, stepS_of h, runF_more m _ (by omega)]
def begin0 (ws : List Nat) (l r : List Deed) : Sts := ⟨ws, l, r, [], [], 0⟩
/-- what stays of a state through all beats: sizes, worths, deeds -/
structure Fit (c : Nat) (m : Nat) (S : Sts) : Prop where
  len : S.ws.length = c
  small : ∀ x ∈ S.ws, x < 3
  okl : ∀ d ∈ S.l, d.ok c
  okr : ∀ d ∈ S.r, d.ok c
  ss : S.ss.length + S.meas ≤ m
  os : S.os.length + S.meas ≤ m
  n : S.n + S.meas ≤ m
theorem ok_headD {c : Nat} {l : List Deed} (h : ∀ d ∈ l, d.ok c) : (l.headD .rs).ok c := by
  cases l with
  | nil => exact True.intro
  | cons d t => exact h d List.mem_cons_self
theorem mem_tail {l : List Deed} {d : Deed} (h : d ∈ l.tail) : d ∈ l := by
  cases l with
  | nil => exact h
  | cons e t => exact List.mem_cons_of_mem _ h
theorem Fit.one {c m : Nat} {S : Sts} {r : Rule} (F : Fit c m S) (h : ¬ S.done) : Fit c m (one r S) := by
  have hl := one_less (r := r) h
  have h1 := ok_headD F.okl
  have h2 := ok_headD F.okr
  by_cases hw : waits r S = true
  · have e : Db.one r S = after S (beat .left S.ws (S.l.headD .rs) .rs) true := if_pos hw
    rw [e] at hl ⊢
    have a1 := beat_seen .left S.ws (S.l.headD .rs) .rs
    have a2 := beat_others .left S.ws (S.l.headD .rs) .rs
    refine ⟨(beat_length _ _ _ _).trans F.len, beat_small F.small h1 (e := .rs) (n := c) True.intro, fun d hd => F.okl d (mem_tail hd), fun d hd => F.okr d hd, ?_, ?_, ?_⟩
    · have := F.ss
      show (S.ss ++ _).length + _ ≤ m
      rw [List.length_append]; omega
    · have := F.os
      show (S.os ++ _).length + _ ≤ m
      rw [List.length_append]; omega
    · have := F.n
      show S.n + 1 + _ ≤ m
      omega
  · have e : Db.one r S = after S (beat r S.ws (S.l.headD .rs) (S.r.headD .rs)) false := if_neg hw
    rw [e] at hl ⊢
    have a1 := beat_seen r S.ws (S.l.headD .rs) (S.r.headD .rs)
    have a2 := beat_others r S.ws (S.l.headD .rs) (S.r.headD .rs)
    refine ⟨(beat_length _ _ _ _).trans F.len, beat_small F.small h1 h2, fun d hd => F.okl d (mem_tail hd), fun d hd => F.okr d (mem_tail hd), ?_, ?_, ?_⟩
    · have := F.ss
      show (S.ss ++ _).length + _ ≤ m
      rw [List.length_append]; omega
    · have := F.os
      show (S.os ++ _).length + _ ≤ m
      rw [List.length_append]; omega
    · have := F.n
      show S.n + 1 + _ ≤ m
      omega
theorem Fit.begin0 {c : Nat} {ws : List Nat} {l r : List Deed} (h1 : ws.length = c) (h2 : ∀ x ∈ ws, x < 3) (h3 : ∀ d ∈ l, d.ok c) (h4 : ∀ d ∈ r, d.ok c) : Fit c (l.length + r.length) (begin0 ws l r) :=
  ⟨h1, h2, h3, h4, by show 0 + _ ≤ _; unfold Sts.meas; simp [Db.begin0], by show 0 + _ ≤ _; unfold Sts.meas; simp [Db.begin0], by show 0 + _ ≤ _; unfold Sts.meas; simp [Db.begin0]⟩
theorem fit_runF {c m : Nat} {r : Rule} : ∀ (n : Nat) (S : Sts), Fit c m S → Fit c m (runF r n S)
  | 0, _, F => F
  | n + 1, S, F => by
    rw [runF]
    refine fit_runF n _ ?_
    by_cases h : S.done
    · rw [stepS_done h]; exact F
    · rw [stepS_of h]; exact F.one h
theorem fit_out {c m : Nat} {r : Rule} {S : Sts} (F : Fit c m S) : Fit c m (out r S) := fit_runF _ _ F

/-! ### deeds through changes of lists -/
theorem t_but {K : PySem.W.Frag} {H H' : Hp} {S : List Addr} {a : Addr} {xs : List V} (b : Bt S H H') (hp : ∀ p ∈ S, ∃ us, H p = some (.lst us)) (q : SqT K H a xs) : SqT K H' a xs := by
  have ne : ∀ o, H a = some o → (∀ xs, o ≠ .lst xs) → ¬ a ∈ S := by
    intro o ho no hm
    obtain ⟨us, h⟩ := hp a hm
    rw [h] at ho
    exact no us (Option.some.inj ho).symm
  rcases q with (h2 | ⟨o, h2⟩) | h2
  · exact .inl (.inl (b a _ (ne _ h2 (fun _ z => by cases z)) h2))
  · exact .inl (.inr ⟨o, b a _ (ne _ h2 (fun _ z => by cases z)) h2⟩)
  · exact .inr h2
theorem dv_buts {K : PySem.W.Frag} {H H' : Hp} {S : List Addr} {v : V} {d : Deed} (b : Bt S H H') (hp : ∀ p ∈ S, ∃ us, H p = some (.lst us)) (q : DV K H v d) : DV K H' v d := by
  obtain ⟨a, h1, h2⟩ := q
  exact ⟨a, h1, t_but b hp h2⟩
theorem pv_buts {K : PySem.W.Frag} {H H' : Hp} {S : List Addr} {vs : List V} {ds : List Deed} (b : Bt S H H') (hp : ∀ p ∈ S, ∃ us, H p = some (.lst us)) (q : PV K H vs ds) : PV K H' vs ds := pv_map (fun _ _ => dv_buts b hp) q
theorem Bt.set {S : List Addr} {H H' : Hp} {p : Addr} {o : HO} (a : Bt S H H') (hp : p ∈ S) : Bt S H (L2.upd H' p o) := a.upd (.inl hp)
/-- a name is set: on with what follows -/
theorem gn {i : Nat} {v : V} {σ : L2.St} {H : Hp} {Q : L2.St → Hp → Prop} (h : Q (σ.set i (some v)) H) : gName i v σ H Q := h
theorem headD_drop : ∀ (ds : List Deed) (i : Nat), (ds.drop i).headD .rs = ds.getD i .rs
  | [], i => by simp
  | d :: r, 0 => rfl
  | d :: r, i + 1 => by
    have h := headD_drop r i
    simpa using h
theorem Dn.up {P : Program} {w : World} {K : PySem.W.Frag} {mg : Str → Option Value} {base : Heap} {CX : CXT} {x : Str} {ps : List Str} {j k : Nat} {sp : Sp} (h : Dn P w K mg base CX x ps j sp) (hk : j ≤ k) : Dn P w K mg base CX x ps k sp := by
  obtain ⟨f, fd, F, a, b, c⟩ := h.ex
  exact ⟨f, fd, F.mono hk, a, b, c⟩
/-- an extension of what stood ahead, if the places were new -/
theorem Bt.ex_back {S : List Addr} {H H1 H2 : Hp} (b : Bt S H H1) (f : Ex H1 H2) (h : ∀ p ∈ S, H p = none) : Ex H H2 := fun a o q => by
  refine f _ _ (b a o (fun hm => ?_) q)
  rw [h a hm] at q
  cases q
def ruleNames : List V := [.str "old", .str "new", .str "left", .str "right", .str "wait"]
/-! ### more of evaluation -/
section
variable {K : PySem.W.Frag} {σ : L2.St} {H : Hp} {ta tb te : TE} {t : TT} {D : Ends}
theorem el_if {b : Bool} {xs : List V} (h : EvT t σ H b) (h1 : b = true → EvL ta σ H xs) (h2 : b = false → EvL tb σ H xs) : EvL (tIf t ta tb) σ H xs := fun H1 e Q q => h H1 e _ fun H2 e2 => by
  cases b with
  | true =>
    show ta σ H2 Q
    exact h1 rfl H2 (e.trans e2) Q fun p H3 hp e3 h3 => q p H3 (fresh_back e2 hp) (e2.trans e3) h3
  | false =>
    show tb σ H2 Q
    exact h2 rfl H2 (e.trans e2) Q fun p H3 hp e3 h3 => q p H3 (fresh_back e2 hp) (e2.trans e3) h3
theorem el_cat {a b : Addr} {xs ys : List V} (ha : Ev ta σ H (.ref a)) (hb : Ev tb σ H (.ref b)) (h1 : H a = some (.lst xs)) (h2 : H b = some (.lst ys)) (hz : xs.length + ys.length ≤ 100000) : EvL (tOp rCat ta tb) σ H (xs ++ ys) := fun H1 e Q q =>
  ha H1 e _ fun H2 e2 => hb H2 (e.trans e2) _ fun H3 e3 => ⟨a, b, xs, ys, rfl, rfl, ((e.trans e2).trans e3) _ _ h1, ((e.trans e2).trans e3) _ _ h2, sz_of hz, fun p hp => q p _ (fresh_back (e2.trans e3) hp) ((e2.trans e3).trans (Ex.new hp)) upd_same⟩
theorem el_listA {p : Addr} {xs : List V} (ha : Ev ta σ H (.ref p)) (h : SqA K H p xs) : EvL (tCB (rListS K) (tCons ta tNil)) σ H xs := fun H1 e Q q =>
  ha H1 e _ fun H2 e2 => ⟨p, xs, rfl, ex_a (e.trans e2) h, fun l hl => q l _ (fresh_back e2 hl) (e2.trans (Ex.new hl)) upd_same⟩
/-- if the deed in a slot is a write, it is done at the list in another -/
theorem wr_body {i j : Nat} {p : Addr} {x : V} {dd : Deed} {u : List Nat} (hx : σ[i]? = some (some x)) (hp : σ[j]? = some (some (.ref p))) (dv : DV K H x dd) (h : H p = some (.lst (u.map wV))) (ho : dd.ok u.length)
    (k : ∀ H', Bt [p] H H' → H' p = some (.lst ((wrl u dd).map wV)) → D.nx σ H') :
    tIfS (tTest (tOp rEq (tOp (rIxT K) (tVar i) (tC (.int 0))) (tC (.str "write")))) (tAsg (tOp (rIxT K) (tVar i) (tC (.int 2))) (gSub (tVar j) (tOp (rIxT K) (tVar i) (tC (.int 1))) rSetL)) tNext D σ H := by
  obtain ⟨a, rfl, h1⟩ := dv
  refine s_when (b := decide (V.str dd.tag = V.str "write")) (et_test (ev_op (ev_op (ev_var hx) ev_c (DV.tag h1)) ev_c (rv_eq rfl))) (fun hb H1 f1 => ?_) (fun hb H1 f1 => ?_)
  · cases dd with
    | rd c => exact absurd hb (by show ¬ decide (V.str "read" = V.str "write") = true; decide +kernel)
    | rs => exact absurd hb (by show ¬ decide (V.str "rest" = V.str "write") = true; decide +kernel)
    | wr c y =>
      have g1 := ex_t f1 h1
      obtain ⟨hc, hy⟩ : c < u.length ∧ y < 3 := ho
      refine s_setL (l := p) (v := wV y) (j := c) (f1 _ _ h) (ev_op (ev_var hx) ev_c (rv_ixT g1 rfl)) (ev_var hp) (ev_op (ev_var hx) ev_c (rv_ixT g1 rfl)) (by rw [List.length_map]; exact hc) fun H2 f2 => ?_
      refine k _ ((Bt.of_ex (f1.trans f2)).upd (.inl (by simp))) ?_
      rw [upd_same, wrl, List.map_set]
  · refine k _ (Bt.of_ex f1) ?_
    cases dd with
    | wr c y => exact absurd hb (by show ¬ decide (V.str "write" = V.str "write") = false; decide +kernel)
    | rd c => exact f1 _ _ h
    | rs => exact f1 _ _ h
end
section
variable {K : PySem.W.Frag} {σ : L2.St} {H : Hp} {ta tb te : TE} {t : TT} {D : Ends} {tz : TS}
/-- xs.extend(ys), two lists -/
theorem s_ext {l b : Addr} {xs zs : List V} (hl : H l = some (.lst xs)) (hb : H b = some (.lst zs)) (ha : Ev ta σ H (.ref l)) (h : Ev te σ H (.ref b)) (hz : xs.length + zs.length ≤ 100000) (k : ∀ H1, Ex H H1 → D.nx σ (upd H1 l (.lst (xs ++ zs)))) :
    tDrop (tBM K "list" rExtend ta (tCons te tNil)) D σ H := ha H (Ex.refl H) _ fun H1 e1 =>
  ⟨Or.inl ⟨rfl, xs, sq_of (e1 l _ hl)⟩, h H1 e1 _ fun H2 e2 => ⟨l, b, xs, zs, rfl, rfl, e2 l _ (e1 l _ hl), e2 b _ (e1 b _ hb), sz_of hz, k H2 (e1.trans e2)⟩⟩
theorem q_ext {l b : Addr} {xs zs : List V} (hl : H l = some (.lst xs)) (hb : H b = some (.lst zs)) (ha : Ev ta σ H (.ref l)) (h : Ev te σ H (.ref b)) (hz : xs.length + zs.length ≤ 100000) (k : ∀ H1, Ex H H1 → tz D σ (upd H1 l (.lst (xs ++ zs)))) :
    tSeq (tDrop (tBM K "list" rExtend ta (tCons te tNil))) tz D σ H := s_ext (D := { D with nx := tz D }) hl hb ha h hz k
/-- xs.clear() -/
theorem s_clear {l : Addr} {xs : List V} (hl : H l = some (.lst xs)) (ha : Ev ta σ H (.ref l)) (k : ∀ H1, Ex H H1 → D.nx σ (upd H1 l (.lst []))) : tDrop (tBM0 K "list" rClear ta) D σ H := ha H (Ex.refl H) _ fun H1 e1 =>
  ⟨Or.inl ⟨rfl, xs, sq_of (e1 l _ hl)⟩, ⟨l, xs, rfl, rfl, e1 l _ hl, k H1 e1⟩⟩
end
theorem PV.append {K : PySem.W.Frag} {H : Hp} : ∀ {us vs : List V} {ds es : List Deed}, PV K H us ds → PV K H vs es → PV K H (us ++ vs) (ds ++ es)
  | _, _, _, _, .nil, h => h
  | _, _, _, _, .cons a t, h => .cons a (PV.append t h)
theorem sh_deeds (ds : List Deed) : Sh 2 (.list (ds.map fun d => .tuple d.dat)) := sh_lst fun x hx => by
  obtain ⟨d, _, rfl⟩ := List.mem_map.mp hx
  exact d.sh
theorem sh_two (ds es : List Deed) : Sh 3 (.tuple [.list (ds.map fun d => .tuple d.dat), .list (es.map fun d => .tuple d.dat)]) := sh_tup fun x hx => by
  simp only [List.mem_cons, List.not_mem_nil, or_false] at hx
  rcases hx with rfl | rfl
  · exact sh_deeds _
  · exact sh_deeds _
theorem PV.dp {K : PySem.W.Frag} {H : Hp} {p : Addr} {us : List V} {ds : List Deed} (h : SqL K H p us) (q : PV K H us ds) : Dp K H (.ref p) (.list (ds.map fun d => .tuple d.dat)) := .lst h (dpa_of q)
theorem eqv_deeds_nil (ds : List Deed) : PyData.eqv (.list (ds.map fun d => .tuple d.dat)) (.list []) = decide (ds = []) := by
  cases ds with
  | nil => simp [PyData.eqv, PyData.eqvAll]
  | cons d r => simp [PyData.eqv, PyData.eqvAll]
theorem getD_zero (ds : List Deed) : ds.getD 0 .rs = ds.headD .rs := by cases ds <;> rfl
/-- the rule that a beat is done by -/
def rule2 (r : Rule) : Rule := if r = .wait then .left else r
theorem rule2_ne (r : Rule) : rule2 r ≠ .wait := by cases r <;> decide
theorem one_eq (r : Rule) (S : Sts) : one r S = after S (beat (rule2 r) S.ws (S.l.headD .rs) (if waits r S = true then .rs else S.r.headD .rs)) (waits r S) := by
  unfold one
  by_cases h : waits r S = true
  · have hr : r = .wait := by
      unfold waits at h
      rw [Bool.and_eq_true] at h
      exact of_decide_eq_true h.1
    rw [if_pos h, if_pos h, h, hr]
    rfl
  · have h2 : waits r S = false := by
      cases q : waits r S with
      | true => exact absurd q h
      | false => rfl
    rw [if_neg h, if_neg h, h2]
    cases r <;> rfl
theorem Draw.out {H : Hp} {h l p : Addr} (D : Draw H h l) (hp : H p = none) : ¬ p ∈ [h, l] := by
  obtain ⟨_, _, _, q1, q2, _⟩ := D.st
  simp only [List.mem_cons, List.not_mem_nil, or_false]
  rintro (rfl | rfl)
  · rw [hp] at q1; cases q1
  · rw [hp] at q2; cases q2
theorem rule_at {i : Nat} {x : V} (h : ruleNames[i]? = some x) : ∃ r : Rule, x = .str r.name := by
  match i, h with
  | 0, h => exact ⟨.old, (Option.some.inj h).symm⟩
  | 1, h => exact ⟨.new, (Option.some.inj h).symm⟩
  | 2, h => exact ⟨.left, (Option.some.inj h).symm⟩
  | 3, h => exact ⟨.right, (Option.some.inj h).symm⟩
  | 4, h => exact ⟨.wait, (Option.some.inj h).symm⟩
  | i + 5, h => simp [ruleNames] at h
/-- worths as data -/
def wD (ws : List Nat) : List PyData := ws.map fun (n : Nat) => PyData.int (n : Int)
theorem dpa_w {K : PySem.W.Frag} {H : Hp} : ∀ ws : List Nat, DpAll K H (ws.map wV) (wD ws)
  | [] => .nil
  | n :: r => .cons (.int (n : Int)) (dpa_w r)
theorem nice_w {ws : List Nat} {n : Nat} (h : ws.length ≤ 1000) : Nice (n + 1) (.list (wD ws)) := .lst (by unfold wD; rw [List.length_map]; exact h) fun d hd => by
  obtain ⟨x, _, rfl⟩ := List.mem_map.mp hd
  exact .int _
theorem nice_wT {ws : List Nat} {n : Nat} (h : ws.length ≤ 1000) : Nice (n + 1) (.tuple (wD ws)) := .tup (by unfold wD; rw [List.length_map]; exact h) fun d hd => by
  obtain ⟨x, _, rfl⟩ := List.mem_map.mp hd
  exact .int _
theorem rdl_wrl (u : List Nat) (d : Deed) : rdl (wrl u d) d = rdl u d := by cases d <;> rfl
def looksK (a b c d : V) : List (Key × V) := [(.inr "old", a), (.inr "new", b), (.inr "left", c), (.inr "right", d)]
def lookOf (r : Rule) (a b c d : V) : V := match r with
  | .old => a | .new => b | .left => c | .right => d | .wait => c
theorem looks_at (r : Rule) (hr : r ≠ .wait) (a b c d : V) : valV (mergeK [] (looksK a b c d)) (.inr r.name) = some (lookOf r a b c d) := by
  cases r with
  | old => rfl
  | new => rfl
  | left => rfl
  | right => rfl
  | wait => exact absurd rfl hr
/-- the written things of the rules' file: the text of the rules, their defs -/
def Rule.step : Rule → Str
  | .old => "step_old" | .new => "step_new" | .left => "step_left" | .right => "step_right" | .wait => "step_left"
theorem in_rules (r : Rule) : inV (.str r.name) ruleNames = true := by cases r <;> decide +kernel
structure TxR (K : PySem.W.Frag) (mg : Str → Option Value) (w : World) (aRULES aSTEPS : Addr) : Prop where
  g_RULES : mg "RULES" = some (.ref aRULES)
  RULES : ∀ H, SqT K H aRULES ruleNames
  g_STEPS : mg "STEPS" = some (.ref aSTEPS)
  STEPS : ∀ r : Rule, ∃ f, mg r.step = some (.ref f) ∧ KDct K w aSTEPS r.name (.ref f)
/-- the beats in which two programs clash -/
def clashesD (ds es : List Deed) : List Nat := (List.range (min ds.length es.length)).filter fun i => clashD (ds.getD i .rs) (es.getD i .rs)
theorem clashD_comm (d e : Deed) : clashD d e = clashD e d := by
  unfold clashD
  cases d.cell with
  | none => cases e.cell <;> rfl
  | some a =>
    cases e.cell with
    | none => rfl
    | some b =>
      show (decide (a = b) && (d.isW || e.isW)) = (decide (b = a) && (e.isW || d.isW))
      rw [Bool.or_comm, show decide (a = b) = decide (b = a) from decide_eq_decide.mpr eq_comm]
theorem clashesD_comm (ds es : List Deed) : clashesD ds es = clashesD es ds := by
  unfold clashesD
  rw [Nat.min_comm]
  congr 1
  funext i
  exact clashD_comm _ _
/-- those ahead of a beat -/
def clashesTo (ds es : List Deed) (n : Nat) : List Nat := (List.range n).filter fun i => clashD (ds.getD i .rs) (es.getD i .rs)
theorem clashesTo_succ (ds es : List Deed) (n : Nat) : clashesTo ds es (n + 1) = if clashD (ds.getD n .rs) (es.getD n .rs) = true then clashesTo ds es n ++ [n] else clashesTo ds es n := by
  unfold clashesTo
  rw [List.range_succ, List.filter_append, List.filter_cons, List.filter_nil]
  split
  · rfl
  · rw [List.append_nil]
theorem clashesTo_length (ds es : List Deed) (n : Nat) : (clashesTo ds es n).length ≤ n := by
  have h := List.length_filter_le (fun i => clashD (ds.getD i .rs) (es.getD i .rs)) (List.range n)
  rw [List.length_range] at h
  exact h
theorem rc_min {H : Hp} {i j : Int} : RC (fun xs H Q => ∃ i j, xs = [V.int i, V.int j] ∧ Q (.int (if j < i then j else i)) H) [.int i, .int j] H (.int (if j < i then j else i)) := fun H1 _ _ q => ⟨i, j, rfl, q H1 (Ex.refl H1)⟩
/-! ### what the top has written -/
theorem txp_mk {K : PySem.W.Frag} {h : Heap} {mg : Str → Option Value} {aR aW : Addr} {t4 t40 t1 u0 u1 u2 : Tok} {d1 d2 : Option Addr} {n1 n2 : Nat} {sl1 sl2 : Array (Option Value)} (X : K.In h) (G : h.Ns mainGlobals mg)
    (a1 : PySem.W.nsIn K mainGlobals "REST" = some (some (.ref aR))) (l1 : K.lookup aR = some ⟨.type "tuple", d1, .seq #[.str "rest" t1] n1, sl1⟩)
    (a2 : PySem.W.nsIn K mainGlobals "WORTHS" = some (some (.ref aW))) (l2 : K.lookup aW = some ⟨.type "tuple", d2, .seq #[.int 0 u0, .int 1 u1, .int 2 u2] n2, sl2⟩)
    (c4 : PySem.W.nsIn K mainGlobals "MOST_CELLS" = some (some (.int 4 t4))) (c40 : PySem.W.nsIn K mainGlobals "MOST_DEEDS" = some (some (.int 40 t40))) : TxP K mg aR aW t4 t40 :=
  ⟨PySem.W.mg_of X G a1, sqt_K l1 (by show 1 ≤ sizeLine; decide) (.cons ⟨_, rfl⟩ .nil), PySem.W.mg_of X G a2, sqt_K l2 (by show 3 ≤ sizeLine; decide) (.cons ⟨_, rfl⟩ (.cons ⟨_, rfl⟩ (.cons ⟨_, rfl⟩ .nil))), PySem.W.mg_of X G c4, PySem.W.mg_of X G c40⟩
theorem txr_mk {K : PySem.W.Frag} {h : Heap} {mg : Str → Option Value} {w : World} {aR aS : Addr} {t1 t2 t3 t4 t5 : Tok} {d1 : Option Addr} {n1 n : Nat} {sl1 : Array (Option Value)} {es : Array DictEntry} {f1 f2 f3 f4 : Addr} (X : K.In h) (G : h.Ns mainGlobals mg)
    (a1 : PySem.W.nsIn K mainGlobals "RULES" = some (some (.ref aR))) (l1 : K.lookup aR = some ⟨.type "tuple", d1, .seq #[.str "old" t1, .str "new" t2, .str "left" t3, .str "right" t4, .str "wait" t5] n1, sl1⟩)
    (a2 : PySem.W.nsIn K mainGlobals "STEPS" = some (some (.ref aS))) (l2 : K.lookup aS = some ⟨.type "dict", none, .dict es n, #[]⟩) (kl : PySem.W.KeysLit w.params es.toList)
    (g1 : PySem.W.nsIn K mainGlobals "step_old" = some (some (.ref f1))) (g2 : PySem.W.nsIn K mainGlobals "step_new" = some (some (.ref f2))) (g3 : PySem.W.nsIn K mainGlobals "step_left" = some (some (.ref f3))) (g4 : PySem.W.nsIn K mainGlobals "step_right" = some (some (.ref f4)))
    (k1 : PySem.W.nsIn K aS "old" = some (some (.ref f1))) (k2 : PySem.W.nsIn K aS "new" = some (some (.ref f2))) (k3 : PySem.W.nsIn K aS "left" = some (some (.ref f3))) (k4 : PySem.W.nsIn K aS "right" = some (some (.ref f4))) (k5 : PySem.W.nsIn K aS "wait" = some (some (.ref f3))) : TxR K mg w aR aS := by
  refine ⟨PySem.W.mg_of X G a1, sqt_K l1 (by show 5 ≤ sizeLine; decide) (.cons ⟨_, rfl⟩ (.cons ⟨_, rfl⟩ (.cons ⟨_, rfl⟩ (.cons ⟨_, rfl⟩ (.cons ⟨_, rfl⟩ .nil))))), PySem.W.mg_of X G a2, fun r => ?_⟩
  cases r with
  | old => exact ⟨f1, PySem.W.mg_of X G g1, es, n, _, l2, kl, k1, rfl⟩
  | new => exact ⟨f2, PySem.W.mg_of X G g2, es, n, _, l2, kl, k2, rfl⟩
  | left => exact ⟨f3, PySem.W.mg_of X G g3, es, n, _, l2, kl, k3, rfl⟩
  | right => exact ⟨f4, PySem.W.mg_of X G g4, es, n, _, l2, kl, k4, rfl⟩
  | wait => exact ⟨f3, PySem.W.mg_of X G g3, es, n, _, l2, kl, k5, rfl⟩
theorem nb_mk {K : PySem.W.Frag} {h : Heap} {mg : Str → Option Value} (X : K.In h) (G : h.Ns mainGlobals mg)
    (h1 : PySem.W.nsIn K mainGlobals "len" = some none) (h2 : PySem.W.nsIn K mainGlobals "isinstance" = some none) (h3 : PySem.W.nsIn K mainGlobals "max" = some none) (h4 : PySem.W.nsIn K mainGlobals "min" = some none)
    (h5 : PySem.W.nsIn K mainGlobals "range" = some none) (h6 : PySem.W.nsIn K mainGlobals "enumerate" = some none) (h7 : PySem.W.nsIn K mainGlobals "zip" = some none) (h8 : PySem.W.nsIn K mainGlobals "list" = some none)
    (h9 : PySem.W.nsIn K mainGlobals "tuple" = some none) (h10 : PySem.W.nsIn K mainGlobals "int" = some none) (h11 : PySem.W.nsIn K mainGlobals "bool" = some none) (h12 : PySem.W.nsIn K mainGlobals "str" = some none) : Nb mg :=
  ⟨PySem.W.mg_none_of X G h1, PySem.W.mg_none_of X G h2, PySem.W.mg_none_of X G h3, PySem.W.mg_none_of X G h4, PySem.W.mg_none_of X G h5, PySem.W.mg_none_of X G h6, PySem.W.mg_none_of X G h7, PySem.W.mg_none_of X G h8, PySem.W.mg_none_of X G h9, PySem.W.mg_none_of X G h10, PySem.W.mg_none_of X G h11, PySem.W.mg_none_of X G h12⟩
end Db

namespace Zen
open PySem PySem.Spec PyProof.Rows L2
section
variable {prog : Program} {w : World} {A : Around} {E : Value → Shared → Prop} {s : Shared}
/-- a zip between two draws: its own tuple never given away, or given away (whether that one still lives is not known) -/
def ZipAt (h : Heap) (z TI TO : Addr) : Prop := IsZip h z TI TO .none ∨ ∃ (T : Addr) (f : Bool), IsZipHeld h z TI TO T f
theorem ZipAt.lt {h : Heap} {z TI TO : Addr} (q : ZipAt h z TI TO) : ∃ o, h.get? z = some o ∧ ∀ v, o.data ≠ .cell v := by
  rcases q with q | ⟨T, f, q⟩
  · exact ⟨_, q, fun v c => nomatch c⟩
  · exact ⟨_, q, fun v c => nomatch c⟩
theorem ZipAt.keep {h h' : Heap} {z TI TO : Addr} (q : ZipAt h z TI TO) (k : ∀ o, h.get? z = some o → h'.get? z = some o) : ZipAt h' z TI TO := by
  rcases q with q | ⟨T, f, q⟩
  · exact .inl (k _ q)
  · exact .inr ⟨T, f, k _ q⟩
/-- what a draw leaves -/
structure Drawn2 (h h' : Heap) (z TI TO i1 i2 l1 l2 : Addr) (k : Nat) (x y : Value) : Prop where
  zip : ZipAt h' z TI TO
  own : ∃ a b, IsPair h' TO a b
  it1 : h'.IsListIter i1 l1 (k + 1)
  it2 : h'.IsListIter i2 l2 (k + 1)
  new : IsPair h' h.objs.size x y
  size : h'.objs.size = h.objs.size + 1
  keep : ∀ c o, c ≠ z → c ≠ TO → c ≠ i1 → c ≠ i2 → h.get? c = some o → h'.get? c = some o
theorem gone {a : Addr} {Q : Option Obj → Shared → Prop} (ho : s.heap.get? a = none) (h : Q none s) : wpAny (model prog w) A (loadIfAlive a) Q E s := by
  have q : Q (s.heap.get? a) s := by rw [ho]; exact h
  exact fun _ _ _ => q
theorem free_dead {z TI TO T : Addr} {f : Bool} {Q : Bool → Shared → Prop} (hz : IsZipHeld s.heap z TI TO T f) (hT : s.heap.get? T = none) (h : Q true s) : wpAny (model prog w) A (Builtin.SmallTypes.ownedTupleIsFree (.ref z)) Q E s := by
  unfold Builtin.SmallTypes.ownedTupleIsFree
  refine wpAny_bind (wpAny_field hz rfl (x := rawInt T) rfl ?_)
  show wpAny _ _ (loadIfAlive ((T : Int).toNat) >>= _) _ _ _
  rw [Int.toNat_natCast]
  refine wpAny_bind (gone hT ?_)
  exact wpAny_pure h
/-- the next pair, the tuple that was given away dead -/
theorem item_dead {z TI TO T i1 i2 l1 l2 : Addr} {f : Bool} {k : Nat} {xs ys : Array Value} {x y a b : Value} {Q : Value → Shared → Prop} (D : ZipApart z TI TO i1 i2 l1 l2) (hz : IsZipHeld s.heap z TI TO T f) (hT : s.heap.get? T = none)
    (hTI : IsPair s.heap TI (.ref i1) (.ref i2)) (hTO : IsPair s.heap TO a b) (h1 : s.heap.IsListIter i1 l1 k) (h2 : s.heap.IsListIter i2 l2 k) (hl1 : s.heap.IsList l1 xs) (hl2 : s.heap.IsList l2 ys) (hx : xs[k]? = some x) (hy : ys[k]? = some y)
    (hQ : ∀ g, Drawn2 s.heap g z TI TO i1 i2 l1 l2 k x y → Q (.ref s.heap.objs.size) { s with heap := g }) :
    wpAny (model prog w) A (Builtin.«zip.__next__» ⟨[.ref z], []⟩) (fun fin s' => ∃ v, fin = .done (.ret v) ∧ Q v s') E s := by
  show wpAny _ _ (field (.ref z) 2 >>= _) _ _ _
  refine wpAny_bind (wpAny_field hz rfl (x := .bool false) rfl ?_)
  show wpAny _ _ (field (.ref z) 3 >>= _) _ _ _
  refine wpAny_bind (wpAny_field hz rfl (x := .ref TI) rfl ?_)
  refine wpAny_bind (wpAny_seqItems hTI rfl ?_)
  show wpAny _ _ (Builtin.SmallTypes.ownedTupleIsFree (.ref z) >>= _) _ _ _
  refine wpAny_bind (free_dead hz hT ?_)
  simp only [if_true]
  refine wpAny_bind (wpAny_rule (wpAny_bind (wpAny_field hz rfl (x := .ref TO) rfl ?_)))
  refine wpAny_bind (wpAny_setField_rec hz (by simp) fun g1 zg1 e1 => ?_)
  replace zg1 : g1.get? z = some { cls := .type "zip", dict := none, data := .fields #[.ellipsis, .bool f, .bool false, .ref TI, .ref TO], slots := #[] } := zg1
  refine wpAny_bind ?_
  simp only [List.zipIdx_cons, List.zipIdx_nil, List.forIn_cons, List.forIn_nil]
  refine wpAny_bind (wpAny_bind (wpAny_onRaise ?_))
  show wpAny _ _ (Builtin.SmallTypes.nextOf (.ref i1) >>= _) _ _ _
  refine wpAny_bind (wpAny_nextOf_list_item (h1.extBut e1.extBut D.i1z) (hl1.extBut e1.extBut D.l1z) hx fun g2 a1 e2 => wpAny_pure ?_)
  have p2 : IsPair g2 TO a b := e2.extBut _ _ D.TOi1 (e1.extBut _ _ D.TOz hTO)
  refine wpAny_bind (wpAny_seqItems p2 rfl (wpAny_bind (wpAny_updateSeq_pair p2 fun g3 p3 e3 => ?_)))
  replace p3 : IsPair g3 TO x b := p3
  refine wpAny_bind (wpAny_letGo (wpAny_pure (wpAny_bind (wpAny_bind (wpAny_onRaise ?_)))))
  show wpAny _ _ (Builtin.SmallTypes.nextOf (.ref i2) >>= _) _ _ _
  refine wpAny_bind (wpAny_nextOf_list_item (((h2.extBut e1.extBut D.i2z).extBut e2.extBut D.i12.symm).extBut e3.extBut D.TOi2.symm) (((hl2.extBut e1.extBut D.l2z).extBut e2.extBut D.l2i1).extBut e3.extBut D.l2TO) hy fun g4 a2 e4 => wpAny_pure ?_)
  have p4 : IsPair g4 TO x b := e4.extBut _ _ D.TOi2 p3
  refine wpAny_bind (wpAny_seqItems p4 rfl (wpAny_bind (wpAny_updateSeq_pair p4 fun g5 p5 e5 => ?_)))
  replace p5 : IsPair g5 TO x y := p5
  refine wpAny_bind (wpAny_letGo (wpAny_pure (wpAny_pure (wpAny_bind (wpAny_seqItems p5 rfl (wpAny_bind (wpAny_newTuple ?_)))))))
  have n5 : g5.objs.size = s.heap.objs.size := by rw [e5.1, e4.1, e3.1, e2.1, e1.1]
  have z5 : g5.get? z = some { cls := .type "zip", dict := none, data := .fields #[.ellipsis, .bool f, .bool false, .ref TI, .ref TO], slots := #[] } := e5.extBut _ _ D.TOz.symm (e4.extBut _ _ D.i2z.symm (e3.extBut _ _ D.TOz.symm (e2.extBut _ _ D.i1z.symm zg1)))
  have k5 : ∀ c o, c ≠ z → c ≠ TO → c ≠ i1 → c ≠ i2 → s.heap.get? c = some o → g5.get? c = some o := fun c o q1 q2 q3 q4 q => e5.extBut _ _ q2 (e4.extBut _ _ q4 (e3.extBut _ _ q2 (e2.extBut _ _ q3 (e1.extBut _ _ q1 q))))
  have b1 : g5.IsListIter i1 l1 (k + 1) := ((a1.extBut e3.extBut D.TOi1.symm).extBut e4.extBut D.i12).extBut e5.extBut D.TOi1.symm
  have b2 : g5.IsListIter i2 l2 (k + 1) := a2.extBut e5.extBut D.TOi2.symm
  have zlt : z < g5.objs.size := Heap.lt_size z5
  show wpAny _ _ (Builtin.SmallTypes.ownedTupleHandOut (.ref z) (.ref g5.objs.size) >>= _) _ _ _
  refine wpAny_bind ?_
  unfold Builtin.SmallTypes.ownedTupleHandOut
  refine wpAny_bind (wpAny_setField_rec (Heap.get?_push_of_some _ z5) (by simp) fun g7 z7 e7 => wpAny_setField_rec z7 (by simp) fun g8 z8 e8 => wpAny_pure ⟨_, rfl, ?_⟩)
  have up : ∀ c o, c ≠ z → g5.get? c = some o → g8.get? c = some o := fun c o q1 q => e8.extBut _ _ q1 (e7.extBut _ _ q1 (Heap.get?_push_of_some _ q))
  have t8 : IsPair g8 g5.objs.size x y := e8.extBut _ _ (Nat.ne_of_gt zlt) (e7.extBut _ _ (Nat.ne_of_gt zlt) (Heap.get?_push_size _ rfl))
  have n8 : g8.objs.size = g5.objs.size + 1 := by rw [e8.1, e7.1, Heap.size_push]
  show Q (.ref g5.objs.size) _
  have zh : IsZipHeld g8 z TI TO g5.objs.size false := z8
  rw [n5] at zh t8 n8 ⊢
  exact hQ g8 ⟨.inr ⟨_, _, zh⟩, ⟨_, _, up _ _ D.TOz p5⟩, b1.at fun o q => up _ o D.i1z q, b2.at fun o q => up _ o D.i2z q, t8, n8, fun c o q1 q2 q3 q4 q => up c o q1 (k5 c o q1 q2 q3 q4 q)⟩
/-- the next pair, at any place between two draws -/
theorem item_any {z TI TO i1 i2 l1 l2 : Addr} {k : Nat} {xs ys : Array Value} {x y a b : Value} {Q : Value → Shared → Prop} (D : ZipApart z TI TO i1 i2 l1 l2) (hz : ZipAt s.heap z TI TO)
    (hTI : IsPair s.heap TI (.ref i1) (.ref i2)) (hTO : IsPair s.heap TO a b) (h1 : s.heap.IsListIter i1 l1 k) (h2 : s.heap.IsListIter i2 l2 k) (hl1 : s.heap.IsList l1 xs) (hl2 : s.heap.IsList l2 ys) (hx : xs[k]? = some x) (hy : ys[k]? = some y)
    (hQ : ∀ g, Drawn2 s.heap g z TI TO i1 i2 l1 l2 k x y → Q (.ref s.heap.objs.size) { s with heap := g }) :
    wpAny (model prog w) A (Builtin.«zip.__next__» ⟨[.ref z], []⟩) (fun fin s' => ∃ v, fin = .done (.ret v) ∧ Q v s') E s := by
  rcases hz with hz | ⟨T, f, hz⟩
  · exact zip_next_item D hz hTI hTO h1 h2 hl1 hl2 hx hy fun g q1 q2 q3 q4 q5 q6 q7 => hQ g ⟨.inr ⟨_, false, q1⟩, ⟨_, _, q2⟩, q3, q4, q5, q6, q7⟩
  · cases hT : s.heap.get? T with
    | none => exact item_dead D hz hT hTI hTO h1 h2 hl1 hl2 hx hy hQ
    | some oT => exact zip_next_item_held D hz hT hTI h1 h2 hl1 hl2 hx hy fun g q1 q3 q4 q5 q6 q7 => hQ g ⟨.inr ⟨_, _, q1⟩, ⟨_, _, q7 _ _ D.TOz D.TOi1 D.TOi2 hTO⟩, q3, q4, q5, q6, fun c o c1 _ c3 c4 q => q7 c o c1 c3 c4 q⟩
/-- no more pairs -/
theorem end_dead {z TI TO T i1 i2 l1 l2 : Addr} {f : Bool} {k : Nat} {xs ys : Array Value} {a b : Value} {Q : Fin → Shared → Prop} (hh : A.handled = none) (D : ZipApart z TI TO i1 i2 l1 l2) (hz : IsZipHeld s.heap z TI TO T f) (hT : s.heap.get? T = none)
    (hTI : IsPair s.heap TI (.ref i1) (.ref i2)) (hTO : IsPair s.heap TO a b) (h1 : s.heap.IsListIter i1 l1 k) (h2 : s.heap.IsListIter i2 l2 k) (hl1 : s.heap.IsList l1 xs) (hl2 : s.heap.IsList l2 ys) (hend : xs[k]? = none ∨ ys[k]? = none)
    (hE : ∀ g e, (∀ c o, c ≠ z → c ≠ TO → c ≠ i1 → c ≠ i2 → s.heap.get? c = some o → g.get? c = some o) → (∃ o, g.get? e = some o ∧ o.cls = .type "StopIteration") → E (.ref e) { s with heap := g }) :
    wpAny (model prog w) A (Builtin.«zip.__next__» ⟨[.ref z], []⟩) Q E s := by
  show wpAny _ _ (field (.ref z) 2 >>= _) _ _ _
  refine wpAny_bind (wpAny_field hz rfl (x := .bool false) rfl ?_)
  show wpAny _ _ (field (.ref z) 3 >>= _) _ _ _
  refine wpAny_bind (wpAny_field hz rfl (x := .ref TI) rfl ?_)
  refine wpAny_bind (wpAny_seqItems hTI rfl ?_)
  show wpAny _ _ (Builtin.SmallTypes.ownedTupleIsFree (.ref z) >>= _) _ _ _
  refine wpAny_bind (free_dead hz hT ?_)
  simp only [if_true]
  refine wpAny_bind (wpAny_rule (wpAny_bind (wpAny_field hz rfl (x := .ref TO) rfl ?_)))
  refine wpAny_bind (wpAny_setField_rec hz (by simp) fun g1 zg1 e1 => ?_)
  replace zg1 : g1.get? z = some { cls := .type "zip", dict := none, data := .fields #[.ellipsis, .bool f, .bool false, .ref TI, .ref TO], slots := #[] } := zg1
  refine wpAny_bind ?_
  simp only [List.zipIdx_cons, List.zipIdx_nil, List.forIn_cons, List.forIn_nil]
  refine wpAny_bind (wpAny_bind (wpAny_onRaise ?_))
  show wpAny _ _ (Builtin.SmallTypes.nextOf (.ref i1) >>= _) _ _ _
  cases hx : xs[k]? with
  | none =>
    refine wpAny_bind (wpAny_nextOf_list_end hh (h1.extBut e1.extBut D.i1z) (hl1.extBut e1.extBut D.l1z) hx fun g2 e e2 he => ?_)
    obtain ⟨oe, hoe, hce⟩ := he
    have z2 := e2 _ _ D.i1z.symm zg1
    have nez : e ≠ z := fun q => by subst q; rw [z2] at hoe; cases hoe; simp at hce
    exact wpAny_setField_rec z2 (by simp) fun g3 _ e3 => hE g3 e (fun c o c1 _ c3 _ q => e3.extBut _ _ c1 (e2 _ _ c3 (e1.extBut _ _ c1 q))) ⟨oe, e3.extBut _ _ nez hoe, hce⟩
  | some x =>
    have hy : ys[k]? = none := by
      rcases hend with q | q
      · rw [hx] at q; cases q
      · exact q
    refine wpAny_bind (wpAny_nextOf_list_item (h1.extBut e1.extBut D.i1z) (hl1.extBut e1.extBut D.l1z) hx fun g2 a1 e2 => wpAny_pure ?_)
    have p2 : IsPair g2 TO a b := e2.extBut _ _ D.TOi1 (e1.extBut _ _ D.TOz hTO)
    refine wpAny_bind (wpAny_seqItems p2 rfl (wpAny_bind (wpAny_updateSeq_pair p2 fun g3 p3 e3 => wpAny_bind (wpAny_letGo (wpAny_pure ?_)))))
    refine wpAny_bind (wpAny_bind (wpAny_onRaise ?_))
    show wpAny _ _ (Builtin.SmallTypes.nextOf (.ref i2) >>= _) _ _ _
    refine wpAny_bind (wpAny_nextOf_list_end hh (((h2.extBut e1.extBut D.i2z).extBut e2.extBut D.i12.symm).extBut e3.extBut D.TOi2.symm) (((hl2.extBut e1.extBut D.l2z).extBut e2.extBut D.l2i1).extBut e3.extBut D.l2TO) hy fun g4 e e4 he => ?_)
    obtain ⟨oe, hoe, hce⟩ := he
    have z4 := e4 _ _ D.i2z.symm (e3.extBut _ _ D.TOz.symm (e2.extBut _ _ D.i1z.symm zg1))
    have nez : e ≠ z := fun q => by subst q; rw [z4] at hoe; cases hoe; simp at hce
    exact wpAny_setField_rec z4 (by simp) fun g5 _ e5 => hE g5 e (fun c o c1 c2 c3 c4 q => e5.extBut _ _ c1 (e4 _ _ c4 (e3.extBut _ _ c2 (e2.extBut _ _ c3 (e1.extBut _ _ c1 q))))) ⟨oe, e5.extBut _ _ nez hoe, hce⟩
theorem end_any {z TI TO i1 i2 l1 l2 : Addr} {k : Nat} {xs ys : Array Value} {a b : Value} {Q : Fin → Shared → Prop} (hh : A.handled = none) (D : ZipApart z TI TO i1 i2 l1 l2) (hz : ZipAt s.heap z TI TO)
    (hTI : IsPair s.heap TI (.ref i1) (.ref i2)) (hTO : IsPair s.heap TO a b) (h1 : s.heap.IsListIter i1 l1 k) (h2 : s.heap.IsListIter i2 l2 k) (hl1 : s.heap.IsList l1 xs) (hl2 : s.heap.IsList l2 ys) (hend : xs[k]? = none ∨ ys[k]? = none)
    (hE : ∀ g e, (∀ c o, c ≠ z → c ≠ TO → c ≠ i1 → c ≠ i2 → s.heap.get? c = some o → g.get? c = some o) → (∃ o, g.get? e = some o ∧ o.cls = .type "StopIteration") → E (.ref e) { s with heap := g }) :
    wpAny (model prog w) A (Builtin.«zip.__next__» ⟨[.ref z], []⟩) Q E s := by
  rcases hz with hz | ⟨T, f, hz⟩
  · exact zip_next_end hh D hz hTI hTO h1 h2 hl1 hl2 hend hE
  · cases hT : s.heap.get? T with
    | none => exact end_dead hh D hz hT hTI hTO h1 h2 hl1 hl2 hend hE
    | some oT => exact zip_next_end_held hh D hz hT hTI h1 h2 hl1 hl2 hend fun g e q r => hE g e (fun c o c1 _ c3 c4 x => q c o c1 c3 c4 x) r
theorem ZipAt.ty {z TI TO : Addr} (q : ZipAt s.heap z TI TO) : s.TypeIs (.ref z) "zip" := by
  rcases q with q | ⟨T, f, q⟩
  · exact ⟨_, q, rfl⟩
  · exact ⟨_, q, rfl⟩
/-- an enumerate over a zip: the next pair of a number and a pair -/
theorem en_item {e z TI TO i1 i2 l1 l2 : Addr} {k : Nat} {xs ys : Array Value} {x y a b old : Value} {Q : Option Value → Shared → Prop} (D : ZipApart z TI TO i1 i2 l1 l2) (he : IsEnum s.heap e z ((k : Nat) : Int) old) (hne : e ≠ z ∧ e ≠ TO ∧ e ≠ i1 ∧ e ≠ i2 ∧ e ≠ TI) (hz : ZipAt s.heap z TI TO)
    (hTI : IsPair s.heap TI (.ref i1) (.ref i2)) (hTO : IsPair s.heap TO a b) (h1 : s.heap.IsListIter i1 l1 k) (h2 : s.heap.IsListIter i2 l2 k) (hl1 : s.heap.IsList l1 xs) (hl2 : s.heap.IsList l2 ys) (hx : xs[k]? = some x) (hy : ys[k]? = some y)
    (hQ : ∀ g g1, Drawn2 s.heap g1 z TI TO i1 i2 l1 l2 k x y → IsEnumOut g e z ((k : Int) + 1) (.ref s.heap.objs.size) (s.heap.objs.size + 1) → g.get? (s.heap.objs.size + 1) = some { cls := .type "tuple", data := .seq #[.int k s.toks, .ref s.heap.objs.size] } →
      g.objs.size = s.heap.objs.size + 2 → (∀ c o, c ≠ e → g1.get? c = some o → g.get? c = some o) → Q (some (.ref (s.heap.objs.size + 1))) { s with heap := g, toks := s.toks + 1 }) :
    wpAny (model prog w) A (pyNext (.ref e)) Q E s := by
  have ty : s.TypeIs (.ref e) "enumerate" := ⟨_, he, rfl⟩
  unfold pyNext
  refine wpAny_bind (wpAny_attempt (wpAny_callSpecial?_slot (name := Str.ofString "__next__") ty F.slot_enumerate_next (wpAny_call_entry F.slot_enumerate_next ty F.entry_enumerate_next ?_ (F.args_enumerate_next_1 _))))
  show wpAny _ _ (field (.ref e) 2 >>= _) _ _ _
  refine wpAny_bind (wpAny_field he rfl (x := .ref z) rfl ?_)
  refine wpAny_bind ?_
  unfold Builtin.SmallTypes.nextOf
  refine wpAny_bind (wpAny_callSpecial?_slot (name := Str.ofString "__next__") hz.ty F.slot_zip_next (wpAny_call_entry F.slot_zip_next hz.ty F.entry_zip_next (item_any D hz hTI hTO h1 h2 hl1 hl2 hx hy fun g1 d1 => ?_) (F.args_zip_next_1 _)))
  refine wpAny_pure ?_
  have he1 : IsEnum g1 e z ((k : Nat) : Int) old := d1.keep _ _ hne.1 hne.2.1 hne.2.2.1 hne.2.2.2.1 he
  have elt : e < s.heap.objs.size := Heap.lt_size he
  show wpAny _ _ (field (.ref e) 3 >>= _) _ _ _
  refine wpAny_bind (wpAny_field he1 rfl (x := rawInt ((k : Nat) : Int)) rfl ?_)
  show wpAny _ _ (field (.ref e) 4 >>= _) _ _ _
  refine wpAny_bind (wpAny_field he1 rfl (x := .none) rfl ?_)
  show wpAny _ _ (mkInt ((k : Nat) : Int) >>= _) _ _ _
  refine wpAny_bind (wpAny_mkInt ?_)
  show wpAny _ _ (setField (.ref e) 3 (rawInt ((k : Int) + 1)) >>= _) _ _ _
  refine wpAny_bind (wpAny_setField_rec he1 (by simp) fun g2 he2 e2 => ?_)
  replace he2 : IsEnum g2 e z ((k : Int) + 1) old := he2
  show wpAny _ _ (setField (.ref e) 4 .none >>= _) _ _ _
  refine wpAny_bind (wpAny_setField_rec he2 (by simp) fun g3 he3 e3 => ?_)
  replace he3 : IsEnum g3 e z ((k : Int) + 1) old := he3
  have n3 : g3.objs.size = s.heap.objs.size + 1 := by rw [e3.1, e2.1]; exact d1.size
  show wpAny _ _ (newTuple [.int k s.toks, .ref s.heap.objs.size] >>= _) _ _ _
  refine wpAny_bind (wpAny_newTuple ?_)
  show wpAny _ _ (Builtin.SmallTypes.ownedTupleIsFree (.ref e) >>= _) _ _ _
  have he4 : IsEnum (g3.push { cls := .type "tuple", data := .seq #[.int k s.toks, .ref s.heap.objs.size] }) e z ((k : Int) + 1) old := Heap.get?_push_of_some _ he3
  have t4 : (g3.push { cls := .type "tuple", data := .seq #[.int k s.toks, .ref s.heap.objs.size] }).get? (s.heap.objs.size + 1) = some { cls := .type "tuple", data := .seq #[.int k s.toks, .ref s.heap.objs.size] } := by rw [← n3]; exact Heap.get?_push_size _ rfl
  have n4 : (g3.push { cls := .type "tuple", data := .seq #[.int k s.toks, .ref s.heap.objs.size] }).objs.size = s.heap.objs.size + 2 := by rw [Heap.size_push, n3]
  have k4 : ∀ c o, c ≠ e → g1.get? c = some o → (g3.push { cls := .type "tuple", data := .seq #[.int k s.toks, .ref s.heap.objs.size] }).get? c = some o := fun c o q r => Heap.get?_push_of_some _ (e3.extBut _ _ q (e2.extBut _ _ q r))
  rw [n3]
  generalize g3.push { cls := .type "tuple", data := .seq #[.int k s.toks, .ref s.heap.objs.size] } = g4 at he4 t4 n4 k4
  refine wpAny_bind ?_
  unfold Builtin.SmallTypes.ownedTupleIsFree
  refine wpAny_bind (wpAny_field he4 rfl (x := .none) rfl (wpAny_pure ?_))
  simp only [if_true]
  refine wpAny_bind (wpAny_rule (wpAny_bind (wpAny_field he4 rfl (x := old) rfl ?_)))
  refine wpAny_bind (wpAny_setField_rec he4 (by simp) fun g5 he5 e5 => ?_)
  replace he5 : IsEnum g5 e z ((k : Int) + 1) (.ref s.heap.objs.size) := he5
  show wpAny _ _ (Builtin.SmallTypes.ownedTupleHandOut (.ref e) (.ref (s.heap.objs.size + 1)) >>= _) _ _ _
  refine wpAny_bind ?_
  unfold Builtin.SmallTypes.ownedTupleHandOut
  refine wpAny_bind (wpAny_setField_rec he5 (by simp) fun g6 he6 e6 => wpAny_setField_rec he6 (by simp) fun g7 he7 e7 => wpAny_bind (wpAny_letGo (wpAny_pure ⟨_, rfl, wpAny_pure ?_⟩)))
  have up : ∀ c o, c ≠ e → g4.get? c = some o → g7.get? c = some o := fun c o q r => e7.extBut _ _ q (e6.extBut _ _ q (e5.extBut _ _ q r))
  refine hQ g7 g1 d1 he7 (up _ _ (Nat.ne_of_gt (Nat.lt_succ_of_lt elt)) t4) (by rw [e7.1, e6.1, e5.1, n4]) fun c o q r => up c o q (k4 c o q r)
theorem en_end {e z TI TO i1 i2 l1 l2 : Addr} {k : Nat} {xs ys : Array Value} {a b old : Value} {Q : Option Value → Shared → Prop} (hh : A.handled = none) (D : ZipApart z TI TO i1 i2 l1 l2) (he : IsEnum s.heap e z ((k : Nat) : Int) old) (hz : ZipAt s.heap z TI TO)
    (hTI : IsPair s.heap TI (.ref i1) (.ref i2)) (hTO : IsPair s.heap TO a b) (h1 : s.heap.IsListIter i1 l1 k) (h2 : s.heap.IsListIter i2 l2 k) (hl1 : s.heap.IsList l1 xs) (hl2 : s.heap.IsList l2 ys) (hend : xs[k]? = none ∨ ys[k]? = none)
    (hQ : ∀ g, (∀ c o, c ≠ z → c ≠ TO → c ≠ i1 → c ≠ i2 → s.heap.get? c = some o → g.get? c = some o) → Q none { s with heap := g }) : wpAny (model prog w) A (pyNext (.ref e)) Q E s := by
  have ty : s.TypeIs (.ref e) "enumerate" := ⟨_, he, rfl⟩
  unfold pyNext
  refine wpAny_bind (wpAny_attempt (wpAny_callSpecial?_slot (name := Str.ofString "__next__") ty F.slot_enumerate_next (wpAny_call_entry F.slot_enumerate_next ty F.entry_enumerate_next ?_ (F.args_enumerate_next_1 _))))
  show wpAny _ _ (field (.ref e) 2 >>= _) _ _ _
  refine wpAny_bind (wpAny_field he rfl (x := .ref z) rfl ?_)
  refine wpAny_bind ?_
  unfold Builtin.SmallTypes.nextOf
  refine wpAny_bind (wpAny_callSpecial?_slot (name := Str.ofString "__next__") hz.ty F.slot_zip_next (wpAny_call_entry F.slot_zip_next hz.ty F.entry_zip_next (end_any hh D hz hTI hTO h1 h2 hl1 hl2 hend fun g x q r => ?_) (F.args_zip_next_1 _)))
  obtain ⟨ox, hox, hcx⟩ := r
  exact wpAny_bind (wpAny_isInstance (T := "StopIteration") (b := true) ⟨ox, hox, hcx⟩ isSubtype_stop (wpAny_pure (hQ _ q)))
end
/-- the two lists as they stand at each turn: a number and a new pair of both items, in a new pair -/
def Itez (K : PySem.W.Frag) (a b : Addr) : It :=
  ⟨fun i H => ∃ (xs ys : List V) (x y : V), SqL K H a xs ∧ SqL K H b ys ∧ xs[i]? = some x ∧ ys[i]? = some y,
    fun i H v H' => ∃ (T U : Addr) (x y : V), v = .ref U ∧ H T = none ∧ (upd H T (.tup [x, y])) U = none ∧ H' = upd (upd H T (.tup [x, y])) U (.tup [.int (i : Nat), .ref T]) ∧ (∀ xs, SqL K H a xs → xs[i]? = some x) ∧ ∀ ys, SqL K H b ys → ys[i]? = some y,
    fun i H => ∃ xs ys : List V, SqL K H a xs ∧ SqL K H b ys ∧ (xs.length ≤ i ∨ ys.length ≤ i)⟩
theorem turn_ez {P : Program} {w : World} {K : PySem.W.Frag} {elts : List Expr} {kk : Nat} {tpos : Pos} {a b e z TI TO i1 i2 : Addr} (D : ZipApart z TI TO i1 i2 a b) (ne : e ≠ z ∧ e ≠ TO ∧ e ≠ i1 ∧ e ≠ i2 ∧ e ≠ TI) :
    Turn P w K (.Tuple elts kk tpos) (Itez K a b) [e, z, TI, TO, i1, i2] e (fun i h => (∃ old, IsEnum h e z ((i : Nat) : Int) old) ∧ ZipAt h z TI TO ∧ IsPair h TI (.ref i1) (.ref i2) ∧ (∃ x y, IsPair h TO x y) ∧ h.IsListIter i1 a i ∧ h.IsListIter i2 b i) where
  mem := by simp
  obj := fun i h st c hc => by
    obtain ⟨⟨old, he⟩, hz, hTI, ⟨x, y, hTO⟩, ⟨o1, e1, _, d1⟩, ⟨o2, e2, _, d2⟩⟩ := st
    have cs : c = e ∨ c = z ∨ c = TI ∨ c = TO ∨ c = i1 ∨ c = i2 := by simpa using hc
    rcases cs with q | q | q | q | q | q
    · rw [q]; exact ⟨_, he, fun v q => nomatch q⟩
    · rw [q]; exact hz.lt
    · rw [q]; exact ⟨_, hTI, fun v q => nomatch q⟩
    · rw [q]; exact ⟨_, hTO, fun v q => nomatch q⟩
    · rw [q]; exact ⟨o1, e1, fun v q => by rw [d1] at q; cases q⟩
    · rw [q]; exact ⟨o2, e2, fun v q => by rw [d2] at q; cases q⟩
  keep := fun i h h' st k => by
    obtain ⟨⟨old, he⟩, hz, hTI, ⟨x, y, hTO⟩, h1, h2⟩ := st
    exact ⟨⟨old, k e (by simp) _ he⟩, hz.keep fun o q => k z (by simp) o q, k TI (by simp) _ hTI, ⟨x, y, k TO (by simp) _ hTO⟩, h1.at fun o q => k i1 (by simp) o q, h2.at fun o q => k i2 (by simp) o q⟩
  item := by
    intro X hP hw hK hc i pins s σ H E I hf st hg
    subst hP hw hK
    obtain ⟨⟨old, he⟩, hz, hTI, ⟨x0, y0, hTO⟩, h1, h2⟩ := st
    obtain ⟨xs, ys, x, y, qx, qy, hx, hy⟩ := hg
    obtain ⟨its, rv, p1, _⟩ := I.list qx
    obtain ⟨jts, rw', p2, _⟩ := I.list qy
    obtain ⟨u, hu, ru⟩ := rv.get hx
    obtain ⟨u2, hu2, ru2⟩ := rw'.get hy
    have elt : e < s.heap.objs.size := Heap.lt_size he
    refine en_item D he ne hz hTI hTO h1 h2 p1.isList p2.isList (x := u) (y := u2) (by simpa using hu) (by simpa using hu2) fun g g1 d1 eo t2 n2 k2 => ?_
    refine ⟨_, rfl, wpAny_letOwnedTupleGo_enum (s := { s with heap := g, toks := s.toks + 1 }) eo fun g' he' sb => ?_⟩
    have m0 : ∀ c, c < s.heap.objs.size + 1 → c ≠ s.heap.objs.size + 1 := fun c q => Nat.ne_of_lt q
    have kk : ∀ c o, c ≠ e → g1.get? c = some o → g'.get? c = some o := fun c o q r => (sb.2 c q).trans (k2 c o q r)
    have tp : g'.get? s.heap.objs.size = some { cls := .type "tuple", data := .seq #[u, u2] } := kk _ _ (Nat.ne_of_gt elt) d1.new
    have tq : g'.get? (s.heap.objs.size + 1) = some { cls := .type "tuple", data := .seq #[.int i s.toks, .ref s.heap.objs.size] } := (sb.2 _ (Nat.ne_of_gt (Nat.lt_succ_of_lt elt))).trans t2
    have old' : ∀ c o, c ∉ [e, z, TI, TO, i1, i2] → s.heap.get? c = some o → g'.get? c = some o := fun c o q r => by
      simp only [List.mem_cons, List.not_mem_nil, or_false, not_or] at q
      exact kk _ _ q.1 (d1.keep _ _ q.2.1 q.2.2.2.1 q.2.2.2.2.1 q.2.2.2.2.2 r)
    have f0 : H s.heap.objs.size = none := I.hok.fresh (Nat.le_refl _)
    have tp1 : g1.get? s.heap.objs.size = some { cls := .type "tuple", data := .seq #[u, u2] } := d1.new
    have new1 : ObjOk X.prog X.w (upd H s.heap.objs.size (.tup [x, y])) g1 s.heap.objs.size (.tup [x, y]) := ⟨by show 2 ≤ sizeLine; decide, [u, u2], .cons ru (.cons ru2 .nil), ⟨_, tp1, rfl, _, rfl⟩⟩
    have I1 : Inv X pins σ (upd H s.heap.objs.size (.tup [x, y])) { s with heap := g1, toks := s.toks } := I.turnedNew (ch := [e, z, TI, TO, i1, i2]) (fun c o q r => by
      simp only [List.mem_cons, List.not_mem_nil, or_false, not_or] at q
      exact d1.keep _ _ q.2.1 q.2.2.2.1 q.2.2.2.2.1 q.2.2.2.2.2 r) hf (Nat.le_refl _) new1
    have fe : FpOk X pins (upd H s.heap.objs.size (.tup [x, y])) e := by
      obtain ⟨q0, q⟩ := hf e (by simp)
      exact ⟨by rw [upd_ne (Nat.ne_of_lt elt)]; exact q0, q⟩
    have new2 : ObjOk X.prog X.w (upd (upd H s.heap.objs.size (.tup [x, y])) (s.heap.objs.size + 1) (.tup [.int (i : Nat), .ref s.heap.objs.size])) g' (s.heap.objs.size + 1) (.tup [.int (i : Nat), .ref s.heap.objs.size]) :=
      ⟨by show 2 ≤ sizeLine; decide, [.int i s.toks, .ref s.heap.objs.size], .cons ⟨_, rfl⟩ (.cons rfl .nil), ⟨_, tq, rfl, _, rfl⟩⟩
    have I2 : Inv X pins σ (upd (upd H s.heap.objs.size (.tup [x, y])) (s.heap.objs.size + 1) (.tup [.int (i : Nat), .ref s.heap.objs.size])) { s with heap := g', toks := s.toks + 1 } :=
      I1.turnedNew (t' := s.toks + 1) (ch := [e]) (fun c o q r => kk c o (fun z => q (by simp [z])) r) (fun c hc => by rw [List.mem_singleton.mp hc]; exact fe) (Nat.le_of_eq d1.size) new2
    have gU : (upd H s.heap.objs.size (.tup [x, y])) (s.heap.objs.size + 1) = none := I1.hok.fresh (Nat.le_of_eq d1.size)
    refine ⟨.ref (s.heap.objs.size + 1), _, I2, rfl, ⟨_, _, x, y, rfl, f0, gU, rfl, fun l hl => by rw [I.list_inj hl qx]; exact hx, fun l hl => by rw [I.list_inj hl qy]; exact hy⟩, ⟨⟨.ref s.heap.objs.size, ?_⟩, ?_, ?_, ?_, ?_, ?_⟩, fun c hcm => ?_⟩
    · have q : ((i + 1 : Nat) : Int) = (i : Int) + 1 := by omega
      rw [q]; exact he'
    · exact d1.zip.keep fun o r => kk _ _ ne.1.symm r
    · exact kk _ _ ne.2.2.2.2.symm (d1.keep _ _ D.TIz D.TITO D.TIi1 D.TIi2 hTI)
    · obtain ⟨a1, a2, q⟩ := d1.own
      exact ⟨a1, a2, kk _ _ ne.2.1.symm q⟩
    · exact d1.it1.at fun o r => kk _ _ ne.2.2.1.symm r
    · exact d1.it2.at fun o r => kk _ _ ne.2.2.2.1.symm r
    · have lt : c < s.heap.objs.size := by
        have cs : c = e ∨ c = z ∨ c = TI ∨ c = TO ∨ c = i1 ∨ c = i2 := by simpa using hcm
        obtain ⟨oz, hoz, _⟩ := hz.lt
        rcases cs with q | q | q | q | q | q
        · rw [q]; exact elt
        · rw [q]; exact Heap.lt_size hoz
        · rw [q]; exact Heap.lt_size hTI
        · rw [q]; exact Heap.lt_size hTO
        · rw [q]; obtain ⟨_, e1, _⟩ := h1; exact Heap.lt_size e1
        · rw [q]; obtain ⟨_, e2, _⟩ := h2; exact Heap.lt_size e2
      rw [upd_ne (Nat.ne_of_lt (Nat.lt_succ_of_lt lt)), upd_ne (Nat.ne_of_lt lt)]
      exact (hf c hcm).1
  done := by
    intro X hP hw hK hc i pins s σ H E I hf st hg
    subst hP hw hK
    obtain ⟨⟨old, he⟩, hz, hTI, ⟨x0, y0, hTO⟩, h1, h2⟩ := st
    obtain ⟨xs, ys, qx, qy, hend⟩ := hg
    obtain ⟨its, rv, p1, _⟩ := I.list qx
    obtain ⟨jts, rw', p2, _⟩ := I.list qy
    have l1 := rv.length
    have l2 := rw'.length
    have hn : its.toArray[i]? = none ∨ jts.toArray[i]? = none := by
      rcases hend with q | q
      · exact .inl (by simp; omega)
      · exact .inr (by simp; omega)
    exact en_end (I.ok.hd hc) D he hz hTI hTO h1 h2 p1.isList p2.isList hn fun g hk => ⟨rfl, I.turnedL (t' := s.toks) (ch := [e, z, TI, TO, i1, i2]) (fun c o q r =>
      hk c o (fun q' => q (by simp [q'])) (fun q' => q (by simp [q'])) (fun q' => q (by simp [q'])) (fun q' => q (by simp [q'])) r) hf⟩
  self := fun A i s Q E st h => let ⟨⟨_, he⟩, _⟩ := st; wpAny_pyIter_enum he h
end Zen

namespace Zen
open PySem PySem.Spec PyProof.Rows L2
theorem meets_en (z TI TO : Addr) : Meets (Builtin.«enumerate.__new__» ⟨[.type "enumerate", .ref z], []⟩) (fun _ R s => IsZip s.heap z TI TO .none ∧
    R (.ok (.ret (.ref s.heap.objs.size))) { s with heap := s.heap.push { cls := .type "enumerate", data := .fields #[.none, .bool false, .ref z, rawInt 0, .none, .none] } }) :=
  .of_wp fun prog w A R s h => by
    obtain ⟨hp, g, d, tk, os⟩ := s
    obtain ⟨h1, h⟩ := h
    have hsub := sub_enumerate
    have q1 : ∀ {A' : Around} {E : Value → Shared → Prop} {Q : Value → Shared → Prop}, Q (.ref z) ⟨hp, g, d, tk, os⟩ → wpAny (model prog w) A' (pyIter (.ref z)) Q E ⟨hp, g, d, tk, os⟩ := fun q => wpAny_pyIter_zip (s := ⟨hp, g, d, tk, os⟩) h1 q
    wp_walk using q1
    refine wpAny_stack_any fun st => wpAny_pure ?_
    split
    · rename_i c _ _ _ _ _
      cases (c == Value.type "enumerate")
      · wp_walk using q1
        exact ⟨_, rfl, h⟩
      · wp_walk using q1
        exact ⟨_, rfl, h⟩
    · wp_walk using q1
      exact ⟨_, rfl, h⟩
end Zen

namespace Zen
open PySem PySem.Spec PyProof.Rows L2
theorem call_en {prog : Program} {w : World} {A : Around} {E : Value → Shared → Prop} {s : Shared} {z TI TO : Addr} {Q : Value → Shared → Prop} (hz : IsZip s.heap z TI TO .none)
    (h : ∀ g, IsEnum g s.heap.objs.size z 0 .none → (∀ b o, s.heap.get? b = some o → g.get? b = some o) → Q (.ref s.heap.objs.size) { s with heap := g }) : wpAny (model prog w) A (call (.type "enumerate") [.ref z]) Q E s := by
  refine callType_new F.called_enumerate (by decide) (F.typeCall_enumerate_1 _) (F.newCall_enumerate_1 _) (fun obj => F.args_object_init_2 obj _) F.entry_enumerate_new (meets_en z TI TO) ⟨hz, ?_⟩
  have he : IsEnum (s.heap.push { cls := .type "enumerate", data := .fields #[.none, .bool false, .ref z, rawInt 0, .none, .none] }) s.heap.objs.size z 0 .none := Heap.get?_push_size s.heap rfl
  exact ⟨⟨_, he, rfl⟩, h _ he fun b o x => Heap.get?_push_of_some _ x⟩
def iEz (K : PySem.W.Frag) (ta : TA) : TI := fun σ H R => ta σ H fun vs H1 => ∃ a b xs ys, vs = [.ref a, .ref b] ∧ SqL K H1 a xs ∧ SqL K H1 b ys ∧ R (Itez K a b) H1
theorem pi_ez {X : Cx} {e e2 : Expr} {ta : TA} {p p2 pos pos2 tpos : Pos} {elts : List Expr} {kk : Nat} (hg : Gl X "enumerate") (hm : X.mg "enumerate" = none) (hg2 : Gl X "zip") (hm2 : X.mg "zip" = none) (ha : PA X [e, e2] ta)
    (hs1 : starEach [.Call (.Name "zip" p2) [e, e2] [] pos2] X.env = [(false, eval (.Call (.Name "zip" p2) [e, e2] [] pos2) X.env)] := by rfl)
    (hs : starEach [e, e2] X.env = (false, eval e X.env) :: starEach [e2] X.env := by rfl) (hpl : (backTo pos2 (starEach [e2] X.env)).any (·.1) = false := by rfl) :
    PI X (.Tuple elts kk tpos) (.Call (.Name "enumerate" p) [.Call (.Name "zip" p2) [e, e2] [] pos2] [] pos) (iEz X.K ta) := by
  refine ⟨fun pins s σ H R I h => ?_⟩
  refine Call_ (ld_blt I hg hm boot_enumerate (PyProof.Rows.callWith_type1 ?_ hs1 rfl))
  rw [hs1]
  show wpAny _ _ (spliced ((false, eval (.Call (.Name "zip" p2) [e, e2] [] pos2) X.env) :: backTo pos [])) _ _ s
  refine Calls.spliced_cons ?_
  refine Call_ (ld_blt I hg2 hm2 PyProof.Rows.boot_zip (PyProof.Rows.callWith_type1 (thn (ha.run pos2 pins s σ H _ I h) fun us s1 ⟨vs, H1, I1, r1, q1⟩ => ?_) hs hpl))
  obtain ⟨a, b, xs, ys, ex, hqx, hqy, q⟩ := q1
  subst ex
  cases r1 with
  | cons r rr =>
    cases rr with
    | cons r' rr =>
      cases rr
      cases r
      cases r'
      obtain ⟨its, rv, p1', _⟩ := I1.list hqx
      obtain ⟨jts, rv2, p2', _⟩ := I1.list hqy
      have la : a < s1.heap.objs.size := p1'.lt
      have lb : b < s1.heap.objs.size := p2'.lt
      refine call_zip_2 p1'.isList p2'.isList fun g hz hTI hTO h1 h2 hsz hk => ?_
      refine Calls.spliced_nil ?_
      refine call_en (s := { s1 with heap := g }) hz fun g' he k' => wpAny_pyIter_enum he ?_
      have n0 : g.objs.size = s1.heap.objs.size + 5 := hsz
      show PIE X pins σ _ R (.ref g.objs.size) _
      have he : IsEnum g' g.objs.size (s1.heap.objs.size + 4) 0 .none := he
      rw [n0] at he ⊢
      have I2 : Inv X pins σ H1 { s1 with heap := g' } := I1.kept (t' := s1.toks) fun b o q => k' _ _ (hk _ _ q)
      have ne : ∀ j : Nat, j < 5 → s1.heap.objs.size + 5 ≠ s1.heap.objs.size + j := fun j hj q => by
        have := Nat.add_left_cancel q
        omega
      refine ⟨s1.heap.objs.size + 5, [s1.heap.objs.size + 5, s1.heap.objs.size + 4, s1.heap.objs.size + 2, s1.heap.objs.size + 3, s1.heap.objs.size, s1.heap.objs.size + 1], _, _, H1, rfl, I2, turn_ez (PySem.W.ktu_apart s1.heap.objs.size a b la lb) ⟨ne 4 (by decide), ne 3 (by decide), ne 0 (by decide), ne 1 (by decide), ne 2 (by decide)⟩,
        ⟨⟨.none, he⟩, .inl (k' _ _ hz), k' _ _ hTI, ⟨_, _, k' _ _ hTO⟩, h1.at fun o q => k' _ _ q, h2.at fun o q => k' _ _ q⟩, fun c hcm => ?_, q⟩
      have hle : s1.heap.objs.size ≤ c := by
        have cs : c = s1.heap.objs.size + 5 ∨ c = s1.heap.objs.size + 4 ∨ c = s1.heap.objs.size + 2 ∨ c = s1.heap.objs.size + 3 ∨ c = s1.heap.objs.size ∨ c = s1.heap.objs.size + 1 := by simpa using hcm
        rcases cs with z | z | z | z | z | z
        · rw [z]; exact Nat.le_add_right _ _
        · rw [z]; exact Nat.le_add_right _ _
        · rw [z]; exact Nat.le_add_right _ _
        · rw [z]; exact Nat.le_add_right _ _
        · rw [z]; exact Nat.le_refl _
        · rw [z]; exact Nat.le_add_right _ _
      exact I1.fpOk hle (I1.hok.fresh hle)
/-- its turns -/
theorem walk_ez {K : PySem.W.Frag} {a b : Addr} {xs ys : List V} {n : Nat} (hn : n = min xs.length ys.length) : Walk (Itez K a b) n (fun H => SqL K H a xs ∧ SqL K H b ys)
    (fun i H v H' => ∃ (T U : Addr) (x y : V), v = .ref U ∧ H T = none ∧ (upd H T (.tup [x, y])) U = none ∧ H' = upd (upd H T (.tup [x, y])) U (.tup [.int (i : Nat), .ref T]) ∧ xs[i]? = some x ∧ ys[i]? = some y) := by
  subst hn
  refine ⟨fun i _ hi q => ?_, fun _ q => ⟨xs, ys, q.1, q.2, by omega⟩, fun i H v H' _ q y => ?_⟩
  · have h1 : i < xs.length := by omega
    have h2 : i < ys.length := by omega
    exact ⟨xs, ys, xs[i], ys[i], q.1, q.2, by simp [h1], by simp [h2]⟩
  · obtain ⟨T, U, x, z, e1, e2, e3, e4, e5, e6⟩ := y
    exact ⟨T, U, x, z, e1, e2, e3, e4, e5 xs q.1, e6 ys q.2⟩
theorem pg_tupK {X : Cx} {K : PySem.W.Frag} {es : List Expr} {k : Nat} {t : TGs} {n : Nat} {pos : Pos} (hc : X.calm = true) (h : PGs X es t) (e : X.K = K := by rfl)
    (hn : (assignEach es X.env).length = n := by rfl) (hst : (assignEach es X.env).findIdx? (·.1) = none := by rfl) : PG X (.Tuple es k pos) (gTup K n t) := by
  subst e
  exact pg_tup hc h hn hst
end Zen

namespace Db
open PySem L2 Evl StX
section
variable {X : Cx} (K : PySem.W.Frag) {tg l : Expr} {tl te : TE} {t : TA} {es : List Expr} {p : Pos}
theorem pi_tupK (h : PE X l tl) (e : X.K = K := by rfl) : PI X tg l (iTup K tl) := by subst e; exact pi_tup h
theorem pi_listK (h : PE X l tl) (e : X.K = K := by rfl) : PI X tg l (iList K tl) := by subst e; exact pi_list h
theorem pa_starK {x : Expr} (he : PE X x te) (hr : PA X es t) (e : X.K = K := by rfl) (hs : starEach (.Starred x p :: es) X.env = (true, eval x X.env) :: starEach es X.env := by rfl) : PA X (.Starred x p :: es) (tStar K te t) := by
  subst e
  exact pa_star he hr hs
end
/-- memories, each a tuple -/
def MV (K : PySem.W.Frag) (H : Hp) (v : V) (ws : List Nat) : Prop := ∃ a, v = .ref a ∧ SqT K H a (ws.map wV)
def MVs (K : PySem.W.Frag) (H : Hp) (vs : List V) (ms : List (List Nat)) : Prop := Paired (MV K H) vs ms
theorem MVs.mono {K : PySem.W.Frag} {H H' : Hp} {vs : List V} {ms : List (List Nat)} (e : Ex H H') (q : MVs K H vs ms) : MVs K H' vs ms := Paired.mapP q fun _ _ ⟨a, h, s⟩ => ⟨a, h, ex_t e s⟩
theorem MVs.length {K : PySem.W.Frag} {H : Hp} {vs : List V} {ms : List (List Nat)} (q : MVs K H vs ms) : vs.length = ms.length := Paired.length q
theorem MVs.get {K : PySem.W.Frag} {H : Hp} : ∀ {vs : List V} {ms : List (List Nat)} {i : Nat} {v : V}, MVs K H vs ms → vs[i]? = some v → ∃ m, ms[i]? = some m ∧ MV K H v m
  | _, _, _, _, .nil, e => by simp at e
  | _, _, 0, _, .cons r _, e => by simp at e; subst e; exact ⟨_, rfl, r⟩
  | _, _, i + 1, x, .cons _ t, e => by
    obtain ⟨u, h1, h2⟩ := MVs.get (i := i) (v := x) t (by simpa using e)
    exact ⟨u, by simpa using h1, h2⟩
theorem MVs.append {K : PySem.W.Frag} {H : Hp} : ∀ {us vs : List V} {ds es : List (List Nat)}, MVs K H us ds → MVs K H vs es → MVs K H (us ++ vs) (ds ++ es)
  | _, _, _, _, .nil, h => h
  | _, _, _, _, .cons r t, h => .cons r (MVs.append t h)
/-- all memories of so many cells, in their order -/
def grow (m : List Nat) : List (List Nat) := [m ++ [0], m ++ [1], m ++ [2]]
def mems : Nat → List (List Nat)
  | 0 => [[]]
  | n + 1 => (mems n).flatMap grow
theorem mems_length : ∀ n, (mems n).length = 3 ^ n
  | 0 => rfl
  | n + 1 => by
    have h : ∀ l : List (List Nat), (l.flatMap grow).length = 3 * l.length := by
      intro l
      induction l with
      | nil => rfl
      | cons a l ih => rw [List.flatMap_cons, List.length_append, ih]; show 3 + _ = _; rw [List.length_cons]; omega
    show ((mems n).flatMap grow).length = _
    rw [h, mems_length n, Nat.pow_succ]
    omega
theorem mems_mem : ∀ {n : Nat} {m : List Nat}, m ∈ mems n → m.length = n ∧ ∀ x ∈ m, x < 3
  | 0, m, h => by
    cases List.mem_singleton.mp h
    exact ⟨rfl, fun x hx => nomatch hx⟩
  | n + 1, m, h => by
    obtain ⟨u, hu, hm⟩ := List.mem_flatMap.mp h
    obtain ⟨l, s⟩ := mems_mem hu
    have : m = u ++ [0] ∨ m = u ++ [1] ∨ m = u ++ [2] := by simpa [grow] using hm
    rcases this with rfl | rfl | rfl <;> refine ⟨by simp [l], fun x hx => ?_⟩ <;> (rcases List.mem_append.mp hx with z | z; exact s x z; have := List.mem_singleton.mp z; omega)
/-- what both read and what stands, as data -/
def datO (S : Sts) : PyData := .tuple [.list (wD S.ss), .list (wD S.os), .tuple (wD S.ws)]
/-- the same is read and stands -/
def same3 (S U : Sts) : Bool := decide (S.ss = U.ss) && (decide (S.os = U.os) && decide (S.ws = U.ws))
def partRow (c : List Nat) (ds es : List Deed) : Option (List Nat × Rule) := ([Rule.new, .left, .right, .wait].find? fun r => !same3 (out r (begin0 c ds es)) (out .old (begin0 c ds es))).map fun r => (c, r)
def partD (c : Nat) (ds es : List Deed) : Option (List Nat × Rule) := (mems c).findSome? fun m => partRow m ds es
def datP : Option (List Nat × Rule) → PyData
  | none => .none
  | some (m, r) => .tuple [.tuple (wD m), .str "old", .str r.name]
theorem MVs.buts {K : PySem.W.Frag} {H H' : Hp} {S : List Addr} {vs : List V} {ms : List (List Nat)} (b : Bt S H H') (hp : ∀ p ∈ S, ∃ us, H p = some (.lst us)) (q : MVs K H vs ms) : MVs K H' vs ms := Paired.mapP q fun _ _ ⟨a, h, s⟩ => ⟨a, h, t_but b hp s⟩
theorem it_list {K : PySem.W.Frag} {a : Addr} {xs : List V} {H0 : Hp} {B : V → Hp → (Hp → Prop) → Prop} {Qd : Hp → Prop} (Pv : Nat → Hp → Prop) (h0 : Pv 0 H0) (hl : ∀ i H, i ≤ xs.length → Pv i H → SqL K H a xs)
    (hs : ∀ i x H, xs[i]? = some x → Pv i H → B x H (Pv (i + 1))) (hd : ∀ H, Pv xs.length H → Qd H) :
    ∃ W : Nat → Nat → Hp → Prop, (∃ m, W 0 m H0) ∧ ∀ i m H, W i m H →
      ((Itl K a).stop i H ∧ Qd H) ∨ ((Itl K a).go i H ∧ ∃ Nx : Hp → Prop, (∀ H', Nx H' → ∃ m', m' < m ∧ W (i + 1) m' H') ∧ ∀ x H', (Itl K a).yld i H x H' → B x H' Nx) := by
  refine ⟨fun i m H => m = xs.length - i ∧ i ≤ xs.length ∧ Pv i H, ⟨xs.length, by simp, Nat.zero_le _, h0⟩, ?_⟩
  rintro i m H ⟨rfl, hi, p⟩
  have q := hl i H hi p
  by_cases hlt : i < xs.length
  · refine .inr ⟨⟨xs, xs[i], q, by simp [hlt]⟩, Pv (i + 1), fun H' p' => ⟨xs.length - (i + 1), by omega, rfl, hlt, p'⟩, fun x H' y => ?_⟩
    obtain ⟨e, y⟩ := y
    subst e
    exact hs i x _ (y xs q) p
  · have e : i = xs.length := by omega
    subst e
    exact .inl ⟨⟨xs, q, Nat.le_refl _⟩, hd H p⟩
theorem it_tup {K : PySem.W.Frag} {a : Addr} {xs : List V} {H0 : Hp} {B : V → Hp → (Hp → Prop) → Prop} {Qd : Hp → Prop} (Pv : Nat → Hp → Prop) (h0 : Pv 0 H0) (hl : ∀ i H, i ≤ xs.length → Pv i H → SqT K H a xs)
    (hs : ∀ i x H, xs[i]? = some x → Pv i H → B x H (Pv (i + 1))) (hd : ∀ H, Pv xs.length H → Qd H) :
    ∃ W : Nat → Nat → Hp → Prop, (∃ m, W 0 m H0) ∧ ∀ i m H, W i m H →
      ((Itt K a).stop i H ∧ Qd H) ∨ ((Itt K a).go i H ∧ ∃ Nx : Hp → Prop, (∀ H', Nx H' → ∃ m', m' < m ∧ W (i + 1) m' H') ∧ ∀ x H', (Itt K a).yld i H x H' → B x H' Nx) := by
  refine ⟨fun i m H => m = xs.length - i ∧ i ≤ xs.length ∧ Pv i H, ⟨xs.length, by simp, Nat.zero_le _, h0⟩, ?_⟩
  rintro i m H ⟨rfl, hi, p⟩
  have q := hl i H hi p
  by_cases hlt : i < xs.length
  · refine .inr ⟨⟨xs, xs[i], q, by simp [hlt]⟩, Pv (i + 1), fun H' p' => ⟨xs.length - (i + 1), by omega, rfl, hlt, p'⟩, fun x H' y => ?_⟩
    obtain ⟨e, y⟩ := y
    subst e
    exact hs i x _ (y xs q) p
  · have e : i = xs.length := by omega
    subst e
    exact .inl ⟨⟨xs, q, Nat.le_refl _⟩, hd H p⟩
theorem grow_at {m : List Nat} {k : Nat} (h : k < 3) : (grow m).take (k + 1) = (grow m).take k ++ [m ++ [k]] := by
  match k, h with
  | 0, _ => rfl
  | 1, _ => rfl
  | 2, _ => rfl
theorem flat_at {l : List (List Nat)} {j : Nat} {m : List Nat} (h : l[j]? = some m) : (l.take (j + 1)).flatMap grow = (l.take j).flatMap grow ++ grow m := by
  rw [List.take_add_one, h, List.flatMap_append]
  simp
section
variable {K : PySem.W.Frag} {te tl th : TE} {tu tz : TS} {D : Ends} {σ : L2.St} {H : Hp} {j : Nat} {R : Addr → Hp → Prop}
theorem q_forX (h : ∀ Q : VK, (∀ l H2, R l H2 → Q (.ref l) H2) → te σ H Q) (k : ∀ l H2, R l H2 → tSeq (tFor (iList K (tC (.ref l))) (gName j) tu) tz D σ H2) : tSeq (tFor (iList K te) (gName j) tu) tz D σ H := h _ fun l H2 r => k l H2 r
theorem s_forXT (h : ∀ Q : VK, (∀ l H2, R l H2 → Q (.ref l) H2) → te σ H Q) (k : ∀ l H2, R l H2 → tFor (iTup K (tC (.ref l))) (gName j) tu D σ H2) : tFor (iTup K te) (gName j) tu D σ H := h _ fun l H2 r => k l H2 r
end
theorem eqvA_w : ∀ a b : List Nat, PyData.eqvAll (wD a) (wD b) = decide (a = b)
  | [], [] => by simp [wD, PyData.eqvAll]
  | [], y :: b => by simp [wD, PyData.eqvAll]
  | x :: a, [] => by simp [wD, PyData.eqvAll]
  | x :: a, y :: b => by
    have h := eqvA_w a b
    show PyData.eqvAll (.int x :: wD a) (.int y :: wD b) = _
    rw [PyData.eqvAll, h]
    have e : PyData.eqv (.int (x : Int)) (.int (y : Int)) = decide (x = y) := by
      by_cases z : x = y
      · subst z
        simp [PyData.eqv]
      · rw [decide_eq_false z]
        simp only [PyData.eqv]
        have z2 : ¬ (x : Int) = (y : Int) := by omega
        simpa using z2
    rw [e]
    by_cases hx : x = y <;> by_cases hr : a = b <;> simp [hx, hr]
theorem eqv_o (S U : Sts) : PyData.eqv (datO S) (datO U) = same3 S U := by
  unfold datO same3
  simp only [PyData.eqv, PyData.eqvAll, eqvA_w, Bool.and_true]
theorem sh_w (ws : List Nat) : Sh 1 (.list (wD ws)) := sh_lst fun d hd => by
  obtain ⟨n, _, rfl⟩ := List.mem_map.mp hd
  exact sh_int
theorem sh_wT (ws : List Nat) : Sh 1 (.tuple (wD ws)) := sh_tup fun d hd => by
  obtain ⟨n, _, rfl⟩ := List.mem_map.mp hd
  exact sh_int
theorem sh_o (S : Sts) : Sh 2 (datO S) := sh_tup fun d hd => by
  simp only [List.mem_cons, List.not_mem_nil, or_false] at hd
  rcases hd with rfl | rfl | rfl
  · exact sh_w _
  · exact sh_w _
  · exact sh_wT _
theorem findSome_at {α β : Type} {f : α → Option β} : ∀ {l : List α} {i : Nat} {a : α} {b : β}, l[i]? = some a → (∀ j a', j < i → l[j]? = some a' → f a' = none) → f a = some b → l.findSome? f = some b
  | [], _, _, _, h, _, _ => by simp at h
  | x :: l, 0, a, b, h, _, e => by
    cases h
    rw [List.findSome?_cons, e]
  | x :: l, i + 1, a, b, h, n, e => by
    rw [List.findSome?_cons, n 0 x (by omega) rfl]
    exact findSome_at (l := l) (i := i) (by simpa using h) (fun j a' hj hb => n (j + 1) a' (by omega) (by simpa using hb)) e
theorem findSome_no {α β : Type} {f : α → Option β} : ∀ {l : List α}, (∀ j a', j < l.length → l[j]? = some a' → f a' = none) → l.findSome? f = none
  | [], _ => rfl
  | x :: l, n => by
    rw [List.findSome?_cons, n 0 x (by simp) rfl]
    exact findSome_no (l := l) fun j a' hj hb => n (j + 1) a' (by simp; omega) (by simpa using hb)
def others : List Rule := [.new, .left, .right, .wait]
theorem partRow_find (c : List Nat) (ds es : List Deed) : partRow c ds es = others.findSome? fun r => if same3 (out r (begin0 c ds es)) (out .old (begin0 c ds es)) = true then none else some (c, r) := by
  unfold partRow
  show (others.find? _).map _ = _
  generalize others = l
  induction l with
  | nil => rfl
  | cons r l ih =>
    rw [List.find?_cons, List.findSome?_cons]
    cases h : same3 (out r (begin0 c ds es)) (out .old (begin0 c ds es)) with
    | true => simpa [h] using ih
    | false => simp [h]
theorem s_forTn {K : PySem.W.Frag} {tl : TE} {tu : TS} {D : Ends} {σ : L2.St} {H : Hp} {a : Addr} {xs : List V} {j : Nat} (h : Ev tl σ H (.ref a)) (hx : SqT K H a xs) (Pv : Nat → L2.St → Hp → Prop) (h0 : ∀ H1, Ex H H1 → Pv 0 σ H1) (hl : ∀ i σ' H', i ≤ xs.length → Pv i σ' H' → SqT K H' a xs)
    (hs : ∀ i x σ' H', xs[i]? = some x → Pv i σ' H' → tu { D with nx := Pv (i + 1), ct := Pv (i + 1), bk := D.nx } (σ'.set j (some x)) H') (hd : ∀ σ' H', Pv xs.length σ' H' → D.nx σ' H') : tFor (iTup K tl) (gName j) tu D σ H :=
  s_forT h hx Pv h0 hl hs hd
theorem sl_tupK {X : Cx} (K : PySem.W.Frag) (e : X.K = K := by rfl) : SlR X (rSlT K) := by subst e; exact sl_tup
section
variable {K : PySem.W.Frag} {te tb : TE} {σ : L2.St} {H : Hp} {xs : List V} {v : V} {i : Int}
/-- a cell of a new list -/
theorem ev_ixNew (h : EvL te σ H xs) (hb : Ev tb σ H (.int i)) (ha : atI xs i = some v) : Ev (tOp (rIxL K) te tb) σ H v := fun H1 e Q q => h H1 e _ fun p H2 hp e2 hx => hb H2 (e.trans e2) _ fun H3 e3 => ⟨p, _, i, _, rfl, rfl, SqL.of (e3 _ _ hx), ha, q H3 (e2.trans e3)⟩
theorem eu_tupleOf (h : EvL te σ H xs) : EvU (tCB (fun xs H Q => ∃ p ys, xs = [.ref p] ∧ ((SqL K H p ys ∧ ∀ l, H l = none → Q (.ref l) (upd H l (.tup ys))) ∨ (SqT K H p ys ∧ Q (.ref p) H))) (tCons te tNil)) σ H xs := fun H1 e Q q =>
  h H1 e _ fun p H2 hp e2 hx => ⟨p, xs, rfl, .inl ⟨SqL.of hx, fun l hl => q l _ (fresh_back e2 hl) (e2.trans (Ex.new hl)) upd_same⟩⟩
end
/-- the i-th memory of so many cells, digit by digit -/
def dig (c i : Nat) : List Nat := (List.range c).map fun k => i / 3 ^ (c - 1 - k) % 3
theorem mems_dig : ∀ c, 1 ≤ c → c ≤ 4 → mems c = (List.range (3 ^ c)).map (dig c)
  | 1, _, _ => by decide +kernel
  | 2, _, _ => by decide +kernel
  | 3, _, _ => by decide +kernel
  | 4, _, _ => by decide +kernel
  | 0, h, _ => absurd h (by decide)
  | n + 5, _, h => absurd h (by omega)
theorem given_all (n : Nat) (v : Nat → V) : given n (fun _ => true) v = (List.range n).map v := by
  unfold given
  rw [List.filter_eq_self.mpr (fun _ _ => rfl)]
def t3 (S : Sts) : List Nat × List Nat × List Nat := (S.ss, S.os, S.ws)
theorem same3_iff (S U : Sts) : same3 S U = true ↔ t3 S = t3 U := by
  unfold same3 t3
  simp
theorem same3_comm (S U : Sts) : same3 S U = same3 U S := by
  rw [Bool.eq_iff_iff, same3_iff, same3_iff]
  exact ⟨Eq.symm, Eq.symm⟩
def rulesL : List Rule := [.old, .new, .left, .right, .wait]
def pairA : List V := [.int 0, .int 0, .int 0, .int 0, .int 1, .int 1, .int 1, .int 2, .int 2, .int 3]
def pairB : List V := [.int 1, .int 2, .int 3, .int 4, .int 2, .int 3, .int 4, .int 3, .int 4, .int 4]
theorem pair_at {k : Nat} (h : k < 10) : ∃ (a b : Nat) (rA rB : Rule), pairA[k]? = some (.int a) ∧ pairB[k]? = some (.int b) ∧ rulesL[a]? = some rA ∧ rulesL[b]? = some rB ∧ ((k < 4 ∧ rA = .old ∧ others[k]? = some rB) ∨ 4 ≤ k) := by
  match k, h with
  | 0, _ => exact ⟨0, 1, _, _, rfl, rfl, rfl, rfl, .inl ⟨by decide, rfl, rfl⟩⟩
  | 1, _ => exact ⟨0, 2, _, _, rfl, rfl, rfl, rfl, .inl ⟨by decide, rfl, rfl⟩⟩
  | 2, _ => exact ⟨0, 3, _, _, rfl, rfl, rfl, rfl, .inl ⟨by decide, rfl, rfl⟩⟩
  | 3, _ => exact ⟨0, 4, _, _, rfl, rfl, rfl, rfl, .inl ⟨by decide, rfl, rfl⟩⟩
  | 4, _ => exact ⟨1, 2, _, _, rfl, rfl, rfl, rfl, .inr (by decide)⟩
  | 5, _ => exact ⟨1, 3, _, _, rfl, rfl, rfl, rfl, .inr (by decide)⟩
  | 6, _ => exact ⟨1, 4, _, _, rfl, rfl, rfl, rfl, .inr (by decide)⟩
  | 7, _ => exact ⟨2, 3, _, _, rfl, rfl, rfl, rfl, .inr (by decide)⟩
  | 8, _ => exact ⟨2, 4, _, _, rfl, rfl, rfl, rfl, .inr (by decide)⟩
  | 9, _ => exact ⟨3, 4, _, _, rfl, rfl, rfl, rfl, .inr (by decide)⟩
  | n + 10, h => omega
theorem names_at {a : Nat} {r : Rule} (h : rulesL[a]? = some r) : ruleNames[a]? = some (.str r.name) := by
  have e : ruleNames = rulesL.map fun r => V.str r.name := rfl
  rw [e, List.getElem?_map, h]
  rfl
/-- told of the three, apart from a list -/
def O3 (K : PySem.W.Frag) (D : Addr) (X : Hp) (v : V) (S : Sts) : Prop := ∃ t s o m, v = .ref t ∧ X t = some (.tup [.ref s, .ref o, .ref m]) ∧ X s = some (.lst (S.ss.map wV)) ∧ X o = some (.lst (S.os.map wV)) ∧ SqT K X m (S.ws.map wV) ∧ s ≠ D ∧ o ≠ D
theorem O3.mono {K : PySem.W.Frag} {D : Addr} {X Y : Hp} {v : V} {S : Sts} (e : Ex X Y) (h : O3 K D X v S) : O3 K D Y v S := by
  obtain ⟨t, s, o, m, h1, h2, h3, h4, h5, h6, h7⟩ := h
  exact ⟨t, s, o, m, h1, e _ _ h2, e _ _ h3, e _ _ h4, ex_t e h5, h6, h7⟩
theorem O3.set {K : PySem.W.Frag} {D : Addr} {X : Hp} {v : V} {S : Sts} {bs cs : List V} (hD : X D = some (.lst bs)) (h : O3 K D X v S) : O3 K D (upd X D (.lst cs)) v S := by
  obtain ⟨t, s, o, m, h1, h2, h3, h4, h5, h6, h7⟩ := h
  have b : Bt [D] X (upd X D (.lst cs)) := (Bt.refl X).set (by simp)
  have nt : t ≠ D := ne_of h2 hD (by intro z; cases z)
  exact ⟨t, s, o, m, h1, b _ _ (by simp [nt]) h2, b _ _ (by simp [h6]) h3, b _ _ (by simp [h7]) h4, t_but b (by simp [hD]) h5, h6, h7⟩
/-! ### without a clash no rule matters -/
theorem beat_nc {r : Rule} {ws : List Nat} {d e : Deed} (h : clashD d e = false) : beat r ws d e = beat .old ws d e := by
  have cm : ∀ (a b x y : Nat), a ≠ b → (ws.set a x).set b y = (ws.set b y).set a x := fun a b x y n => List.set_comm x y n
  cases d with
  | rs => cases e <;> cases r <;> simp [beat, wrl, rdl]
  | rd c =>
    cases e with
    | rs => cases r <;> simp [beat, wrl, rdl]
    | rd c' => cases r <;> simp [beat, wrl, rdl]
    | wr c' y =>
      have n : c ≠ c' := fun z => by subst z; simp [clashD, Deed.cell, Deed.isW] at h
      cases r <;> simp [beat, wrl, rdl, List.getElem?_set, n, n.symm, List.getD_eq_getElem?_getD]
  | wr c x =>
    cases e with
    | rs => cases r <;> simp [beat, wrl, rdl]
    | rd c' =>
      have n : c ≠ c' := fun z => by subst z; simp [clashD, Deed.cell, Deed.isW] at h
      cases r <;> simp [beat, wrl, rdl, List.getElem?_set, n, n.symm, List.getD_eq_getElem?_getD]
    | wr c' y =>
      have n : c ≠ c' := fun z => by subst z; simp [clashD, Deed.cell, Deed.isW] at h
      cases r <;> simp [beat, wrl, rdl, cm c c' x y n]
theorem getD_tail (l : List Deed) (i : Nat) : l.tail.getD i .rs = l.getD (i + 1) .rs := by cases l <;> simp
theorem runF_nc {r : Rule} : ∀ (n : Nat) (S : Sts), (∀ i, clashD (S.l.getD i .rs) (S.r.getD i .rs) = false) → runF r n S = runF .old n S
  | 0, _, _ => rfl
  | n + 1, S, h => by
    have h0 : clashD (S.l.headD .rs) (S.r.headD .rs) = false := by
      have z := h 0
      rwa [getD_zero, getD_zero] at z
    show runF r n (stepS r S) = runF .old n (stepS .old S)
    by_cases hd : S.done
    · rw [stepS_done hd, stepS_done hd]
      exact runF_nc n S h
    · rw [stepS_of hd, stepS_of hd]
      have w : ∀ q : Rule, waits q S = false := fun q => by unfold waits; rw [h0, Bool.and_false]
      have e : ∀ q : Rule, one q S = after S (beat .old S.ws (S.l.headD .rs) (S.r.headD .rs)) false := fun q => by
        unfold one
        rw [w q, beat_nc h0]
        rfl
      rw [e r, e .old]
      refine runF_nc n _ fun i => ?_
      show clashD (S.l.tail.getD i .rs) (S.r.tail.getD i .rs) = false
      rw [getD_tail, getD_tail]
      exact h (i + 1)
theorem partD_nc {c : Nat} {ds es : List Deed} (h : clashesD ds es = []) : partD c ds es = none := by
  have nc : ∀ i, clashD (ds.getD i .rs) (es.getD i .rs) = false := fun i => by
    by_cases hi : i < min ds.length es.length
    · have z := List.filter_eq_nil_iff.mp h i (List.mem_range.mpr hi)
      simpa using z
    · by_cases h1 : i < ds.length
      · have e : es.getD i .rs = .rs := by rw [List.getD_eq_getElem?_getD, List.getElem?_eq_none (by omega)]; rfl
        rw [e]
        unfold clashD
        cases (ds.getD i .rs).cell <;> rfl
      · have e : ds.getD i .rs = .rs := by rw [List.getD_eq_getElem?_getD, List.getElem?_eq_none (by omega)]; rfl
        rw [e]
        rfl
  refine findSome_no fun j m _ _ => ?_
  rw [partRow_find]
  refine findSome_no fun k r _ _ => ?_
  rw [if_pos ((same3_iff _ _).mpr _)]
  have e : out r (begin0 m ds es) = out .old (begin0 m ds es) := runF_nc _ _ nc
  rw [e]
theorem nice_P {c : Nat} {ds es : List Deed} (hc : c ≤ 4) : Nice 2 (datP (partD c ds es)) := by
  cases h : partD c ds es with
  | none => exact .non
  | some z =>
    obtain ⟨m, r⟩ := z
    have hm : m ∈ mems c := by
      obtain ⟨a, ha, hb⟩ := List.exists_of_findSome?_eq_some h
      unfold partRow at hb
      obtain ⟨x, _, hx⟩ := Option.map_eq_some_iff.mp hb
      cases hx
      exact ha
    have hl := (mems_mem hm).1
    refine .tup (by simp) fun d hd => ?_
    simp only [List.mem_cons, List.not_mem_nil, or_false] at hd
    rcases hd with rfl | rfl | rfl
    · exact nice_wT (by omega)
    · exact .str (by decide +kernel)
    · exact .str (by cases r <;> decide +kernel)
/-- the deeds made over -/
def conv : Deed → Deed
  | .wr _ _ => .wr 0 1
  | _ => .rs
theorem conv_ok {d : Deed} {n : Nat} (h : 0 < n) : (conv d).ok n := by
  cases d with
  | wr c x => exact ⟨h, by decide⟩
  | rd c => exact True.intro
  | rs => exact True.intro
theorem eu_if {t : TT} {ta tb : TE} {σ : L2.St} {H : Hp} {b : Bool} {xs : List V} (h : EvT t σ H b) (h1 : b = true → EvU ta σ H xs) (h2 : b = false → EvU tb σ H xs) : EvU (tIf t ta tb) σ H xs := fun H1 e Q q => h H1 e _ fun H2 e2 => by
  cases b with
  | true =>
    show ta σ H2 Q
    exact h1 rfl H2 (e.trans e2) Q fun p H3 hp e3 h3 => q p H3 (fresh_back e2 hp) (e2.trans e3) h3
  | false =>
    show tb σ H2 Q
    exact h2 rfl H2 (e.trans e2) Q fun p H3 hp e3 h3 => q p H3 (fresh_back e2 hp) (e2.trans e3) h3
theorem conv_at {l : List Deed} {j : Nat} {d : Deed} (h : l[j]? = some d) : (l.take (j + 1)).map conv = (l.take j).map conv ++ [conv d] := by
  rw [List.take_add_one, h, List.map_append]
  rfl
theorem s_ifX {t : TT} {tu tw : TS} {D : Ends} {σ : L2.St} {H : Hp} {R : Bool → Hp → Prop} (h : ∀ Q : Bool → Hp → Prop, (∀ b H2, R b H2 → Q b H2) → t σ H Q) (h1 : ∀ H2, R true H2 → tu D σ H2) (h2 : ∀ H2, R false H2 → tw D σ H2) : tIfS t tu tw D σ H := h _ fun b H2 r => by
  cases b with
  | true =>
    show tu D σ H2
    exact h1 H2 r
  | false =>
    show tw D σ H2
    exact h2 H2 r
theorem s_conv {K : PySem.W.Frag} {i : Nat} {D : Ends} {σ : L2.St} {H : Hp} {p : Addr} {us : List V} {ds : List Deed} (hi : σ[i]? = some (some (.ref p))) (hl : SqL K H p us) (hP : PV K H us ds) (hz : ds.length ≤ 40) (hw : ∀ x, wipe ((wipe σ [9]).set 9 (some x)) [9] = wipe σ [9]) (hx : ∀ x, ((wipe σ [9]).set 9 (some x))[9]? = some (some x))
    (k : ∀ p' us' H', H p' = none → Ex H H' → H' p' = some (.lst us') → PV K H' us' (ds.map conv) → D.nx (σ.set i (some (.ref p'))) H') :
    tAsg (tLc (iList K (tVar i)) (gName 9) tYes (tIf (tTest (tOp rEq (tOp (rIxT K) (tVar 9) (tC (.int 0))) (tC (.str "write")))) (tTup (tCons (tC (.str "write")) (tCons (tC (.int 0)) (tCons (tC (.int 1)) tNil)))) (tTup (tCons (tC (.str "rest")) tNil))) [9]) (gName i) D σ H := by
  refine ⟨_, hi, p, rfl, ⟨us, hl⟩, fun L hL => ?_⟩
  have hlen := hP.length
  refine it_list (xs := us) (fun j X => ∃ bs, X L = some (.lst bs) ∧ PV K X bs ((ds.take j).map conv) ∧ Ex H X ∧ bs.length = j) ⟨[], upd_same, .nil, Ex.new hL, rfl⟩ (fun j X _ ⟨_, _, _, e, _⟩ => ex_l e hl) ?_ ?_
  · rintro j x X hj ⟨bs, hb, hB, eX, hn⟩
    have hju := (List.getElem?_eq_some_iff.mp hj).1
    obtain ⟨d, hd, a, rfl, hv⟩ := (hP.mono eX).get hj
    refine gn ?_
    refine ⟨hw _, ?_⟩
    have wd : decide (V.str d.tag = V.str "write") = d.isW := by
      cases d with
      | rd c => exact (by decide +kernel : decide (V.str "read" = V.str "write") = false)
      | wr c x => exact (by decide +kernel : decide (V.str "write" = V.str "write") = true)
      | rs => exact (by decide +kernel : decide (V.str "rest" = V.str "write") = false)
    have ev : EvU (tIf (tTest (tOp rEq (tOp (rIxT K) (tVar 9) (tC (.int 0))) (tC (.str "write")))) (tTup (tCons (tC (.str "write")) (tCons (tC (.int 0)) (tCons (tC (.int 1)) tNil)))) (tTup (tCons (tC (.str "rest")) tNil))) ((wipe σ [9]).set 9 (some (.ref a))) X (conv d).vals :=
      eu_if (b := d.isW) (et_test (ev_is (ev_op (x := .str d.tag) (y := .str "write") (ev_op (ev_var (hx _)) ev_c (DV.tag hv)) ev_c (rv_eq rfl)) (by rw [wd])))
        (fun hb => by
          cases d with
          | wr c x => exact eu_tup (vs := [.str "write", .int 0, .int 1]) (ea_cons ev_c (ea_cons ev_c (ea_cons ev_c ea_nil))) (by simp)
          | rd c => cases hb
          | rs => cases hb)
        (fun hb => by
          cases d with
          | wr c x => cases hb
          | rd c => exact eu_tup (vs := [.str "rest"]) (ea_cons ev_c ea_nil) (by simp)
          | rs => exact eu_tup (vs := [.str "rest"]) (ea_cons ev_c ea_nil) (by simp))
    refine ev X (Ex.refl X) _ fun t Y nt eY ht => ?_
    have hb2 := eY _ _ hb
    have b2 : Bt [L] Y (upd Y L (.lst (bs ++ [.ref t]))) := (Bt.refl Y).set (by simp)
    have l2 : ∀ q ∈ [L], ∃ us, Y q = some (.lst us) := by simp [hb2]
    refine ⟨bs, hb2, by show bs.length < 2 ^ 24; omega, bs ++ [.ref t], upd_same, ?_, (eX.trans eY).mut hL, by rw [List.length_append, hn]; rfl⟩
    rw [conv_at hd]
    exact (pv_buts b2 l2 (hB.mono eY)).append (.cons ⟨t, rfl, t_but b2 l2 (SqT.of ht)⟩ .nil)
  · rintro X ⟨bs, hb, hB, eX, hn⟩
    rw [hlen, List.take_length] at hB
    exact gn (k L bs X hL eX hb hB)
theorem q_conv {K : PySem.W.Frag} {i : Nat} {tz : TS} {D : Ends} {σ : L2.St} {H : Hp} {p : Addr} {us : List V} {ds : List Deed} (hi : σ[i]? = some (some (.ref p))) (hl : SqL K H p us) (hP : PV K H us ds) (hz : ds.length ≤ 40) (hw : ∀ x, wipe ((wipe σ [9]).set 9 (some x)) [9] = wipe σ [9]) (hx : ∀ x, ((wipe σ [9]).set 9 (some x))[9]? = some (some x))
    (k : ∀ p' us' H', H p' = none → Ex H H' → H' p' = some (.lst us') → PV K H' us' (ds.map conv) → tz D (σ.set i (some (.ref p'))) H') :
    tSeq (tAsg (tLc (iList K (tVar i)) (gName 9) tYes (tIf (tTest (tOp rEq (tOp (rIxT K) (tVar 9) (tC (.int 0))) (tC (.str "write")))) (tTup (tCons (tC (.str "write")) (tCons (tC (.int 0)) (tCons (tC (.int 1)) tNil)))) (tTup (tCons (tC (.str "rest")) tNil))) [9]) (gName i)) tz D σ H :=
  s_conv (D := { D with nx := tz D }) hi hl hP hz hw hx k
theorem eqv_list_w (a b : List Nat) : PyData.eqv (.list (wD a)) (.list (wD b)) = decide (a = b) := by simp only [PyData.eqv, eqvA_w]
section
variable {tz : TS} {D : Ends} {σ : L2.St} {H : Hp}
/-- a test whose value comes with what is made on the way -/
theorem q_whenX {t : TT} {tu : TS} {R : Hp → Prop} (h : ∀ Q : Bool → Hp → Prop, (∀ H2, R H2 → Q false H2) → t σ H Q) (k : ∀ H2, R H2 → tz D σ H2) : tSeq (tIfS t tu tNext) tz D σ H := h _ fun H2 r => k H2 r
theorem s_whenX {t : TT} {tu : TS} {R : Hp → Prop} (h : ∀ Q : Bool → Hp → Prop, (∀ H2, R H2 → Q false H2) → t σ H Q) (k : ∀ H2, R H2 → D.nx σ H2) : tIfS t tu tNext D σ H := h _ fun H2 r => k H2 r
end
section
variable {K : PySem.W.Frag} {σ : L2.St} {H : Hp} {ta te tb tw : TE} {t : TT} {tu : TS} {D : Ends} {tz : TS}
theorem el_rep {xs : List V} {n : Nat} (h : EvL te σ H xs) (hb : Ev tb σ H (.int n)) (hz : xs.length * n ≤ 100000) (hn : n ≤ 100000) : EvL (tOp rRep te tb) σ H (List.replicate n xs).flatten := fun H1 e Q q =>
  h H1 e _ fun p H2 hp e2 hx => hb H2 (e.trans e2) _ fun H3 e3 => ⟨p, n, xs, rfl, rfl, e3 _ _ hx, by omega, by omega, by rw [Int.toNat_natCast]; exact sz_of hz, fun p' hp' => by
    rw [Int.toNat_natCast]
    exact q p' _ (fresh_back (e2.trans e3) hp') ((e2.trans e3).trans (Ex.new hp')) upd_same⟩
theorem el_catN {xs ys : List V} (ha : EvL ta σ H xs) (hb : EvL tb σ H ys) (hz : xs.length + ys.length ≤ 100000) : EvL (tOp rCat ta tb) σ H (xs ++ ys) := fun H1 e Q q =>
  ha H1 e _ fun p H2 hp e2 hx => hb H2 (e.trans e2) _ fun p' H3 hp' e3 hy => ⟨p, p', xs, ys, rfl, rfl, e3 _ _ hx, hy, sz_of hz, fun p2 hp2 => q p2 _ (fresh_back (e2.trans e3) hp2) ((e2.trans e3).trans (Ex.new hp2)) upd_same⟩
/-- a while whose test draws -/
theorem s_whileX (W : Nat → L2.St → Hp → Prop) (m0 : Nat) (h0 : W m0 σ H)
    (hs : ∀ m σ' H', W m σ' H' → ∃ R : Bool → Hp → Prop, (∀ Q : Bool → Hp → Prop, (∀ b H1, R b H1 → Q b H1) → t σ' H' Q) ∧ (∀ H1, R true H1 → ∃ N : L2.St → Hp → Prop, (∀ σ2 H2, N σ2 H2 → ∃ m', m' < m ∧ W m' σ2 H2) ∧ tu { D with nx := N, ct := N, bk := D.nx } σ' H1) ∧ (∀ H1, R false H1 → D.nx σ' H1)) : tWhile t tu D σ H :=
  ⟨W, ⟨m0, h0⟩, fun m σ' H' hw => by
    obtain ⟨R, hb, h1, h2⟩ := hs m σ' H' hw
    refine hb _ fun b H1 r => ?_
    cases b with
    | true => exact h1 H1 r
    | false => exact h2 H1 r⟩
end
theorem cut_from {α : Type} (us : List α) (i : Nat) (g : List α → Option Int → Option Int → List α) (hg : ∀ l a b, g l a b = (l.drop (HT.sIx l.length 0 a)).take (HT.sIx l.length l.length b - HT.sIx l.length 0 a)) : g us (some (i : Int)) none = us.drop i := by
  have e1 : HT.sIx us.length 0 (some (i : Int)) = min i us.length := HT.sIx_nat _ _ _
  have e2 : HT.sIx us.length us.length none = us.length := HT.sIx_none _ _
  rw [hg, e1, e2]
  by_cases h : i ≤ us.length
  · rw [Nat.min_eq_left h, List.take_of_length_le (by rw [List.length_drop]; exact Nat.le_refl _)]
  · rw [Nat.min_eq_right (by omega), List.drop_of_length_le (Nat.le_refl _), List.drop_of_length_le (by omega)]
    simp
theorem cut_to {α : Type} (us : List α) (i : Nat) (g : List α → Option Int → Option Int → List α) (hg : ∀ l a b, g l a b = (l.drop (HT.sIx l.length 0 a)).take (HT.sIx l.length l.length b - HT.sIx l.length 0 a)) : g us none (some (i : Int)) = us.take i := by
  have e1 : HT.sIx us.length 0 none = 0 := HT.sIx_none _ _
  have e2 : HT.sIx us.length us.length (some (i : Int)) = min i us.length := HT.sIx_nat _ _ _
  rw [hg, e1, e2, List.drop_zero, Nat.sub_zero, ← List.take_eq_take_min]
theorem cutV_from (us : List V) (i : Nat) : cutV us (some (i : Int)) none = us.drop i := cut_from us i cutV fun _ _ _ => rfl
theorem cutV_to (us : List V) (i : Nat) : cutV us none (some (i : Int)) = us.take i := cut_to us i cutV fun _ _ _ => rfl
section
variable {K : PySem.W.Frag} {σ : L2.St} {H : Hp} {to te : TE}
theorem ev_m1 {r : V → List V → Hp → VK → Prop} {a : Str} {y z : V} (h1 : Ev to σ H (.str a)) (h2 : Ev te σ H y) (hr : ∀ H1, Ex H H1 → ∀ Q : VK, (∀ H2, Ex H1 H2 → Q z H2) → r (.str a) [y] H1 Q) : Ev (tM1 r to te) σ H z := fun H1 e Q q =>
  h1 H1 e _ fun H2 e2 => ⟨⟨a, rfl⟩, h2 H2 (e.trans e2) _ fun H3 e3 => hr H3 ((e.trans e2).trans e3) Q fun H4 e4 => q H4 ((e2.trans e3).trans e4)⟩
end
end Db

namespace Zen
open PySem PySem.Spec PyProof.Rows L2
/-! enumerate of a text -/
def IteS (x : Str) : It :=
  ⟨fun i _ => i < x.cps.size, fun i H v H' => ∃ T c, v = .ref T ∧ H T = none ∧ H' = L2.upd H T (.tup [.int (i : Nat), .str ⟨#[c]⟩]) ∧ x.cps[i]? = some c, fun i _ => i = x.cps.size⟩
theorem draws_str {prog : Program} {w : World} {A : Around} (hh : A.handled = none) (it : Addr) (x : Str) (t : Tok) (ty : String) (hty : ty = "str_ascii_iterator" ∨ ty = "str_iterator") :
    Draws prog w A it [it] x.cps.size (fun i v => ∃ c u, x.cps[i]? = some c ∧ v = .str ⟨#[c]⟩ u) (fun i h => h.IsStrIter it ty x t i) := by
  rcases hty with rfl | rfl
  · exact Draws.strAscii hh it x t
  · exact Draws.strWide hh it x t
theorem turn_enumS {P : Program} {w : World} {K : PySem.W.Frag} {elts : List Expr} {kk : Nat} {tpos : Pos} (x : Str) (t : Tok) (ty : String) (hty : ty = "str_ascii_iterator" ∨ ty = "str_iterator") (e it : Addr) :
    Turn P w K (.Tuple elts kk tpos) (IteS x) [e, it] e (fun i h => (∃ old, IsEnum h e it ((i : Nat) : Int) old) ∧ h.IsStrIter it ty x t i ∧ e ≠ it) where
  mem := by simp
  obj := fun i h st b hb => by
    obtain ⟨⟨old, he⟩, ⟨o, ho, hc, hd⟩, _⟩ := st
    have e' : b = e ∨ b = it := by simpa using hb
    rcases e' with z | z
    · rw [z]; exact ⟨_, he, fun v q => nomatch q⟩
    · rw [z]; exact ⟨o, ho, fun v q => by rw [hd] at q; cases q⟩
  keep := fun i h h' st k => let ⟨⟨old, he⟩, ⟨o, ho, r⟩, hne⟩ := st; ⟨⟨old, k e (by simp) _ he⟩, ⟨o, k it (by simp) o ho, r⟩, hne⟩
  item := by
    intro X hP hw hK hc i pins s σ H E I hf st hg
    subst hP hw hK
    obtain ⟨⟨old, he⟩, hit, hne⟩ := st
    have hel : e < s.heap.objs.size := Heap.lt_size he
    have hil : it < s.heap.objs.size := by obtain ⟨_, q, _⟩ := hit; exact Heap.lt_size q
    refine wpAny_pyNext_enum_itemD (draws_str (prog := X.prog) (w := X.w) (A := X.A.in1) (I.ok.hd hc) it x t ty hty) he hit hg hne (by simpa using hne) fun v h' tk hv ho hit' hT hsz hk => ?_
    obtain ⟨c, u, hcx, rfl⟩ := hv
    refine ⟨_, rfl, wpAny_letOwnedTupleGo_enum (s := { s with heap := h', toks := tk + 1 }) ho fun h'' he' sb => ?_⟩
    have hT2 : h''.get? s.heap.objs.size = some { cls := .type "tuple", data := .seq #[.int i tk, .str ⟨#[c]⟩ u] } := (sb.2 _ (Nat.ne_of_gt hel)).trans hT
    have new : ObjOk X.prog X.w (L2.upd H s.heap.objs.size (.tup [.int (i : Nat), .str ⟨#[c]⟩])) h'' s.heap.objs.size (.tup [.int (i : Nat), .str ⟨#[c]⟩]) :=
      ⟨by show 2 ≤ sizeLine; decide, [.int i tk, .str ⟨#[c]⟩ u], .cons ⟨_, rfl⟩ (.cons ⟨_, rfl⟩ .nil), ⟨_, hT2, rfl, _, rfl⟩⟩
    have I1 : Inv X pins σ (L2.upd H s.heap.objs.size (.tup [.int (i : Nat), .str ⟨#[c]⟩])) { s with heap := h'', toks := tk + 1 } :=
      I.turnedNew (ch := [e, it]) (fun b ob hb q => (sb.2 b (fun z => hb (by simp [z]))).trans (hk b ob (fun z => hb (by simp [z])) (fun z => hb (by simp [z])) q)) hf (Nat.le_refl _) new
    refine ⟨.ref s.heap.objs.size, _, I1, rfl, ⟨_, c, rfl, I.hok.fresh (Nat.le_refl _), rfl, hcx⟩, ⟨⟨.str ⟨#[c]⟩ u, ?_⟩, ?_, hne⟩, fun b hb => ?_⟩
    · have e1 : ((i + 1 : Nat) : Int) = (i : Int) + 1 := by omega
      rw [e1]; exact he'
    · obtain ⟨o, ho2, r⟩ := hit'
      exact ⟨o, (sb.2 it (Ne.symm hne)).trans ho2, r⟩
    · have hb' : b < s.heap.objs.size := by
        have e' : b = e ∨ b = it := by simpa using hb
        rcases e' with z | z
        · rw [z]; exact hel
        · rw [z]; exact hil
      rw [upd_ne (Nat.ne_of_lt hb')]
      exact (hf b hb).1
  done := by
    intro X hP hw hK hc i pins s σ H E I hf st hg
    subst hP hw hK
    obtain ⟨⟨old, he⟩, hit, hne⟩ := st
    obtain ⟨f0, f1, f2, f3, f4, f5⟩ := hf it (by simp)
    cases hg
    exact wpAny_pyNext_enum_endD (draws_str (prog := X.prog) (w := X.w) (A := X.A.in1) (I.ok.hd hc) it x t ty hty) he hit fun h' eb => ⟨rfl, I.turned (t' := s.toks) (fun b o hb q => eb b o hb q) f0 f1 f3 f4 f5⟩
  self := fun A i s Q E st h => let ⟨⟨_, he⟩, _⟩ := st; wpAny_pyIter_enum he h

def iEnumS (ta : TA) : TI := fun σ H R => ta σ H fun vs H1 => ∃ x, vs = [.str x] ∧ R (IteS x) H1
theorem ty_iter (x : Str) : strIterType x = "str_ascii_iterator" ∨ strIterType x = "str_iterator" := by
  unfold strIterType
  split
  · exact .inl rfl
  · exact .inr rfl
theorem pi_enumS {X : Cx} {e : Expr} {ta : TA} {p pos tpos : Pos} {elts : List Expr} {kk : Nat} (hg : Gl X "enumerate") (hm : X.mg "enumerate" = none) (ha : PA X [e] ta) (hs : starEach [e] X.env = [(false, eval e X.env)] := by rfl) :
    PI X (.Tuple elts kk tpos) (.Call (.Name "enumerate" p) [e] [] pos) (iEnumS ta) := by
  refine ⟨fun pins s σ H R I h => ?_⟩
  refine Call_ (ld_blt I hg hm boot_enumerate (PyProof.Rows.callWith_type1 (thn (ha.run pos pins s σ H _ I h) fun us s1 ⟨vs, H1, I1, r1, q1⟩ => ?_) hs rfl))
  obtain ⟨x, ex, q⟩ := q1
  subst ex
  cases r1 with
  | cons r rr =>
    cases rr
    obtain ⟨t, rfl⟩ := r
    refine call_enumerate_str fun h' he hit hsz hk => wpAny_pyIter_enum he ?_
    have I2 : Inv X pins σ H1 { s1 with heap := h' } := I1.kept (t' := s1.toks) hk
    refine ⟨s1.heap.objs.size + 1, [s1.heap.objs.size + 1, s1.heap.objs.size], _, _, H1, rfl, I2, turn_enumS x t (strIterType x) (ty_iter x) (s1.heap.objs.size + 1) s1.heap.objs.size, ⟨⟨.none, he⟩, hit, Nat.succ_ne_self _⟩, fun b hb => ?_, q⟩
    have e' : b = s1.heap.objs.size + 1 ∨ b = s1.heap.objs.size := by simpa using hb
    have hle : s1.heap.objs.size ≤ b := by
      rcases e' with z | z
      · rw [z]; exact Nat.le_add_right _ _
      · rw [z]; exact Nat.le_refl _
    exact I1.fpOk hle (I1.hok.fresh hle)
theorem walk_enumS {x : Str} : Walk (IteS x) x.cps.size (fun _ => True) (YPair (fun i => some (.int (i : Nat))) (fun i => x.cps[i]?.map fun c => .str ⟨#[c]⟩)) := by
  refine ⟨fun i _ hi _ => hi, fun _ _ => rfl, fun i H v H' _ q y => ?_⟩
  obtain ⟨T, c, h1, h2, h3, h4⟩ := y
  exact ⟨T, .int (i : Nat), _, h1, h2, h3, rfl, by show x.cps[i]?.map _ = _; rw [h4]; rfl⟩
end Zen
namespace Zen
open PySem PySem.Spec PyProof.Rows L2
/-! a text times a number -/
theorem reps_one (c : Nat) : ∀ (k : Nat) (acc : Array Nat), (List.replicate k #[c]).foldl (· ++ ·) acc = acc ++ (List.replicate k c).toArray
  | 0, acc => by simp
  | k + 1, acc => by
    rw [List.replicate_succ, List.foldl_cons, reps_one c k]
    apply Array.ext'
    simp [List.replicate_succ]
theorem op_mulS {X : Cx} : OpR X (binaryOp .Mult) (fun x y H Q => ∃ (c n : Nat), x = .str ⟨#[c]⟩ ∧ y = .int n ∧ n ≤ 100000 ∧ Q (.str ⟨(List.replicate n c).toArray⟩) H) := by
  intro pins s σ H x y v u Q I rx ry h
  obtain ⟨c, n, rfl, rfl, hz, q⟩ := h
  obtain ⟨t, rfl⟩ := rx
  obtain ⟨t', rfl⟩ := ry
  have hl : (⟨#[c]⟩ : Str).length = 1 := rfl
  obtain ⟨m1, m2, m3⟩ := mulOk_of (x := ⟨#[c]⟩) (n := (n : Int)) 1 100000 (by rw [hl]; exact Nat.le_refl _) (by omega) (by omega) (by decide) (by decide)
  refine P.mul_str m1 m2 m3 ?_
  by_cases h1 : (n : Int) < 1
  · rw [if_pos h1]
    have e : n = 0 := by omega
    subst e
    exact ⟨by decide, ⟨.str Str.empty, H, I.tok _, ⟨_, rfl⟩, q⟩⟩
  · rw [if_neg h1]
    by_cases h2 : ((n : Int) == 1 || (⟨#[c]⟩ : Str).length == 0) = true
    · rw [if_pos h2]
      have e : n = 1 := by
        rw [hl] at h2
        simp at h2
        omega
      subst e
      exact ⟨.str ⟨#[c]⟩, H, I, ⟨_, rfl⟩, q⟩
    · rw [if_neg h2]
      have e : (⟨(List.replicate (n : Int).toNat (⟨#[c]⟩ : Str).cps).foldl (· ++ ·) #[]⟩ : Str) = ⟨(List.replicate n c).toArray⟩ := by
        have z := reps_one c n #[]
        rw [Int.toNat_natCast]
        show (⟨(List.replicate n #[c]).foldl (· ++ ·) #[]⟩ : Str) = _
        rw [z]
        simp
      rw [e]
      refine ⟨?_, ⟨.str ⟨(List.replicate n c).toArray⟩, H, I.tok _, ⟨_, rfl⟩, q⟩⟩
      show (⟨(List.replicate n c).toArray⟩ : Str).length ≤ sizeLine
      unfold Str.length
      simp
      exact Nat.le_trans hz (by decide)
end Zen

namespace Db
open PySem L2 Evl StX
/-! ### orders: false for l, true for r -/
def sgn (b : Bool) : Nat := if b then 114 else 108
def oS (o : List Bool) : Str := ⟨(o.map sgn).toArray⟩
theorem oS_l : ("l" : Str) = oS [false] := by decide +kernel
theorem oS_r : ("r" : Str) = oS [true] := by decide +kernel
theorem oS_nil : ("" : Str) = oS [] := by decide +kernel
theorem oS_app (a b : List Bool) : oS a ++ oS b = oS (a ++ b) := by
  show Str.append _ _ = _
  unfold Str.append oS
  simp
theorem oS_len (a : List Bool) : (oS a).length = a.length := by
  unfold oS Str.length
  simp
theorem oS_size (a : List Bool) : (oS a).cps.size = a.length := by
  unfold oS
  simp
theorem oS_at (a : List Bool) (i : Nat) : (oS a).cps[i]? = a[i]?.map sgn := by
  unfold oS
  simp
theorem oS_one (b : Bool) : (⟨#[sgn b]⟩ : Str) = oS [b] := rfl
theorem sgn_inj {a b : Bool} (h : sgn a = sgn b) : a = b := by
  revert h
  cases a <;> cases b <;> decide
theorem oS_inj {a b : List Bool} (h : oS a = oS b) : a = b := by
  unfold oS at h
  injection h with h
  injection h with h
  exact (List.map_inj_right fun _ _ => sgn_inj).mp h
theorem oS_is (a b : List Bool) : decide (V.str (oS a) = V.str (oS b)) = decide (a = b) :=
  decide_eq_decide.mpr ⟨fun h => oS_inj (V.str.inj h), fun h => by rw [h]⟩
theorem cnt_oS (a : List Bool) (b : Bool) : PyProof.Rows.cnt (sgn b) (a.map sgn) = (a.count b : Int) := by
  induction a with
  | nil => rfl
  | cons x r ih =>
    rw [List.map_cons, PyProof.Rows.cnt_cons, ih, List.count_cons]
    by_cases h : x = b
    · subst h
      simp
      omega
    · have h2 : ¬ sgn x = sgn b := fun z => h (sgn_inj z)
      simp [h, h2]
theorem oS_count (a : List Bool) (b : Bool) : Txt.count (oS a) (oS [b]) = (a.count b : Int) := by
  have h := PyProof.Rows.count_cnt (oS a) (sgn b)
  have e : (oS a).cps.toList = a.map sgn := by unfold oS; simp
  rw [e, cnt_oS] at h
  exact h
theorem oS_cut (a : List Bool) (k : Nat) : cutS (oS a) none (some (k : Int)) = oS (a.take k) := by
  unfold cutS
  have e : (oS a).cps.toList = a.map sgn := by unfold oS; simp
  have e1 : HT.sIx (oS a).length 0 none = 0 := HT.sIx_none _ _
  have e2 : HT.sIx (oS a).length (oS a).length (some (k : Int)) = min k (oS a).length := HT.sIx_nat _ _ _
  rw [e, e1, e2, oS_len, List.drop_zero, Nat.sub_zero]
  unfold oS
  rw [List.map_take, ← List.length_map (f := sgn) (as := a), ← List.take_eq_take_min]
theorem cnt_both : ∀ o : List Bool, o.count false + o.count true = o.length
  | [] => rfl
  | b :: o => by
    have h := cnt_both o
    cases b
    · rw [List.count_cons_self, List.count_cons_of_ne (by decide), List.length_cons]; omega
    · rw [List.count_cons_self, List.count_cons_of_ne (by decide), List.length_cons]; omega
/-- one deed is done -/
def oneB (S : Sts) (b : Bool) : Sts :=
  if b then { S with ws := wrl S.ws (S.r.headD .rs), r := S.r.tail, os := S.os ++ rdl S.ws (S.r.headD .rs) }
  else { S with ws := wrl S.ws (S.l.headD .rs), l := S.l.tail, ss := S.ss ++ rdl S.ws (S.l.headD .rs) }
/-- one by one in an order -/
def fol (o : List Bool) (S : Sts) : Sts := o.foldl oneB S
theorem fol_nil (S : Sts) : fol [] S = S := rfl
theorem fol_cons (b : Bool) (o : List Bool) (S : Sts) : fol (b :: o) S = fol o (oneB S b) := rfl
theorem fol_app (o u : List Bool) (S : Sts) : fol (o ++ u) S = fol u (fol o S) := List.foldl_append
theorem fol_take {o : List Bool} {k : Nat} {b : Bool} (h : o[k]? = some b) (S : Sts) : fol (o.take (k + 1)) S = oneB (fol (o.take k) S) b := by
  rw [List.take_add_one, h, fol_app]
  rfl
theorem fol_l : ∀ (o : List Bool) (S : Sts), (fol o S).l = S.l.drop (o.count false)
  | [], S => rfl
  | b :: o, S => by
    rw [fol_cons, fol_l o]
    cases b with
    | false =>
      show S.l.tail.drop _ = _
      rw [List.count_cons_self, ← List.drop_one, List.drop_drop, Nat.add_comm]
    | true =>
      show S.l.drop _ = _
      rw [List.count_cons_of_ne (by decide)]
theorem fol_r : ∀ (o : List Bool) (S : Sts), (fol o S).r = S.r.drop (o.count true)
  | [], S => rfl
  | b :: o, S => by
    rw [fol_cons, fol_r o]
    cases b with
    | true =>
      show S.r.tail.drop _ = _
      rw [List.count_cons_self, ← List.drop_one, List.drop_drop, Nat.add_comm]
    | false =>
      show S.r.drop _ = _
      rw [List.count_cons_of_ne (by decide)]
/-- what stays through deeds one by one -/
structure Fit1 (c m : Nat) (S : Sts) : Prop where
  len : S.ws.length = c
  small : ∀ x ∈ S.ws, x < 3
  okl : ∀ d ∈ S.l, d.ok c
  okr : ∀ d ∈ S.r, d.ok c
  ss : S.ss.length ≤ m
  os : S.os.length ≤ m
theorem Fit1.one {c m : Nat} {S : Sts} {b : Bool} (F : Fit1 c m S) : Fit1 c (m + 1) (oneB S b) := by
  have h1 := F.ss
  have h2 := F.os
  cases b with
  | false =>
    refine ⟨(wrl_length _ _).trans F.len, wrl_small F.small (ok_headD F.okl), fun d hd => F.okl d (mem_tail hd), F.okr, ?_, by show S.os.length ≤ m + 1; omega⟩
    show (S.ss ++ _).length ≤ m + 1
    have := rdl_length S.ws (S.l.headD .rs)
    rw [List.length_append]; omega
  | true =>
    refine ⟨(wrl_length _ _).trans F.len, wrl_small F.small (ok_headD F.okr), F.okl, fun d hd => F.okr d (mem_tail hd), by show S.ss.length ≤ m + 1; omega, ?_⟩
    show (S.os ++ _).length ≤ m + 1
    have := rdl_length S.ws (S.r.headD .rs)
    rw [List.length_append]; omega
theorem Fit1.begin0 {c : Nat} {ws : List Nat} {l r : List Deed} (h1 : ws.length = c) (h2 : ∀ x ∈ ws, x < 3) (h3 : ∀ d ∈ l, d.ok c) (h4 : ∀ d ∈ r, d.ok c) : Fit1 c 0 (begin0 ws l r) := ⟨h1, h2, h3, h4, Nat.le_refl _, Nat.le_refl _⟩
theorem Fit1.fol {c : Nat} : ∀ (o : List Bool) (m : Nat) (S : Sts), Fit1 c m S → Fit1 c (m + o.length) (Db.fol o S)
  | [], _, _, F => F
  | b :: o, m, S, F => by
    have h := Fit1.fol o _ _ (F.one (b := b))
    rw [fol_cons, List.length_cons, show m + (o.length + 1) = m + 1 + o.length by omega]
    exact h
/-- what ordered tells: three tuples -/
def Told3 (K : PySem.W.Frag) (H : Hp) (v : V) (S : Sts) : Prop := ∃ t s o m : Addr, v = .ref t ∧ SqT K H t [.ref s, .ref o, .ref m] ∧ SqT K H s (S.ss.map wV) ∧ SqT K H o (S.os.map wV) ∧ SqT K H m (S.ws.map wV)
theorem Told3.mono {K : PySem.W.Frag} {H H' : Hp} {v : V} {S : Sts} (e : Ex H H') (h : Told3 K H v S) : Told3 K H' v S := by
  obtain ⟨t, s, o, m, h1, h2, h3, h4, h5⟩ := h
  exact ⟨t, s, o, m, h1, ex_t e h2, ex_t e h3, ex_t e h4, ex_t e h5⟩
def datQ (S : Sts) : PyData := .tuple [.tuple (wD S.ss), .tuple (wD S.os), .tuple (wD S.ws)]
theorem Told3.dp {K : PySem.W.Frag} {H : Hp} {v : V} {S : Sts} (h : Told3 K H v S) : Dp K H v (datQ S) := by
  obtain ⟨t, s, o, m, rfl, h2, h3, h4, h5⟩ := h
  exact .tup h2 (.cons (.tup h3 (dpa_w _)) (.cons (.tup h4 (dpa_w _)) (.cons (.tup h5 (dpa_w _)) .nil)))
theorem eqv_q (S U : Sts) : PyData.eqv (datQ S) (datQ U) = decide (t3 S = t3 U) := by
  have e : decide (t3 S = t3 U) = same3 S U := by
    rw [Bool.eq_iff_iff, decide_eq_true_iff, same3_iff]
  rw [e]
  unfold datQ same3
  simp only [PyData.eqv, PyData.eqvAll, eqvA_w, Bool.and_true]
theorem sh_q (S : Sts) : Sh 2 (datQ S) := sh_tup fun d hd => by
  simp only [List.mem_cons, List.not_mem_nil, or_false] at hd
  rcases hd with rfl | rfl | rfl <;> exact sh_wT _
theorem nice_q {c m : Nat} {S : Sts} (F : Fit1 c m S) (hc : c ≤ 4) (hm : m ≤ 1000) : Nice 2 (datQ S) := by
  have h1 := F.ss
  have h2 := F.os
  have h3 := F.len
  refine .tup (by simp) fun d hd => ?_
  simp only [List.mem_cons, List.not_mem_nil, or_false] at hd
  rcases hd with rfl | rfl | rfl <;> exact nice_wT (by omega)
/-! one program behind the other, by the rule new -/
theorem fol_left : ∀ (ds es : List Deed) (ws ss os : List Nat) (n m : Nat), t3 (out .new ⟨ws, ds, List.replicate ds.length .rs ++ es, ss, os, n⟩) = t3 (fol (List.replicate ds.length false ++ List.replicate es.length true) ⟨ws, ds, es, ss, os, m⟩)
  | [], [], ws, ss, os, n, m => by
    show t3 (out .new ⟨ws, [], [], ss, os, n⟩) = _
    rw [out_done ⟨rfl, rfl⟩]
    rfl
  | [], e :: es, ws, ss, os, n, m => by
    have nd : ¬ (Sts.mk ws [] (e :: es) ss os n).done := fun z => nomatch z.2
    have h := fol_left [] es (wrl ws e) ss (os ++ rdl ws e) (n + 1) m
    show t3 (out .new ⟨ws, [], e :: es, ss, os, n⟩) = _
    rw [← out_one nd]
    have w : waits .new (Sts.mk ws [] (e :: es) ss os n) = false := rfl
    have e1 : one .new (Sts.mk ws [] (e :: es) ss os n) = ⟨wrl ws e, [], es, ss, os ++ rdl ws e, n + 1⟩ := by
      unfold one
      rw [w]
      show after _ (beat .new ws .rs e) false = _
      have e2 : beat .new ws .rs e = (wrl ws e, [], rdl (wrl ws e) e) := rfl
      rw [e2, rdl_wrl]
      simp [after]
    rw [e1]
    exact h
  | d :: ds, es, ws, ss, os, n, m => by
    have nd : ¬ (Sts.mk ws (d :: ds) (.rs :: (List.replicate ds.length .rs ++ es)) ss os n).done := fun z => nomatch z.1
    have h := fol_left ds es (wrl ws d) (ss ++ rdl ws d) os (n + 1) m
    show t3 (out .new ⟨ws, d :: ds, .rs :: (List.replicate ds.length .rs ++ es), ss, os, n⟩) = _
    rw [← out_one nd]
    have w : waits .new (Sts.mk ws (d :: ds) (.rs :: (List.replicate ds.length .rs ++ es)) ss os n) = false := rfl
    have e1 : one .new (Sts.mk ws (d :: ds) (.rs :: (List.replicate ds.length .rs ++ es)) ss os n) = ⟨wrl ws d, ds, List.replicate ds.length .rs ++ es, ss ++ rdl ws d, os, n + 1⟩ := by
      unfold one
      rw [w]
      show after _ (beat .new ws d .rs) false = _
      have e2 : beat .new ws d .rs = (wrl ws d, rdl (wrl ws d) d, []) := rfl
      rw [e2, rdl_wrl]
      simp [after]
    rw [e1]
    exact h
theorem oS_rep (b : Bool) (n : Nat) : (⟨(List.replicate n (sgn b)).toArray⟩ : Str) = oS (List.replicate n b) := by
  unfold oS
  rw [List.map_replicate]
theorem rv_mulS {H : Hp} {b : Bool} {n : Nat} (h : n ≤ 100000) : RV (fun x y H Q => ∃ (c n : Nat), x = V.str ⟨#[c]⟩ ∧ y = V.int n ∧ n ≤ 100000 ∧ Q (.str ⟨(List.replicate n c).toArray⟩) H) (.str (oS [b])) (.int n) H (.str (oS (List.replicate n b))) := fun H1 _ Q q =>
  ⟨sgn b, n, rfl, rfl, h, by rw [oS_rep]; exact q H1 (Ex.refl H1)⟩
/-- the written signs of the orders' file -/
structure TxO (mg : Str → Option Value) (t1 t2 : Tok) : Prop where
  g_LEFT : mg "LEFT" = some (.str "l" t1)
  g_RIGHT : mg "RIGHT" = some (.str "r" t2)
theorem txo_mk {K : PySem.W.Frag} {h : Heap} {mg : Str → Option Value} {t1 t2 : Tok} (X : K.In h) (G : h.Ns mainGlobals mg) (a1 : PySem.W.nsIn K mainGlobals "LEFT" = some (some (.str "l" t1))) (a2 : PySem.W.nsIn K mainGlobals "RIGHT" = some (some (.str "r" t2))) : TxO mg t1 t2 :=
  ⟨PySem.W.mg_of X G a1, PySem.W.mg_of X G a2⟩
section
variable {K : PySem.W.Frag} {σ : L2.St} {H : Hp} {to te : TE}
theorem ev_countO {o : List Bool} {b : Bool} {n : Nat} (h1 : Ev to σ H (.str (oS o))) (h2 : Ev te σ H (.str (oS [b]))) (h : o.count b = n) :
    Ev (tM1 (fun x xs H Q => ∃ a b, x = .str a ∧ xs = [.str b] ∧ Q (.int (Txt.count a b)) H) to te) σ H (.int n) :=
  ev_m1 h1 h2 fun H1 _ Q q => ⟨_, _, rfl, rfl, by rw [oS_count, h]; exact q H1 (Ex.refl H1)⟩
theorem rc_lenO {o : List Bool} (h : o.length ≤ 100000) : RC (fun xs H Q => ∃ x n, xs = [x] ∧ LenV K x H n ∧ Q (.int n) H) [.str (oS o)] H (.int o.length) := fun H1 _ Q q => ⟨_, o.length, rfl, ⟨sz_of (by rw [oS_len]; exact h), (oS_len o).symm⟩, q H1 (Ex.refl H1)⟩
end
section
variable {K : PySem.W.Frag} {σ : L2.St} {H : Hp} {ta te tb : TE}
/-- a cell of a new tuple -/
theorem ev_ixNewT {xs : List V} {v : V} {i : Int} (h : EvU te σ H xs) (hb : Ev tb σ H (.int i)) (ha : atI xs i = some v) : Ev (tOp (rIxT K) te tb) σ H v := fun H1 e Q q => h H1 e _ fun p H2 hp e2 hx => hb H2 (e.trans e2) _ fun H3 e3 => ⟨p, _, i, _, rfl, rfl, SqT.of (e3 _ _ hx), ha, q H3 (e2.trans e3)⟩
theorem ev_slO {tl th : TO} {o : List Bool} {k : Nat} (h : Ev te σ H (.str (oS o))) (h1 : EvO tl σ H none) (h2 : EvO th σ H (some (k : Int))) (hz : o.length ≤ 100000) : Ev (tSl rSlS te tl th) σ H (.str (oS (o.take k))) := fun H1 e Q q =>
  h H1 e _ fun H2 e2 => h1 H2 (e.trans e2) _ fun H3 e3 => h2 H3 ((e.trans e2).trans e3) _ fun H4 e4 => ⟨_, rfl, sz_of (by rw [oS_len]; exact hz), by rw [oS_cut]; exact q H4 ((e2.trans e3).trans e4)⟩
theorem rv_ixO {o : List Bool} {i : Nat} {b : Bool} (h : o.length ≤ 100000) (ha : o[i]? = some b) : RV rIxS (.str (oS o)) (.int i) H (.str (oS [b])) :=
  rv_ixS (by rw [oS_len]; exact h) (atI_nat (by unfold oS; rw [List.toList_toArray, List.getElem?_map, ha]; rfl))
theorem rc_intB {b : Bool} : RC (fun xs H Q => (∃ i, xs = [V.int i] ∧ Q (.int i) H) ∨ ∃ k, xs = [V.bl k] ∧ Q (.int (if k then 1 else 0)) H) [.bl b] H (.int (if b then 1 else 0)) := fun H1 _ _ q => .inr ⟨b, rfl, q H1 (Ex.refl H1)⟩
end
section
variable {K : PySem.W.Frag} {σ : L2.St} {H : Hp} {ta te tb tw : TE} {D : Ends} {tz : TS}
/-- if the deed in a slot is a read, what stands is put behind a list -/
theorem q_ro {i : Nat} {w rr : Addr} {x : V} {d : Deed} {ws rs : List Nat} (hx : σ[i]? = some (some x)) (dv : DV K H x d) (hw : H w = some (.lst (ws.map wV))) (hr : H rr = some (.lst (rs.map wV))) (nwr : w ≠ rr) (ho : d.ok ws.length) (hz : rs.length ≤ 1000)
    (ht : ∀ H1, Ex H H1 → Ev te σ H1 (.ref rr)) (hwv : ∀ H1, Ex H H1 → Ev tw σ H1 (.ref w)) (k : ∀ H', Bt [rr] H H' → H' w = some (.lst (ws.map wV)) → H' rr = some (.lst ((rs ++ rdl ws d).map wV)) → tz D σ H') :
    tSeq (tIfS (tTest (tOp rEq (tOp (rIxT K) (tVar i) (tC (.int 0))) (tC (.str "read")))) (tDrop (tBM K "list" rAppend te (tCons (tOp (rIxL K) tw (tOp (rIxT K) (tVar i) (tC (.int 1)))) tNil))) tNext) tz D σ H := by
  obtain ⟨a, rfl, h1⟩ := dv
  refine q_when (b := decide (V.str d.tag = V.str "read")) (et_test (ev_op (ev_op (ev_var hx) ev_c (DV.tag h1)) ev_c (rv_eq rfl))) (fun hb H1 f1 => ?_) (fun hb H1 f1 => ?_)
  · cases d with
    | wr c x => exact absurd hb (by show ¬ decide (V.str "write" = V.str "read") = true; decide +kernel)
    | rs => exact absurd hb (by show ¬ decide (V.str "rest" = V.str "read") = true; decide +kernel)
    | rd c =>
      have g1 := ex_t f1 h1
      have gw := f1 _ _ hw
      have gs := f1 _ _ hr
      have hc : c < ws.length := ho
      have hxx : (ws.map wV)[c]? = some (wV (ws.getD c 0)) := by rw [List.getElem?_map, List.getD_eq_getElem?_getD, List.getElem?_eq_getElem hc]; rfl
      refine s_app (l := rr) (v := wV (ws.getD c 0)) gs (ht H1 f1) (ev_op (hwv H1 f1) (ev_op (ev_var hx) ev_c (rv_ixT g1 rfl)) (rv_ixL (SqL.of gw) (atI_nat hxx))) (by rw [List.length_map]; omega) fun H2 f2 => ?_
      refine k _ ((Bt.of_ex (f1.trans f2)).upd (.inl (by simp))) ?_ ?_
      · rw [upd_ne nwr]; exact f2 _ _ gw
      · rw [upd_same, List.map_append]
        rfl
  · refine k _ (Bt.of_ex f1) (f1 _ _ hw) ?_
    cases d with
    | rd c => exact absurd hb (by show ¬ decide (V.str "read" = V.str "read") = false; decide +kernel)
    | wr c x => show H1 rr = some (.lst ((rs ++ []).map wV)); rw [List.append_nil]; exact f1 _ _ hr
    | rs => show H1 rr = some (.lst ((rs ++ []).map wV)); rw [List.append_nil]; exact f1 _ _ hr
end
section
variable {K : PySem.W.Frag} {σ : L2.St} {H : Hp} {ta te tb tw : TE} {D : Ends} {tz : TS}
end
/-- signs, each a text -/
def sV (b : Bool) : V := .str (oS [b])
def sD (o : List Bool) : List PyData := o.map fun b => .str (oS [b])
theorem sD_dp {K : PySem.W.Frag} {H : Hp} : ∀ o : List Bool, DpAll K H (o.map sV) (sD o)
  | [] => .nil
  | b :: r => .cons (.str _) (sD_dp r)
theorem sh_sD (o : List Bool) : Sh 1 (.list (sD o)) := sh_lst fun d hd => by
  obtain ⟨b, _, rfl⟩ := List.mem_map.mp hd
  refine sh_str ?_
  cases b <;> decide +kernel
theorem eqv_sD (o : List Bool) : PyData.eqv (.list (sD o)) (.list []) = decide (o = []) := by
  cases o with
  | nil => simp [sD, PyData.eqv, PyData.eqvAll]
  | cons d r => simp [sD, PyData.eqv, PyData.eqvAll]
theorem reps_flat {α : Type} (x : α) (n : Nat) : (List.replicate n [x]).flatten = List.replicate n x := by
  induction n with
  | zero => rfl
  | succ n ih => rw [List.replicate_succ, List.flatten_cons, ih, List.replicate_succ]; rfl
theorem count_rep (a b : Bool) (n : Nat) : (List.replicate n a).count b = if a = b then n else 0 := by
  rw [List.count_replicate]
  cases a <;> cases b <;> rfl
theorem count_erase {o : List Bool} {i : Nat} {b : Bool} (h : o[i]? = some b) (c : Bool) : (o.eraseIdx i).count c + [b].count c = o.count c := by
  obtain ⟨hi, rfl⟩ := List.getElem?_eq_some_iff.mp h
  rw [List.eraseIdx_eq_take_drop_succ, List.count_append]
  conv => rhs; rw [← List.take_append_drop i o, List.count_append, List.drop_eq_getElem_cons hi]
  rw [List.count_cons (l := o.drop (i + 1)), List.count_singleton]
  omega
theorem PV.rests {K : PySem.W.Frag} {H : Hp} {a : Addr} (h : SqT K H a Deed.rs.vals) : ∀ n : Nat, PV K H (List.replicate n (.ref a)) (List.replicate n .rs)
  | 0 => .nil
  | n + 1 => .cons ⟨a, rfl, h⟩ (PV.rests h n)
theorem map_erase {α β : Type} (f : α → β) : ∀ (l : List α) (i : Nat), (l.map f).eraseIdx i = (l.eraseIdx i).map f
  | [], i => by simp
  | a :: r, 0 => rfl
  | a :: r, i + 1 => by
    have h := map_erase f r i
    simpa using h
end Db

/-! tables of sets of up to a thousand things: masks up to 2047 -/
namespace NS
open PySem PySem.Spec PyProof.Rows L2
def seqL (m : Nat) : Nat → Nat → List Nat
  | 0, _ => []
  | n + 1, x => x :: seqL m n ((x * 5 + 1) % (m + 1))
def bitsOf : List Nat → Nat
  | [] => 0
  | x :: r => 2 ^ x ||| bitsOf r
theorem mem_bits : ∀ {l : List Nat} {j : Nat}, (bitsOf l).testBit j = true → j ∈ l
  | [], j, h => by simp [bitsOf] at h
  | x :: r, j, h => by
    rw [bitsOf, Nat.testBit_or, Bool.or_eq_true, Nat.testBit_two_pow] at h
    rcases h with h | h
    · rw [← of_decide_eq_true h]; simp
    · exact List.mem_cons_of_mem _ (mem_bits h)
theorem mem_seq {m : Nat} : ∀ {n a x : Nat}, x ∈ seqL m n (lcgN m a) → ∃ b, b < a + n ∧ lcgN m b = x
  | n + 1, a, x, h => by
    rcases List.mem_cons.mp h with rfl | h
    · exact ⟨a, by omega, rfl⟩
    · obtain ⟨b, h1, h2⟩ := mem_seq (n := n) (a := a + 1) h
      exact ⟨b, by omega, h2⟩
/-- a mask by which a search comes everywhere -/
structure Rd (m : Nat) : Prop where
  all : ∀ j, j ≤ m → ∃ b, b ≤ m ∧ lcgN m b = j
  rnd : lcgN m (m + 1) = 0
  odd : m % 2 = 1
  big : m ≤ 2047
theorem rd_of {m : Nat} (h1 : bitsOf (seqL m (m + 1) 0) = 2 ^ (m + 1) - 1) (h2 : lcgN m (m + 1) = 0) (h3 : m % 2 = 1) (h4 : m ≤ 2047) : Rd m := by
  refine ⟨fun j hj => ?_, h2, h3, h4⟩
  have hb : (bitsOf (seqL m (m + 1) 0)).testBit j = true := by
    rw [h1, Nat.testBit_two_pow_sub_one]
    exact decide_eq_true (by omega)
  obtain ⟨b, hb1, hb2⟩ := mem_seq (a := 0) (mem_bits hb)
  exact ⟨b, by omega, hb2⟩
theorem rd7 : Rd 7 := rd_of (by decide +kernel) (by decide +kernel) rfl (by decide)
theorem rd31 : Rd 31 := rd_of (by decide +kernel) (by decide +kernel) rfl (by decide)
theorem rd127 : Rd 127 := rd_of (by decide +kernel) (by decide +kernel) rfl (by decide)
theorem rd511 : Rd 511 := rd_of (by decide +kernel) (by decide +kernel) rfl (by decide)
theorem rd2047 : Rd 2047 := rd_of (by decide +kernel) (by decide +kernel) rfl (by decide)
theorem Rd.again {m : Nat} (r : Rd m) (k : Nat) : lcgN m (m + 1 + k) = lcgN m k := by
  have h := lcgN_add m (m + 1) k
  rw [r.rnd] at h
  have h0 := lcgN_add m 0 k
  rw [Nat.zero_add] at h0
  exact h.symm.trans h0
theorem Rd.from {m i j : Nat} (r : Rd m) (hi : i ≤ m) (hj : j ≤ m) : ∃ k, k ≤ m ∧ lcgI m i k = j := by
  obtain ⟨p, hp, rfl⟩ := r.all i hi
  obtain ⟨q, hq, rfl⟩ := r.all j hj
  by_cases c : p ≤ q
  · exact ⟨q - p, by omega, by rw [lcgN_add]; congr 1; omega⟩
  · refine ⟨m + 1 + q - p, by omega, ?_⟩
    rw [lcgN_add, ← r.again q]
    congr 1
    omega
theorem Rd.run {m j : Nat} (r : Rd m) (h : Int) (hj : j ≤ m) : ∃ n, n ≤ 12 + m ∧ runI m (SetTable.bits h) n = j := by
  obtain ⟨k, hk, e⟩ := r.from (runI_le m (SetTable.bits h) 12) hj
  refine ⟨12 + k, by omega, ?_⟩
  rw [runI_tail (bits_lt h) k, e]
theorem Rd.meets {m j : Nat} (r : Rd m) (h : Int) (hj : j ≤ m) : ∃ k, k < 10 * SetTable.turns m ∧ way m h k = j := by
  obtain ⟨n, hn, e⟩ := r.run h hj
  obtain ⟨k, hk, e2⟩ := run_nth m (SetTable.bits h) n
  refine ⟨k, ?_, ?_⟩
  · unfold SetTable.turns
    omega
  · show (nth m (runAt m (SetTable.bits h % (m + 1)) (SetTable.bits h)) k).j = j
    rw [e2, ← e]
    rfl
theorem way_in (m : Nat) (h : Int) (k : Nat) : way m h k ≤ m := by
  have h0 : SetTable.bits h % (m + 1) < m + 1 := Nat.mod_lt _ (Nat.succ_pos m)
  have h1 := runEnd_bd (Nat.le_of_lt_succ h0)
  have h2 := nth_in (m := m) k (runAt m (SetTable.bits h % (m + 1)) (SetTable.bits h)) (by unfold runAt; dsimp only; omega)
  exact Nat.le_trans (Nat.le_add_right _ _) h2
/-- a table where all is found again -/
structure Tb (t : SetTable) (hs : List Int) : Prop where
  up : Ris t.place.toList
  no : t.dummies = #[]
  sz : t.place.size = hs.length
  rd : Rd t.mask
  le : ∀ x ∈ t.place.toList, x ≤ t.mask
  hit : ∀ (i : Nat) (h : Int) (j : Nat), hs[i]? = some h → t.place.toList[i]? = some j → ∃ k, way t.mask h k = j ∧ ∀ l, l < k → way t.mask h l ∈ t.place.toList
theorem Tb.len {t : SetTable} {hs : List Int} (T : Tb t hs) : t.place.toList.length = hs.length := T.sz
theorem Tb.free {t : SetTable} {hs : List Int} (T : Tb t hs) (hl : hs.length ≤ t.mask) (h : Int) : ∃ n, n < 10 * SetTable.turns t.mask ∧ way t.mask h n ∉ t.place.toList ∧ ∀ l, l < n → way t.mask h l ∈ t.place.toList := by
  obtain ⟨j, hj, hn⟩ := st_missing t.place.toList (t.mask + 1) (by rw [T.len]; omega)
  obtain ⟨k, hk, e⟩ := T.rd.meets h (Nat.le_of_lt_succ hj)
  obtain ⟨n, n1, n2, n3⟩ := st_least (p := fun k => way t.mask h k ∉ t.place.toList) k (by rw [e]; exact hn)
  exact ⟨n, by omega, n2, fun l hl => Decidable.not_not.mp (n3 l hl)⟩
theorem Tb.ahead {t : SetTable} {hs : List Int} (T : Tb t hs) {h : Int} {n i j : Nat} (hn : way t.mask h n ∉ t.place.toList) (hi : hs[i]? = some h) (hj : t.place.toList[i]? = some j) : ∃ k, k < n ∧ way t.mask h k = j := by
  obtain ⟨k, e, all⟩ := T.hit i h j hi hj
  refine ⟨k, ?_, e⟩
  have ne : k ≠ n := by
    rintro rfl
    exact hn (by rw [e]; exact List.mem_of_getElem? hj)
  have nl : ¬ n < k := fun z => hn (all n z)
  omega
/-- one more -/
structure Put (t : SetTable) (hs : List Int) (h : Int) (j p : Nat) : Prop where
  at_ : (t.put j).2 = p
  le : p ≤ hs.length
  tb : Tb (t.put j).1 (hs.take p ++ h :: hs.drop p)
  mask : (t.put j).1.mask = t.mask
  led : (t.put j).1.led = t.led
  plain : (t.put j).1.plain = t.plain
  fill : (t.put j).1.fill = hs.length + 1
theorem Tb.put {t : SetTable} {hs : List Int} (T : Tb t hs) {h : Int} {n : Nat} (hn : way t.mask h n ∉ t.place.toList) (hb : ∀ l, l < n → way t.mask h l ∈ t.place.toList) :
    Put t hs h (way t.mask h n) (SetTable.below t.place (way t.mask h n)) := by
  have jm := way_in t.mask h n
  generalize hj : way t.mask h n = j at hn jm
  have hc := (below_cut T.up j).1
  have h1 : SetTable.below t.place j ≤ t.place.toList.length := hc
  have h2 : SetTable.below t.place j ≤ hs.length := by rw [← T.len]; exact h1
  have pl := put_place t j
  have psz : (t.put j).1.place.size = hs.length + 1 := by
    have z := congrArg List.length pl
    rw [len_ins _ h1, T.len] at z
    exact z
  have more : ∀ x, x ∈ t.place.toList → x ∈ (t.put j).1.place.toList := fun x hx => by
    rw [pl]; exact mem_ins.mpr (Or.inr hx)
  have nj : t.place[SetTable.below t.place j]? ≠ some j := fun e => hn (List.mem_of_getElem? (by rw [Array.getElem?_toList]; exact e))
  have nd := put_dm T.no j
  refine ⟨rfl, h2, ⟨ris_insert T.up nj, nd, by rw [len_ins _ h2]; exact psz, T.rd, ?_, ?_⟩, rfl, rfl, rfl, ?_⟩
  · intro x hx
    rw [pl] at hx
    rcases mem_ins.mp hx with rfl | hx
    · exact jm
    · exact T.le x hx
  · intro i h' j' a1 a2
    rw [tins_get hs h2] at a1
    rw [pl, tins_get t.place.toList h1] at a2
    have old : ∀ i', hs[i']? = some h' → t.place.toList[i']? = some j' → ∃ k, way t.mask h' k = j' ∧ ∀ l, l < k → way t.mask h' l ∈ (t.put j).1.place.toList := fun i' z1 z2 => by
      obtain ⟨k, e, all⟩ := T.hit i' h' j' z1 z2
      exact ⟨k, e, fun l hl => more _ (all l hl)⟩
    show ∃ k, way t.mask h' k = j' ∧ ∀ l, l < k → way t.mask h' l ∈ (t.put j).1.place.toList
    split at a1
    · rename_i c
      rw [if_pos c] at a2
      exact old i a1 a2
    · rename_i c
      rw [if_neg c] at a2
      split at a1
      · rename_i d
        rw [if_pos d] at a2
        cases a1
        cases a2
        exact ⟨n, hj, fun l hl => more _ (hb l hl)⟩
      · rename_i d
        rw [if_neg d] at a2
        exact old (i - 1) a1 a2
  · unfold SetTable.fill
    rw [psz, nd]
    rfl
/-! laid anew -/
theorem Rd.find {m j : Nat} (r : Rd m) (owner : Array (Option Nat)) (h : Int) (hj : j ≤ m) (hf : oAt owner j = none) :
    ∃ n, SetTable.layClean.free m owner (SetTable.turns m) (SetTable.bits h % (m + 1)) (SetTable.bits h) = some (way m h n) ∧ oAt owner (way m h n) = none ∧ ∀ l, l < n → oAt owner (way m h l) ≠ none := by
  obtain ⟨q, hq, e⟩ := r.run h hj
  have there : way m h (off m (SetTable.bits h % (m + 1)) (SetTable.bits h) q) = j := by
    have z := nth_off m q (SetTable.bits h % (m + 1)) (SetTable.bits h)
    rw [itL_run] at z
    exact (congrArg SetTable.Probe.j z).trans e
  obtain ⟨n, n1, n2, n3⟩ := st_least (p := fun k => oAt owner (way m h k) = none) (off m (SetTable.bits h % (m + 1)) (SetTable.bits h) q) (by rw [there]; exact hf)
  have turns : q < SetTable.turns m := by unfold SetTable.turns; omega
  refine ⟨n, free_spec m owner (SetTable.turns m) q _ _ n turns n1 (fun l hl => ?_) ?_, n2, n3⟩
  · have z := n3 l hl
    show (oAt owner (way m h l)).isNone = false
    cases c : oAt owner (way m h l) with
    | none => exact absurd c z
    | some _ => rfl
  · show (oAt owner (way m h n)).isNone = true
    rw [show oAt owner (way m h n) = none from n2]
    rfl
theorem own_more {m : Nat} (r : Rd m) {done : List Int} {owner : Array (Option Nat)} (O : Own m done owner) (hl : done.length ≤ m) (h : Int) :
    ∃ j, SetTable.layClean.free m owner (SetTable.turns m) (SetTable.bits h % (m + 1)) (SetTable.bits h) = some j ∧ Own m (done ++ [h]) (owner.setIfInBounds j (some done.length)) := by
  obtain ⟨ps, p1, p2⟩ := O.ps
  obtain ⟨j0, j1, j2⟩ := st_missing ps (m + 1) (by omega)
  have f0 : oAt owner j0 = none := by
    by_cases c : oAt owner j0 = none
    · exact c
    · exact absurd (p2 j0 (by omega) c) j2
  obtain ⟨n, e1, e2, e3⟩ := r.find owner h (Nat.le_of_lt_succ j1) f0
  have wm := way_in m h n
  generalize hw : way m h n = j at e1 e2 wm
  have jin : j < owner.size := by rw [O.sz]; omega
  have self := oAt_set_self (some done.length) jin
  have keep : ∀ i, oAt owner i ≠ none → oAt (owner.setIfInBounds j (some done.length)) i ≠ none := fun i hi => by
    by_cases c : i = j
    · subst c
      rw [self]
      exact fun z => nomatch z
    · rwa [oAt_set_ne _ c]
  have len1 : (done ++ [h]).length = done.length + 1 := by simp
  refine ⟨j, e1, ⟨by rw [Array.size_setIfInBounds, O.sz], ?_, ?_, j :: ps, by rw [len1, List.length_cons, p1], ?_⟩⟩
  · intro i k hi hk
    by_cases c : i = j
    · subst c
      rw [self] at hk
      cases hk
      exact ⟨h, n, by simp, hw, fun l hl => keep _ (e3 l hl)⟩
    · rw [oAt_set_ne _ c] at hk
      obtain ⟨h', n', b1, b2, b3⟩ := O.at_ i k hi hk
      exact ⟨h', n', by rw [List.getElem?_append_left (List.getElem?_eq_some_iff.mp b1).1]; exact b1, b2, fun l hl => keep _ (b3 l hl)⟩
  · intro k hk
    rw [len1] at hk
    by_cases c : k = done.length
    · exact ⟨j, wm, by rw [c]; exact self⟩
    · obtain ⟨i, i1, i2⟩ := O.all k (by omega)
      refine ⟨i, i1, ?_⟩
      have ne : i ≠ j := by
        rintro rfl
        rw [e2] at i2
        cases i2
      rw [oAt_set_ne _ ne]
      exact i2
  · intro i hi hk
    by_cases c : i = j
    · rw [c]; simp
    · rw [oAt_set_ne _ c] at hk
      exact List.mem_cons_of_mem _ (p2 i hi hk)
theorem own_all {m : Nat} (r : Rd m) : ∀ (rest done : List Int) (owner : Array (Option Nat)), Own m done owner → done.length + rest.length ≤ m →
    ∃ o', rest.foldl (stepF m) (some (owner, done.length)) = some (o', done.length + rest.length) ∧ Own m (done ++ rest) o'
  | [], done, owner, O, _ => ⟨owner, rfl, by rwa [List.append_nil]⟩
  | h :: rest, done, owner, O, hl => by
    have hl' : done.length + (rest.length + 1) ≤ m := hl
    obtain ⟨j, e, O1⟩ := own_more r O (by omega) h
    obtain ⟨o', e2, O2⟩ := own_all r rest (done ++ [h]) _ O1 (by rw [List.length_append]; show done.length + 1 + rest.length ≤ m; omega)
    refine ⟨o', ?_, by rw [List.append_assoc] at O2; exact O2⟩
    rw [List.foldl_cons, stepF_some e]
    rw [List.length_append] at e2
    show _ = some (o', done.length + (rest.length + 1))
    have e3 : done.length + (rest.length + 1) = done.length + [h].length + rest.length := by show _ = done.length + 1 + rest.length; omega
    rw [e3]
    exact e2
theorem lay_all {m : Nat} (r : Rd m) (hs : Array Int) (hn : hs.size ≤ m) : ∃ owner, SetTable.layClean m hs = some owner ∧ Own m hs.toList owner := by
  obtain ⟨o', e, O⟩ := own_all r hs.toList [] _ (Own.init m) (by show 0 + hs.size ≤ m; omega)
  refine ⟨o', ?_, O⟩
  rw [layClean_eq, show (some (Array.replicate (m + 1) (none : Option Nat), 0)) = some (Array.replicate (m + 1) (none : Option Nat), ([] : List Int).length) from rfl, e]
  rfl
structure Laid (t t' : SetTable) (hs : Array Int) (m : Nat) (order : Array Nat) : Prop where
  perm : order.toList.Perm (List.range hs.size)
  tb : Tb t' (order.toList.map fun i => hs.getD i 0)
  mask : t'.mask = m
  led : t'.led = t.led
  plain : t'.plain = t.plain
theorem laid_anew (t : SetTable) {hs : Array Int} {wanted m : Nat} (hw : SetTable.sizeAbove wanted - 1 = m) (r : Rd m) (hn : hs.size ≤ m) : ∃ t' order, t.relaid hs wanted = some (t', order) ∧ Laid t t' hs m order := by
  obtain ⟨owner, e, O⟩ := lay_all r hs hn
  have rr : t.relaid hs wanted = some (tabOf t m owner, ((liveOf m owner).map (·.2)).toArray) := by
    rw [relaid_eq, hw, e]
    rfl
  obtain ⟨r1, r2⟩ := ris_live (fun j => owner.getD j none) (List.range (m + 1)) (by unfold Ris; exact List.pairwise_lt_range)
  change Ris ((liveOf m owner).map (·.1)) at r1
  change ∀ x ∈ (liveOf m owner).map (·.1), x ∈ List.range (m + 1) at r2
  have nd : ((liveOf m owner).map (·.1)).Nodup := r1.imp fun h => Nat.ne_of_lt h
  have inl : ∀ j k, (j, k) ∈ liveOf m owner ↔ j ≤ m ∧ oAt owner j = some k := fun j k => mem_live O.sz
  have ll : (liveOf m owner).length = hs.size := by
    obtain ⟨ps, p1, p2⟩ := O.ps
    have a := nat_nodup_len _ ps nd fun x hx => by
      obtain ⟨⟨y, k⟩, hq, rfl⟩ := List.mem_map.mp hx
      obtain ⟨b1, b2⟩ := (inl y k).mp hq
      exact p2 y b1 (by rw [b2]; exact fun z => nomatch z)
    have b := nat_nodup_len (List.range hs.size) ((liveOf m owner).map (·.2)) List.nodup_range fun k hk => by
      obtain ⟨j, b1, b2⟩ := O.all k (List.mem_range.mp hk)
      exact List.mem_map.mpr ⟨(j, k), (inl j k).mpr ⟨b1, b2⟩, rfl⟩
    have p1' : ps.length = hs.size := p1
    rw [List.length_map, p1'] at a
    rw [List.length_map, List.length_range] at b
    omega
  refine ⟨_, _, rr, ⟨perm_range hs.size _ (by simp [ll]) fun k hk => ?_, ⟨r1, rfl, by simp [tabOf], r, fun x hx => Nat.le_of_lt_succ (List.mem_range.mp (r2 x hx)), ?_⟩, rfl, rfl, rfl⟩⟩
  · obtain ⟨j, b1, b2⟩ := O.all k hk
    exact List.mem_map.mpr ⟨(j, k), (inl j k).mpr ⟨b1, b2⟩, rfl⟩
  · intro i h j a1 a2
    have a1' : (((liveOf m owner).map (·.2)).map fun i => hs.getD i 0)[i]? = some h := a1
    have a2' : ((liveOf m owner).map (·.1))[i]? = some j := a2
    obtain ⟨⟨y, k⟩, q1, rfl⟩ : ∃ q, (liveOf m owner)[i]? = some q ∧ q.1 = j := by
      rw [List.getElem?_map] at a2'
      exact Option.map_eq_some_iff.mp a2'
    rw [List.getElem?_map, List.getElem?_map, q1] at a1'
    have eh : hs.getD k 0 = h := Option.some.inj a1'
    obtain ⟨b1, b2⟩ := (inl y k).mp (List.mem_of_getElem? q1)
    obtain ⟨h0, n, c1, c2, c3⟩ := O.at_ y k b1 b2
    have e0 : h0 = h := by
      rw [← eh, Array.getD_eq_getD_getElem?, ← Array.getElem?_toList, c1]
      rfl
    subst e0
    refine ⟨n, c2, fun l hl => ?_⟩
    show way m h0 l ∈ (liveOf m owner).map (·.1)
    obtain ⟨k2, hk2⟩ := Option.ne_none_iff_exists'.mp (c3 l hl)
    exact List.mem_map.mpr ⟨(_, k2), (inl _ k2).mpr ⟨way_in m h0 l, hk2⟩, rfl⟩
end NS

/-! sets of nested tuples of whole numbers -/
namespace NS
open PySem PySem.Spec PyProof.Rows L2
section
variable {P : Program} {w : World} {A : Around} {E : Value → Shared → Prop} {s : Shared}
/-- only whole numbers and tuples -/
inductive Whole : Nat → NestedKey → Prop
  | num (n : Nat) (i : Int) : Whole n (.num i)
  | tup {n : Nat} {ks : List NestedKey} : (∀ k ∈ ks, Whole n k) → Whole (n + 1) (.tup ks)
/-- .. ints for numbers -/
inductive Plain (h : Heap) : Nat → Value → Prop
  | int (n : Nat) (i : Int) (t : Tok) : Plain h n (.int i t)
  | tup {n : Nat} {a : Addr} {o : Obj} {vs : Array Value} {m : Nat} : h.get? a = some o → o.cls = .type "tuple" → o.data = .seq vs m → (∀ v ∈ vs.toList, Plain h n v) → Plain h (n + 1) (.ref a)
theorem not_class : ∀ {n : Nat} {v : Value} {m : Nat} {Q : Bool → Shared → Prop}, Plain s.heap n v → n ≤ m → Q false s → wpAny (model P w) A (ofAClassStatement m v) Q E s
  | _, _, m, Q, .int n i t, _, h => by
    rw [ofAClass_int]
    exact wpAny_pure h
  | n + 1, _, 0, _, .tup _ _ _ _, hm, _ => absurd hm (by omega)
  | n + 1, _, m + 1, Q, .tup (a := a) (o := o) (vs := vs) h1 h2 h3 h4, hm, h => by
    have T : s.TypeIs (.ref a) "tuple" := ⟨o, h1, h2⟩
    unfold ofAClassStatement
    refine wpAny_bind (wpAny_typeOf T ?_)
    dsimp only
    have e : (("tuple" : String) == "tuple") = true := by decide
    simp only [e, if_true]
    refine wpAny_bind (wpAny_pure ?_)
    simp only [Bool.not_true, Bool.false_eq_true, if_false]
    refine wpAny_bind (wpAny_seqItems h1 h3 ?_)
    dsimp only
    refine wpAny_bind ?_
    rw [← Array.forIn_toList]
    refine wpAny_forIn_list _ (fun rest r s' => r.1 = none ∧ s = s' ∧ ∀ v ∈ rest, Plain s.heap n v) _ ?_ ?_ _ _ ⟨rfl, rfl, h4⟩
    · rintro v rest r s' ⟨hr, rfl, hv⟩
      refine wpAny_bind (not_class (hv v (by simp)) (by omega) ?_)
      simp only [Bool.false_eq_true, if_false]
      exact wpAny_pure ⟨rfl, rfl, fun u hu => hv u (by simp [hu])⟩
    · rintro ⟨r1, r2⟩ s' ⟨hr, rfl, _⟩
      cases hr
      exact wpAny_pure h
theorem by_value : ∀ {n : Nat} {v : Value} {m : Nat} {Q : Bool → Shared → Prop}, Plain s.heap n v → n ≤ m → Q true s → wpAny (model P w) A (hashByValue m v) Q E s
  | _, _, m, Q, .int n i t, _, h => by
    rw [hashBy_int]
    exact wpAny_pure h
  | n + 1, _, 0, _, .tup _ _ _ _, hm, _ => absurd hm (by omega)
  | n + 1, _, m + 1, Q, .tup (a := a) (o := o) (vs := vs) h1 h2 h3 h4, hm, h => by
    have T : s.TypeIs (.ref a) "tuple" := ⟨o, h1, h2⟩
    unfold hashByValue
    refine wpAny_bind (wpAny_specialOf T F.slot_tuple_hash.lookup ?_)
    dsimp only
    refine wpAny_bind (wpAny_seqItems h1 h3 ?_)
    refine wpAny_bind ?_
    show wpAny _ _ (forIn vs _ _) _ _ s
    rw [← Array.forIn_toList]
    refine wpAny_forIn_list _ (fun rest r s' => r.1 = none ∧ s = s' ∧ ∀ v ∈ rest, Plain s.heap n v) _ ?_ ?_ _ _ ⟨rfl, rfl, h4⟩
    · rintro v rest r s' ⟨hr, rfl, hv⟩
      refine wpAny_bind (by_value (hv v (by simp)) (by omega) ?_)
      simp only [Bool.not_true, Bool.false_eq_true, if_false]
      exact wpAny_pure ⟨rfl, rfl, fun u hu => hv u (by simp [hu])⟩
    · rintro ⟨r1, r2⟩ s' ⟨hr, rfl, _⟩
      cases hr
      exact wpAny_pure h
/-- the tuple at b is the key k, of ints alone -/
structure IsN (P : Program) (w : World) (h : Heap) (k : NestedKey) (b : Addr) : Prop where
  is : (nestedKind P w).is h k b
  pl : Plain h 7 (.ref b)
theorem Plain.at {h h' : Heap} (hk : ∀ a o vs n, h.get? a = some o → o.data = .seq vs n → h'.get? a = some o) : ∀ {n : Nat} {v : Value}, Plain h n v → Plain h' n v
  | _, _, .int n i t => .int n i t
  | _, _, .tup h1 h2 h3 h4 => .tup (hk _ _ _ _ h1 h3) h2 h3 fun v hv => Plain.at hk (h4 v hv)
theorem IsN.at {h h' : Heap} {k : NestedKey} {b : Addr} (hk : ∀ a o vs n, h.get? a = some o → o.data = .seq vs n → h'.get? a = some o) (q : IsN P w h k b) : IsN P w h' k b := ⟨nestedKind_stays.stays hk q.is, q.pl.at hk⟩
theorem IsN.but {h h' : Heap} {k : NestedKey} {a b : Addr} {o : Obj} {es : Array (Int × Value)} {ep : Nat} {t : SetTable} (q : IsN P w h k b) (ho : h.get? a = some o) (hd : o.data = .set es ep t) (hs : Heap.SameBut a h h') : IsN P w h' k b :=
  q.at fun c o' vs n e1 e2 => (hs.2 c (by
    rintro rfl
    rw [ho] at e1
    cases e1
    rw [hd] at e2
    cases e2)).trans e1
/-- a search shows nothing -/
theorem unseen {k : NestedKey} {b : Addr} {Q : Bool → Shared → Prop} (hk : IsN P w s.heap k b) {ys : List Value} (hy : ∀ y ∈ ys, ∃ k' c, y = Value.ref c ∧ IsN P w s.heap k' c) (h : Q false s) : wpAny (model P w) A (searchCouldBeSeen (.ref b) ys) Q E s := by
  unfold searchCouldBeSeen
  refine wpAny_bind ?_
  refine wpAny_forIn_list _ (fun rest r s' => r.1 = none ∧ s = s' ∧ ∀ y ∈ rest, ∃ k' c, y = Value.ref c ∧ IsN P w s.heap k' c) _ ?_ ?_ _ _ ⟨rfl, rfl, hy⟩
  · rintro v rest r s' ⟨hr, rfl, hv⟩
    obtain ⟨k', c, rfl, hc⟩ := hv v (by simp)
    have hv' : ∀ y ∈ rest, ∃ k' c, y = Value.ref c ∧ IsN P w s.heap k' c := fun u hu => hv u (by simp [hu])
    dsimp only
    by_cases z : (b == c || (carriedByValue (.ref b) && carriedByValue (.ref c))) = true
    · exact wp_if_pos z (wpAny_pure ⟨rfl, rfl, hv'⟩)
    · refine wp_if_neg z (wpAny_bind ((nestedKind P w).quiet hk.is ?_))
      simp only [Bool.not_true, Bool.false_eq_true, if_false]
      refine wpAny_bind ((nestedKind P w).quiet hc.is ?_)
      simp only [Bool.not_true, Bool.false_eq_true, if_false]
      refine wpAny_bind (not_class hk.pl (by decide) ?_)
      simp only [Bool.false_eq_true, if_false]
      refine wpAny_bind (not_class hc.pl (by decide) ?_)
      simp only [Bool.false_eq_true, if_false]
      exact wpAny_pure ⟨rfl, rfl, hv'⟩
  · rintro ⟨r1, r2⟩ s' ⟨hr, rfl, _⟩
    cases hr
    exact wpAny_pure h
/-! ### the set -/
abbrev nh (P : Program) (w : World) (k : NestedKey) : Int := (nestedKind P w).hash k
def rowsN (P : Program) (w : World) (L : List (Addr × NestedKey)) : List (Int × Value) := L.map fun p => (nh P w p.2, Value.ref p.1)
/-- the set at a: its rows, its table -/
structure SetN (P : Program) (w : World) (h : Heap) (a : Addr) (L : List (Addr × NestedKey)) (es : Array (Int × Value)) (ep : Nat) (t : SetTable) : Prop where
  obj : ∃ o, h.get? a = some o ∧ o.ExactSet ∧ o.data = .set es ep t
  rows : es.toList = rowsN P w L
  tb : Tb t (L.map fun p => nh P w p.2)
  nd : (L.map (·.2)).Nodup
  plain : t.plain = true
  led : w.params.followText "set-order" = true ∨ t.led = true
  room : L.length * 5 < t.mask * 3
variable {a : Addr} {L : List (Addr × NestedKey)} {es : Array (Int × Value)} {ep : Nat} {t : SetTable}
theorem SetN.size {h : Heap} (R : SetN P w h a L es ep t) : es.size = L.length := by
  have z := congrArg List.length R.rows
  simpa [rowsN] using z
theorem SetN.fits {h : Heap} (R : SetN P w h a L es ep t) : t.fits es.size = true := by
  have z1 := R.tb.sz
  have z2 := R.size
  have z3 := R.room
  rw [List.length_map] at z1
  unfold SetTable.fits SetTable.fill
  rw [R.tb.no]
  simp only [Bool.and_eq_true, beq_iff_eq, decide_eq_true_eq, List.size_toArray, List.length_nil]
  omega
theorem SetN.row {h : Heap} (R : SetN P w h a L es ep t) {i : Nat} {p : Addr × NestedKey} (q : L[i]? = some p) : es[i]? = some (nh P w p.2, Value.ref p.1) := by
  rw [← Array.getElem?_toList, R.rows, rowsN, List.getElem?_map, q]
  rfl
abbrev bg (t : SetTable) (h : Int) : SetTable.Probe := runAt t.mask (SetTable.bits h % (t.mask + 1)) (SetTable.bits h)
theorem bg_dummy (t : SetTable) (h : Int) (n : Nat) : (nth t.mask (bg t h) n).dummy = none := by
  have key : ∀ (n : Nat) (p : SetTable.Probe), p.dummy = none → (nth t.mask p n).dummy = none := fun n => by
    induction n with
    | zero => exact fun p h => h
    | succ n ih =>
      intro p hp
      refine ih _ ?_
      unfold adv
      split <;> exact hp
  exact key n _ rfl
/-- the search, from the c-th step on -/
theorem look (R : SetN P w s.heap a L es ep t) (all : ∀ p ∈ L, IsN P w s.heap p.2 p.1) {x : Addr} {k : NestedKey} (hx : IsN P w s.heap k x) (hu : (nestedKind P w).room A) {n : Nat} (hn : n < 10 * SetTable.turns t.mask)
    (empty : way t.mask (nh P w k) n ∉ t.place.toList) (full : ∀ l, l < n → way t.mask (nh P w k) l ∈ t.place.toList) {Q : SetFound → Shared → Prop} (yes : k ∈ L.map (·.2) → Q (.there none) s) (no : k ∉ L.map (·.2) → Q (.free (way t.mask (nh P w k) n) false) s) :
    ∀ (f c : Nat) (stand : Option SetTable.Probe), stand.getD (t.probeStart (nh P w k)) = nth t.mask (bg t (nh P w k)) c → c ≤ n → n - c < f →
      (∀ (i : Nat) p, L[i]? = some p → p.2 = k → ∃ l, c ≤ l ∧ l < n ∧ t.place.toList[i]? = some (way t.mask (nh P w k) l)) → wpAny (model P w) A (setSearchFrom a (.ref x) (nh P w k) true f stand) Q E s
  | 0, _, _, _, _, hf, _ => absurd hf (by omega)
  | f + 1, c, stand, hst, hc, hf, there => by
    obtain ⟨o, ho, hex, hd⟩ := R.obj
    have odd := R.tb.rd.odd
    rw [setSearchFrom_succ]
    refine wpAny_bind (wpAny_setState_of ho hd R.fits ?_)
    dsimp only
    refine wp_if_neg (by unfold SetTable.gaveWay; rw [odd]; decide) ?_
    have step : ∀ q, nth t.mask (nth t.mask (bg t (nh P w k)) c) q = nth t.mask (bg t (nh P w k)) (c + q) := fun q => (nth_add t.mask c _ q).symm
    have stepj : ∀ q, (nth t.mask (nth t.mask (bg t (nh P w k)) c) q).j = way t.mask (nh P w k) (c + q) := fun q => by rw [step]
    have cn : c + (n - c) = n := by omega
    have hash : ∀ (i : Nat) p, L[i]? = some p → (es[i]?.map (·.1)).getD 0 = nh P w p.2 := fun i p hp => by rw [R.row hp]; rfl
    rcases go_spec t R.tb.up R.tb.no (fun i => (es[i]?.map (·.1)).getD 0) (nh P w k) (10 * SetTable.turns t.mask) (n - c) _ (bg_dummy t _ c) (by omega) (fun q hq => by rw [stepj]; exact full _ (by omega)) (by rw [stepj, cn]; exact empty) with ⟨q, i, hq, hi, hh, first, probed⟩ | ⟨never, probed⟩
    · rw [stepj, step] at probed
      rw [stepj] at hi
      have pr : t.probe (fun i => (es[i]?.map (·.1)).getD 0) (nh P w k) (stand.getD (t.probeStart (nh P w k))) = some (.candidate (way t.mask (nh P w k) (c + q)) i (nth t.mask (bg t (nh P w k)) (c + (q + 1)))) := by
        rw [hst]
        exact probed
      rw [pr]
      dsimp only
      have il : i < L.length := by
        have z := (List.getElem?_eq_some_iff.mp hi).1
        rw [R.tb.len, List.length_map] at z
        exact z
      obtain ⟨p, hp⟩ : ∃ p, L[i]? = some p := ⟨_, List.getElem?_eq_getElem il⟩
      have pm := List.mem_of_getElem? hp
      have rest : wpAny (model P w) A (searchRest a (.ref x) (nh P w k) true f es t (way t.mask (nh P w k) (c + q)) i (nth t.mask (bg t (nh P w k)) (c + (q + 1)))) Q E s := by
        unfold searchRest
        rw [R.row hp]
        dsimp only
        refine wpAny_bind (wpAny_holding ((nestedKind P w).eqBool hu (all p pm).is hx.is ?_))
        refine wpAny_bind (wpAny_setState_of ho hd R.fits ?_)
        dsimp only
        by_cases same : p.2 = k
        · exact wp_if_pos (by simp [same]) (wpAny_pure (yes (List.mem_map.mpr ⟨p, pm, same⟩)))
        · refine wp_if_neg (by simp [same]) ?_
          rw [sameMem]
          dsimp only
          have live : t.slot (way t.mask (nh P w k) (c + q)) = .live i := slot_live R.tb.up hi
          simp only [if_true, live, R.row hp]
          refine wpAny_bind (wpAny_isSame_ref_self (wpAny_bind (wpAny_pure ?_)))
          simp only [if_true]
          refine wp_if_neg (by simp [same]) (look R all hx hu hn empty full yes no f (c + (q + 1)) _ rfl (by omega) (by omega) fun i' p' h1 h2 => ?_)
          obtain ⟨l, l1, l2, l3⟩ := there i' p' h1 h2
          refine ⟨l, ?_, l2, l3⟩
          have n1 : ¬ l < c + q := fun z => first (l - c) i' (by omega) (by rw [stepj, show c + (l - c) = l by omega]; exact l3) (by rw [hash i' p' h1, h2])
          have n2 : l ≠ c + q := by
            rintro rfl
            have z := slot_live R.tb.up l3
            rw [live] at z
            cases z
            rw [hp] at h1
            cases h1
            exact same h2
          omega
      by_cases led : t.led = true
      · exact wp_if_neg (by simp [led]) rest
      · refine wp_if_pos (by simp [led]) (wpAny_bind (unseen hx (fun y hy => ?_) (wp_if_neg (by decide) rest)))
        obtain ⟨e, e1, rfl⟩ := List.mem_map.mp hy
        have e2 : e ∈ es := by
          have z : e ∈ es ∧ e.1 = nh P w k := by simpa using e1
          exact z.1
        have e3 : e ∈ rowsN P w L := by rw [← R.rows]; exact Array.mem_toList_iff.mpr e2
        obtain ⟨p', p1, rfl⟩ := List.mem_map.mp e3
        exact ⟨p'.2, p'.1, rfl, all p' p1⟩
    · rw [stepj, cn] at probed
      have pr : t.probe (fun i => (es[i]?.map (·.1)).getD 0) (nh P w k) (stand.getD (t.probeStart (nh P w k))) = some (.empty (way t.mask (nh P w k) n) none) := by
        rw [hst]
        exact probed
      rw [pr]
      dsimp only
      refine wpAny_pure (no fun z => ?_)
      obtain ⟨p, p1, p2⟩ := List.mem_map.mp z
      obtain ⟨i, hi, rfl⟩ := List.getElem_of_mem p1
      have h1 : L[i]? = some L[i] := List.getElem?_eq_getElem hi
      obtain ⟨l, l1, l2, l3⟩ := there i _ h1 p2
      exact never (l - c) i (by omega) (by rw [stepj, show c + (l - c) = l by omega]; exact l3) (by rw [hash i _ h1, p2])
theorem search (R : SetN P w s.heap a L es ep t) (all : ∀ p ∈ L, IsN P w s.heap p.2 p.1) {x : Addr} {k : NestedKey} (hx : IsN P w s.heap k x) (hu : (nestedKind P w).room A) {Q : SetFound → Shared → Prop} (yes : k ∈ L.map (·.2) → Q (.there none) s)
    (no : ∀ n, k ∉ L.map (·.2) → way t.mask (nh P w k) n ∉ t.place.toList → (∀ l, l < n → way t.mask (nh P w k) l ∈ t.place.toList) → Q (.free (way t.mask (nh P w k) n) false) s) : wpAny (model P w) A (setSearch a (.ref x) (nh P w k) true) Q E s := by
  have room := R.room
  have big := R.tb.rd.big
  obtain ⟨n, n1, n2, n3⟩ := R.tb.free (by rw [List.length_map]; omega) (nh P w k)
  have small : n < 100000 := by
    unfold SetTable.turns at n1
    omega
  unfold setSearch
  refine look R all hx hu n1 n2 n3 yes (fun z => no n z n2 n3) 100000 0 none rfl (Nat.zero_le _) (by omega) fun i p h1 h2 => ?_
  have il := (List.getElem?_eq_some_iff.mp h1).1
  have hi : (L.map fun p => nh P w p.2)[i]? = some (nh P w k) := by rw [List.getElem?_map, h1, ← h2]; rfl
  have hj : t.place.toList[i]? = some (t.place.toList[i]'(by rw [R.tb.len, List.length_map]; exact il)) := List.getElem?_eq_getElem _
  obtain ⟨l, l1, l2⟩ := R.tb.ahead n2 hi hj
  exact ⟨l, Nat.zero_le _, l1, by rw [hj, ← l2]⟩
/-- laid anew, the same things stand in another order -/
theorem rows_order {order : Array Nat} (hr : es.toList = rowsN P w L) (hp : order.toList.Perm (List.range L.length)) :
    ∃ M, (order.filterMap (es[·]?)).toList = rowsN P w M ∧ M.Perm L ∧ (M.map fun p => nh P w p.2) = order.toList.map fun i => (es.map (·.1)).getD i 0 := by
  have at_ : ∀ i (h : i < L.length), es[i]? = some (nh P w L[i].2, Value.ref L[i].1) := fun i h => by
    rw [← Array.getElem?_toList, hr, rowsN, List.getElem?_map, List.getElem?_eq_getElem h]
    rfl
  have go : ∀ l : List Nat, (∀ i ∈ l, i < L.length) → l.filterMap (fun i => es[i]?) = rowsN P w (l.filterMap fun i => L[i]?) ∧ ((l.filterMap fun i => L[i]?).map fun p => nh P w p.2) = l.map fun i => (es.map (·.1)).getD i 0 := fun l => by
    induction l with
    | nil => exact fun _ => ⟨rfl, rfl⟩
    | cons i r ih =>
      intro hl
      have hi := hl i (by simp)
      obtain ⟨e1, e2⟩ := ih fun j hj => hl j (by simp [hj])
      rw [List.filterMap_cons_some (at_ i hi), List.filterMap_cons_some (List.getElem?_eq_getElem hi), List.map_cons, List.map_cons, e1, e2]
      refine ⟨rfl, ?_⟩
      congr 1
      rw [Array.getD_eq_getD_getElem?, Array.getElem?_map, at_ i hi]
      rfl
  obtain ⟨e1, e2⟩ := go order.toList fun i hi => List.mem_range.mp (hp.mem_iff.mp hi)
  refine ⟨_, by rw [Array.toList_filterMap]; exact e1, ?_, e2⟩
  have z : (List.range L.length).filterMap (fun i => L[i]?) = L := by
    have key : ∀ n, n ≤ L.length → (List.range n).filterMap (fun i => L[i]?) = L.take n := fun n => by
      induction n with
      | zero => exact fun _ => rfl
      | succ n ih =>
        intro hn
        rw [List.range_succ, List.filterMap_append, ih (by omega), List.filterMap_cons_some (List.getElem?_eq_getElem (by omega : n < L.length)), List.take_add_one, List.getElem?_eq_getElem (by omega : n < L.length)]
        rfl
    rw [key _ (Nat.le_refl _), List.take_length]
  have y := hp.filterMap (fun i => L[i]?)
  rwa [z] at y
theorem relay (ho : ∃ o, s.heap.get? a = some o ∧ o.ExactSet ∧ o.data = .set es ep t) (hr : es.toList = rowsN P w L) (tb : Tb t (L.map fun p => nh P w p.2)) (fl : L.length ≤ t.mask) (nd : (L.map (·.2)).Nodup) (pl : t.plain = true) (ld : w.params.followText "set-order" = true ∨ t.led = true)
    {wanted m : Nat} (hw : SetTable.sizeAbove wanted - 1 = m) (rd : Rd m) (hs : SetTable.sizeAbove wanted ≤ 2048) (hl : L.length * 5 < m * 3) {Q : Unit → Shared → Prop}
    (hQ : ∀ h' M es' ep' t', Heap.SameBut a s.heap h' → SetN P w h' a M es' ep' t' → t'.mask = m → M.Perm L → Q () { s with heap := h' }) : wpAny (model P w) A (setRelay a wanted) Q E s := by
  obtain ⟨o, ho, hex, hd⟩ := ho
  have sz : es.size = L.length := by
    have z := congrArg List.length hr
    simpa [rowsN] using z
  have psz := tb.sz
  rw [List.length_map] at psz
  have fits : t.fits es.size = true := by
    unfold SetTable.fits SetTable.fill
    rw [tb.no]
    simp only [Bool.and_eq_true, beq_iff_eq, decide_eq_true_eq, List.size_toArray, List.length_nil]
    omega
  obtain ⟨t', order, e, Y⟩ := laid_anew t (hs := es.map (·.1)) hw rd (by rw [Array.size_map]; omega)
  have perm := Y.perm
  rw [Array.size_map, sz] at perm
  obtain ⟨M, m1, m2, m3⟩ := rows_order hr perm
  have tb' := Y.tb
  rw [← m3] at tb'
  have sz' : (order.filterMap (es[·]?)).size = es.size := by
    have z := congrArg List.length m1
    rw [Array.length_toList, rowsN, List.length_map, m2.length_eq] at z
    omega
  rw [setRelay_eq]
  refine wpAny_bind (wpAny_setState_of ho hd fits ?_)
  dsimp only
  refine wp_if_neg (by rw [sizeLine_eq]; omega) ?_
  rw [e]
  dsimp only
  refine wpAny_bind (wp_if_neg (by rw [sz']; simp) (wpAny_pure ?_))
  dsimp only
  refine wpAny_storeSet_of ho hd ?_ (by rw [sz', sizeLine_eq]; have := rd.big; omega)
  have sb : Heap.SameBut a s.heap (s.heap.update a (Obj.putSet (order.filterMap (es[·]?)) t')) := Heap.SameBut.update ..
  refine hQ _ M _ (ep + 1) t' sb ⟨⟨_, store_at ho hd, ⟨hex.1, hex.2.1, hex.2.2⟩, rfl⟩, m1, tb', (m2.map (·.2)).nodup_iff.mpr nd, by rw [Y.plain]; exact pl, by rw [Y.led]; exact ld, by rw [m2.length_eq, Y.mask]; exact hl⟩ Y.mask m2
theorem grow5 : SetTable.sizeAbove (SetTable.grown 5) = 32 := by decide +kernel
theorem grow19 : SetTable.sizeAbove (SetTable.grown 19) = 128 := by decide +kernel
theorem grow77 : SetTable.sizeAbove (SetTable.grown 77) = 512 := by decide +kernel
theorem grow307 : SetTable.sizeAbove (SetTable.grown 307) = 2048 := by decide +kernel
/-- the masks that come -/
def Msk (m : Nat) : Prop := m = 7 ∨ m = 31 ∨ m = 127 ∨ m = 511 ∨ m = 2047
theorem full_next {m n : Nat} (hm : Msk m) (h1 : n * 5 < m * 3) (h2 : (n + 1) * 5 ≥ m * 3) (h3 : n + 1 ≤ 1000) : ∃ m', SetTable.sizeAbove (SetTable.grown (n + 1)) - 1 = m' ∧ Msk m' ∧ Rd m' ∧ SetTable.sizeAbove (SetTable.grown (n + 1)) ≤ 2048 ∧ (n + 1) * 5 < m' * 3 := by
  rcases hm with rfl | rfl | rfl | rfl | rfl
  · obtain rfl : n = 4 := by omega
    exact ⟨31, by rw [grow5], .inr (.inl rfl), rd31, by rw [grow5]; decide, by decide⟩
  · obtain rfl : n = 18 := by omega
    exact ⟨127, by rw [grow19], .inr (.inr (.inl rfl)), rd127, by rw [grow19]; decide, by decide⟩
  · obtain rfl : n = 76 := by omega
    exact ⟨511, by rw [grow77], .inr (.inr (.inr (.inl rfl))), rd511, by rw [grow77]; decide, by decide⟩
  · obtain rfl : n = 306 := by omega
    exact ⟨2047, by rw [grow307], .inr (.inr (.inr (.inr rfl))), rd2047, by rw [grow307]; decide, by decide⟩
  · omega
theorem rows_ins (L : List (Addr × NestedKey)) (p : Nat) (x : Addr) (k : NestedKey) : rowsN P w (L.take p ++ (x, k) :: L.drop p) = (rowsN P w L).take p ++ (nh P w k, Value.ref x) :: (rowsN P w L).drop p := by
  simp only [rowsN, List.map_append, List.map_cons, List.map_take, List.map_drop]
/-- one more, or nothing -/
theorem add (R : SetN P w s.heap a L es ep t) (msk : Msk t.mask) (all : ∀ p ∈ L, IsN P w s.heap p.2 p.1) {x : Addr} {k : NestedKey} (hx : IsN P w s.heap k x) (hu : (nestedKind P w).room A) (few : L.length + 1 ≤ 1000) {Q : Bool → Shared → Prop}
    (hQ : ∀ b h' M es' ep' t', Heap.SameBut a s.heap h' → SetN P w h' a M es' ep' t' → Msk t'.mask → (k ∈ L.map (·.2) → M = L) → (k ∉ L.map (·.2) → M.Perm ((x, k) :: L)) → Q b { s with heap := h' }) : wpAny (model P w) A (setAddHashed a (.ref x) (nh P w k)) Q E s := by
  obtain ⟨o, ho, hex, hd⟩ := R.obj
  have sz := R.size
  have room := R.room
  unfold setAddHashed
  refine wpAny_holding ?_
  rw [show (100000 : Nat) = 99999 + 1 from rfl, setAddHashedIn_succ]
  refine wpAny_bind (wpAny_setState_of ho hd R.fits ?_)
  dsimp only
  refine wp_if_neg (by simp [byScan, Value.scannable]) ?_
  refine wpAny_bind (search R all hx hu (fun there => ?_) fun n new empty full => ?_)
  · dsimp only
    exact wpAny_pure (hQ false s.heap L es ep t (Heap.SameBut.refl a s.heap) R msk (fun _ => rfl) fun z => absurd there z)
  dsimp only
  refine wpAny_bind (wpAny_setState_of ho hd R.fits ?_)
  dsimp only
  have Y := R.tb.put empty full
  generalize hj : way t.mask (nh P w k) n = j at Y
  generalize hp : SetTable.below t.place j = p at Y
  have pl : (t.put j).1.plain = true := by rw [Y.plain]; exact R.plain
  have led : w.params.followText "set-order" = true ∨ (t.put j).1.led = true := by rw [Y.led]; exact R.led
  have msk1 : Msk (t.put j).1.mask := by rw [Y.mask]; exact msk
  have tb := Y.tb
  have mk := Y.mask
  have fill := Y.fill
  have at_ := Y.at_
  generalize hpt : t.put j = pt at pl led msk1 tb mk fill at_ ⊢
  obtain ⟨t1, p1⟩ := pt
  dsimp only at pl led msk1 tb mk fill at_ ⊢
  subst at_
  rw [List.length_map] at fill
  first
    | (refine wpAny_bind ?_; refine wp_if_pos pl ?_; refine by_value hx.pl (by decide) ?_)
    | refine wp_if_pos pl (wpAny_bind (by_value hx.pl (by decide) ?_))
  simp only [if_true]
  have r1 : (SetTable.insertAt es p1 (nh P w k, Value.ref x)).toList = rowsN P w (L.take p1 ++ (x, k) :: L.drop p1) := by
    rw [SetTable.toList_insertAt, rows_ins, R.rows]
  have perm := put_perm L p1 (x, k)
  have tb1 : Tb t1 ((L.take p1 ++ (x, k) :: L.drop p1).map fun p => nh P w p.2) := by
    rw [List.map_append, List.map_cons, List.map_take, List.map_drop]
    exact tb
  have nd1 : ((L.take p1 ++ (x, k) :: L.drop p1).map (·.2)).Nodup := (perm.map (·.2)).nodup_iff.mpr (List.nodup_cons.mpr ⟨new, R.nd⟩)
  have len1 : (L.take p1 ++ (x, k) :: L.drop p1).length = L.length + 1 := perm.length_eq
  have sz1 : (SetTable.insertAt es p1 (nh P w k, Value.ref x)).size = L.length + 1 := by
    have z := congrArg List.length r1
    rw [Array.length_toList, rowsN, List.length_map, len1] at z
    exact z
  generalize SetTable.insertAt es p1 (nh P w k, Value.ref x) = es1 at r1 sz1 ⊢
  generalize L.take p1 ++ (x, k) :: L.drop p1 = L1 at perm tb1 nd1 len1 r1
  refine wpAny_bind (wpAny_storeSet_of ho hd ?_ (by rw [sz1, sizeLine_eq]; omega))
  have sb : Heap.SameBut a s.heap (s.heap.update a (Obj.putSet es1 t1)) := Heap.SameBut.update ..
  have ho1 := store_at (es' := es1) (t' := t1) ho hd
  generalize s.heap.update a (Obj.putSet es1 t1) = h1 at sb ho1 ⊢
  by_cases tf : t1.tooFull = true
  · have hfull : (L.length + 1) * 5 ≥ t.mask * 3 := by
      have z := tf
      unfold SetTable.tooFull at z
      rw [decide_eq_true_eq, fill, mk] at z
      exact z
    obtain ⟨m', g1, g2, g3, g4, g5⟩ := full_next msk room hfull few
    rw [sz]
    have go : wpAny (model P w) A (setRelay a (SetTable.grown (L.length + 1))) (fun _ s' => wpAny (model P w) A (pure true) Q E s') E { s with heap := h1 } :=
      relay (s := { s with heap := h1 }) ⟨_, ho1, ⟨hex.1, hex.2.1, hex.2.2⟩, rfl⟩ r1 tb1 (by have z := tb1.sz; have y := tb1.le; rw [len1, mk]; omega) nd1 pl led g1 g3 g4 (by rw [len1]; exact g5) fun h2 M es2 ep2 t2 sb2 R2 em2 pm2 => wpAny_pure (hQ true h2 M es2 ep2 t2 (sb.trans sb2) R2 (by rw [em2]; exact g2) (fun z => absurd z new) fun _ => pm2.trans perm)
    first
      | (refine wpAny_bind ?_; exact wp_if_pos (by simp [tf]) go)
      | (refine wp_if_pos (by simp [tf]) ?_; exact wpAny_bind go)
  · have nf : (L.length + 1) * 5 < t1.mask * 3 := by
      have z := tf
      unfold SetTable.tooFull at z
      rw [decide_eq_true_eq, fill] at z
      omega
    first
      | refine wp_if_neg (by simp [tf]) ?_
      | (refine wpAny_bind ?_; refine wp_if_neg (by simp [tf]) (wpAny_pure ?_))
    exact wpAny_pure (hQ true h1 L1 es1 (ep + 1) t1 sb ⟨⟨_, ho1, ⟨hex.1, hex.2.1, hex.2.2⟩, rfl⟩, r1, tb1, nd1, pl, led, by rw [len1]; exact nf⟩ msk1 (fun z => absurd z new) fun _ => perm)
/-- a new set -/
theorem setN_new {h : Heap} (ho : h.get? a = some { cls := .type "set", dict := none, data := .set #[] 0 (.fresh 0 0 (!w.params.followText "set-order")) }) : SetN P w h a [] #[] 0 (.fresh 0 0 (!w.params.followText "set-order")) :=
  ⟨⟨_, ho, ⟨rfl, rfl, rfl⟩, rfl⟩, rfl, ⟨List.Pairwise.nil, rfl, rfl, rd7, (fun x hx => by cases hx), fun i h j e => by cases e⟩, List.nodup_nil, rfl, by
    cases w.params.followText "set-order"
    · exact .inr rfl
    · exact .inl rfl, by show 0 * 5 < 7 * 3; decide⟩
end
end NS

/-! a comprehension into a new set, whatever is told of the set -/
namespace NS
open PySem PySem.Spec PyProof.Rows L2 PpSet
abbrev emptySet (w : World) : Obj := { cls := .type "set", dict := none, data := .set #[] 0 (.fresh 0 0 (!w.params.followText "set-order")) }
/-- what is told of the new set (O), what has to be said of a thing that is added (Ad) -/
structure SetRule (X : Cx) (O : Addr → HO) (Ad : V → Addr → Hp → (Hp → Prop) → Prop) : Prop where
  new : ∀ (H : Hp) (h : Heap), ObjOk X.prog X.w H (h.push (emptySet X.w)) h.objs.size (O h.objs.size)
  add : ∀ (s0 : Shared) (H0 : Hp) (sc : Scope) (ce : Env) (fp : List Addr) {pins : List (Addr × Obj)} {σ : L2.St} {H : Hp} {s : Shared} {y : V} {u : Value} {D : Addr} {N : Hp → Prop} {Q E : Value → Shared → Prop},
    Inv (X.blk s0 H0 sc ce fp) pins σ H s → RelV y u → Ad y D H N → (∀ s' H', Inv (X.blk s0 H0 sc ce fp) pins σ H' s' → N H' → Q .none s') → wpAny (model X.prog X.w) X.A (call (.builtin "set.add") [.ref D, u]) Q E s
section
variable {X : Cx} {O : Addr → HO} {Ad : V → Addr → Hp → (Hp → Prop) → Prop}
def tSg (O : Addr → HO) (Ad : V → Addr → Hp → (Hp → Prop) → Prop) (wi : TI) (g : TG) (tt : TT) (te : TE) (vs : List Nat) : TE := fun σ H Q => wi σ H fun J H1 => ∀ D, H1 D = none → ∃ W : Nat → Nat → Hp → Prop, (∃ m, W 0 m (upd H1 D (O D))) ∧ ∀ i m H, W i m H →
  (J.stop i H ∧ Q (.ref D) H) ∨ (J.go i H ∧ ∃ N : Hp → Prop, (∀ H', N H' → ∃ m', m' < m ∧ W (i + 1) m' H') ∧ ∀ x H', J.yld i H x H' → g x (wipe σ vs) H' fun σ2 H2 => wipe σ2 vs = wipe σ vs ∧ tt σ2 H2 fun b H3 => if b = true then te σ2 H3 fun y H4 => Ad y D H4 N else N H3)
theorem sg_core (SR : SetRule X O Ad) {pins : List (Addr × Obj)} {s : Shared} {σ : L2.St} {H : Hp} {Q : VK} {elt tg iter : Expr} {ifs : List Expr} {sc : Scope} {own : List (PySem.Str × Nat)} {p1 p2 : Pos} {wi : TI} {g : TG} {tt : TT} {te : TE} {use : Option (Value → Sem Unit)}
    {Qf : Value → Shared → Prop} (calm : X.calm = true) (nodup : X.N.Nodup) (I : Inv X pins σ H s) (hi : PI X tg iter wi) (bk : BlkOk X.N X.env.scope sc own) (hg : ∀ (s : Shared) (H : Hp) (C : Addr) (cl : List (PySem.Str × Addr)) (fp : List Addr), PG (X.blk s H sc (compEnvC sc cl C X.env) fp) tg g)
    (ht : ∀ (s : Shared) (H : Hp) (C : Addr) (cl : List (PySem.Str × Addr)) (fp : List Addr), PTs (X.blk s H sc (compEnvC sc cl C X.env) fp) ifs tt) (he : ∀ (s : Shared) (H : Hp) (C : Addr) (cl : List (PySem.Str × Addr)) (fp : List Addr), PE (X.blk s H sc (compEnvC sc cl C X.env) fp) elt te)
    (fold : ∀ x, foldedSetIterable iter X.env x = pure x) (h : tSg O Ad wi g tt te (own.map (·.2)) σ H Q)
    (out : ∀ D C s' m H', Inv X pins σ H' s' → Q (.ref D) H' → s'.heap.Ns C m → FpOk X pins H' C → compPost (model X.prog X.w) X.A X.xe use Qf (.ref D) C (.ok .next) s') :
    wpAny (model X.prog X.w) X.A (comprehension (.SetComp elt [⟨tg, iter, ifs, 0⟩] sc p1) sc X.env p2 (newSet (.type "set")) false (eval iter X.env) use) Qf X.xe s := by
  have cells : ∀ y ∈ sc.names, y.2 = .free → ∃ c, X.env.cells.lookup y.1 = some c := fun y m e => (bk.free y m e).elim (fun z => I.ok.has _ (.inl z)) fun z => I.ok.has _ (.inr z)
  refine wpAny_comprehension_free (use := use) rfl fold (closure_ok cells) bk.kind (fun y m e => by rw [bk.uniq y m, e]) (thn (hi.run pins s σ H _ I h) fun xv sa hx => thn hx fun itv sb ⟨it, fp, tn, J, Ha, e, Ia, T, sta, fa, q⟩ => ?_)
  subst e
  refine newSet_ok (newEnv_comp ?_)
  generalize hD : sb.heap.objs.size = D
  obtain ⟨W, ⟨m0, w0⟩, turn⟩ := q D (Ia.hok.fresh (Nat.le_of_eq hD))
  generalize hc : ({ sb with heap := sb.heap.push (emptySet X.w) } : Shared) = c
  have hch : c.heap = sb.heap.push (emptySet X.w) := by rw [← hc]
  have Ib : Inv X pins σ (upd Ha D (O D)) c := by
    subst hc hD
    exact Ia.laid (t' := sb.toks) (fun b o e => Heap.get?_push_of_some _ e) (Nat.le_refl _) (SR.new _ _)
  have old : ∀ b ∈ fp, b < sb.heap.objs.size := fun b hb => let ⟨o, e, _⟩ := T.obj _ _ sta b hb; Heap.lt_size e
  have fb : ∀ b ∈ fp, FpOk X pins (upd Ha D (O D)) b ∧ b < c.heap.objs.size := fun b hb => by
    have lt := old b hb
    obtain ⟨z1, z2⟩ := fa b hb
    refine ⟨⟨?_, z2⟩, by rw [hch, Heap.size_push]; exact Nat.lt_succ_of_lt lt⟩
    rw [upd_ne (Nat.ne_of_lt (hD ▸ lt))]
    exact z1
  have stb : tn 0 c.heap := T.keep _ _ _ sta fun b _ o e => by rw [hch]; exact Heap.get?_push_of_some _ e
  have Ic := block_start Ib bk nodup fb
  have G := hg c (upd Ha D (O D)) c.heap.objs.size (cellsFrom (c.heap.objs.size + 1) sc.names (cloFrom X.env.cells sc.names [])) fp
  have U := ht c (upd Ha D (O D)) c.heap.objs.size (cellsFrom (c.heap.objs.size + 1) sc.names (cloFrom X.env.cells sc.names [])) fp
  have V := he c (upd Ha D (O D)) c.heap.objs.size (cellsFrom (c.heap.objs.size + 1) sc.names (cloFrom X.env.cells sc.names [])) fp
  show codeAny _ _ (.compStart (.SetComp elt [⟨tg, iter, ifs, 0⟩] sc p1) 0 (.ref it) (.ref D) (compEnvC sc (cellsFrom (c.heap.objs.size + 1) sc.names (cloFrom X.env.cells sc.names [])) c.heap.objs.size X.env)) (compPost (model X.prog X.w) X.A X.xe use Qf (.ref D) c.heap.objs.size) { c with heap := pushCells (c.heap.push { cls := .type "dict", data := .dict #[] }) sc.names }
  have nb : ∀ b ∈ fp, (upd Ha D (O D)) b = none := fun b hb => (fb b hb).1.1
  generalize hce : compEnvC sc (cellsFrom (c.heap.objs.size + 1) sc.names (cloFrom X.env.cells sc.names [])) c.heap.objs.size X.env = ce at Ic G U V ⊢
  have loc : ce.locals = c.heap.objs.size := by subst hce; rfl
  generalize upd Ha D (O D) = Hb at Ib Ic G U V w0 nb fb
  generalize hd : ({ c with heap := pushCells (c.heap.push { cls := .type "dict", data := .dict #[] }) sc.names } : Shared) = d at Ic ⊢
  have std : tn 0 d.heap := T.keep _ _ _ stb fun b _ o e => by rw [← hd]; exact pushCells_keeps _ _ _ _ (Heap.get?_push_of_some _ e)
  have foot : ∀ {σ' : L2.St} {H' : Hp} {s' : Shared}, Inv (X.blk c Hb sc ce fp) [] σ' H' s' → (∀ b ∈ fp, H' b = none) → ∀ b ∈ fp, FpOk (X.blk c Hb sc ce fp) [] H' b := fun J' n b hb =>
    ⟨n b hb, (J'.ok.exf b hb).1, J'.ok.exfs b hb, .inl hb, fun x y e => (J'.ok.exf b hb).2 x y e, fun p hp => nomatch (show p ∈ ([] : List (Addr × Obj)) ++ [] from hp)⟩
  have loop : codeAny (model X.prog X.w) X.A (.compLoop (.SetComp elt [⟨tg, iter, ifs, 0⟩] sc p1) 0 (.ref it) (.ref D) ce) (compPost (model X.prog X.w) X.A X.xe use Qf (.ref D) c.heap.objs.size) d := by
    refine compLoopS_any (fun n s' => ∃ i H', Inv (X.blk c Hb sc ce fp) [] (wipe σ (own.map (·.2))) H' s' ∧ tn i s'.heap ∧ (∀ b ∈ fp, H' b = none) ∧ W i n H') ?_ m0 ⟨0, Hb, Ic, std, nb, w0⟩
    rintro n e ⟨i, He, Ie, ste, ne, we⟩
    rcases turn i n He we with ⟨stop, fin⟩ | ⟨go, N, less, step⟩
    · refine thnF (T.done (X.blk c Hb sc ce fp) rfl rfl rfl calm i [] e _ He (fun _ _ => False) Ie (foot Ie ne) ste stop) fun r f ⟨hr, If⟩ => ?_
      subst hr
      have back : Inv X pins σ He f := Ib.call' (ch := fp) If.os If.base If.hok If.bare fun b hb => let z := (fb b hb).1; ⟨z.2.2.2.1, z.2.1, z.2.2.2.2.1, z.2.2.2.2.2⟩
      have free : He c.heap.objs.size = none := by rw [← loc]; exact If.free
      obtain ⟨m, ns, _⟩ := If.loc
      have ns : f.heap.Ns ce.locals m := ns
      rw [loc] at ns
      exact out D c.heap.objs.size f m He back fin ns (Ib.fpOk (Nat.le_refl _) free)
    · refine thnF (T.item (X.blk c Hb sc ce fp) rfl rfl rfl calm i [] e _ He (fun _ _ => False) Ie (foot Ie ne) ste go) fun r f ⟨u, hr, z⟩ => ?_
      subst hr
      refine thnF z fun _ f ⟨x, Hf, If, rf, yf, stf, nf⟩ => ?_
      refine thnF (G.run _ f _ Hf x u _ (If.pinned (foot If nf) (T.obj _ _ stf)) rf (step x Hf yf)) fun _ k ⟨σk, Hk, Ik, wk, qk⟩ => ?_
      refine thnF (U.run _ k σk Hk _ Ik qk) fun b l ⟨Hl, Il, ql⟩ => ?_
      have close : ∀ {s' : Shared} {H' : Hp}, Inv (X.blk c Hb sc ce fp) ([] ++ pinsAt fp f.heap) σk H' s' → N H' → ∃ m, m < n ∧ ∃ i H', Inv (X.blk c Hb sc ce fp) [] (wipe σ (own.map (·.2))) H' s' ∧ tn i s'.heap ∧ (∀ b ∈ fp, H' b = none) ∧ W i m H' := fun {s' H'} J' nx => by
        obtain ⟨m', lt, w'⟩ := less H' nx
        have stays : ∀ b ∈ fp, ∀ o, f.heap.get? b = some o → s'.heap.get? b = some o ∧ H' b = none := fun b hb o e =>
          let y := J'.pin (b, o) (List.mem_append_right _ (List.mem_append_right _ (mem_pinsAt hb e)))
          ⟨y.1, y.2.1⟩
        refine ⟨m', lt, i + 1, H', (J'.unpinned (pins := [])).weak (by rw [← wk, wipe_length]) (fun j v e => ?_), T.keep _ _ _ stf fun b hb o e => (stays b hb o e).1, fun b hb => ?_, w'⟩
        · rw [← wk] at e
          exact (wipe_some e).1
        · obtain ⟨o, e, _⟩ := T.obj _ _ stf b hb
          exact (stays b hb o e).2
      cases b with
      | false =>
        simp only [Bool.false_eq_true, if_false] at ql ⊢
        exact close Il ql
      | true =>
        simp only [if_true] at ql ⊢
        refine thnF (V.run _ l σk Hl _ Il ql) fun u' s9 ⟨y, H9, I9, r9, ad⟩ => ?_
        exact SR.add c Hb sc ce fp I9 r9 ad fun s' H' I' nx => close I' nx
  exact codeAny_compStart_set loop (T.self X.A 0 _ _ _ std loop)
/-- {elt for tg in iter ..} as a value -/
theorem pe_sg (SR : SetRule X O Ad) {elt tg iter : Expr} {ifs : List Expr} {sc : Scope} {own : List (PySem.Str × Nat)} {p1 : Pos} {wi : TI} {g : TG} {tt : TT} {te : TE} (calm : X.calm = true) (nodup : X.N.Nodup) (hi : PI X tg iter wi) (bk : BlkOk X.N X.env.scope sc own)
    (hg : ∀ (s : Shared) (H : Hp) (C : Addr) (cl : List (PySem.Str × Addr)) (fp : List Addr), PG (X.blk s H sc (compEnvC sc cl C X.env) fp) tg g) (ht : ∀ (s : Shared) (H : Hp) (C : Addr) (cl : List (PySem.Str × Addr)) (fp : List Addr), PTs (X.blk s H sc (compEnvC sc cl C X.env) fp) ifs tt)
    (he : ∀ (s : Shared) (H : Hp) (C : Addr) (cl : List (PySem.Str × Addr)) (fp : List Addr), PE (X.blk s H sc (compEnvC sc cl C X.env) fp) elt te) (fold : ∀ x, foldedSetIterable iter X.env x = pure x := by intro _; rfl) :
    PE X (.SetComp elt [⟨tg, iter, ifs, 0⟩] sc p1) (tSg O Ad wi g tt te (own.map (·.2))) := by
  refine ⟨fun pins s σ H Q I h => ?_⟩
  rw [eval_SetComp]
  refine sg_core SR calm nodup I hi bk hg ht he fold h fun D C s' m H' I' q ns f => ⟨m, ns, fun h'' sb => ⟨.ref D, H', ?_, rfl, q⟩⟩
  exact I'.turned (t' := s'.toks) (fun b o hb e => (sb.2 b hb).trans e) f.1 f.2.1 f.2.2.2.1 f.2.2.2.2.1 f.2.2.2.2.2
end
end NS

namespace Db
open PySem L2 Evl StX NS PyProof.Rows
/-! ### sets of what came: three tuples of worths -/
abbrev T3 := List Nat × List Nat × List Nat
def kN (l : List Nat) : NestedKey := .tup (l.map fun (n : Nat) => NestedKey.num (n : Int))
def kOf (x : T3) : NestedKey := .tup [kN x.1, kN x.2.1, kN x.2.2]
def nums : List NestedKey → List Nat := List.map fun k => match k with | .num i => i.toNat | _ => 0
def unK : NestedKey → T3
  | .tup [.tup a, .tup b, .tup c] => (nums a, nums b, nums c)
  | _ => ([], [], [])
theorem nums_k (l : List Nat) : nums (l.map fun (n : Nat) => NestedKey.num (n : Int)) = l := by
  unfold nums
  rw [List.map_map]
  conv => rhs; rw [← List.map_id l]
  exact List.map_congr_left fun n _ => rfl
theorem unK_k (x : T3) : unK (kOf x) = x := by
  obtain ⟨a, b, c⟩ := x
  show (nums _, nums _, nums _) = _
  rw [nums_k, nums_k, nums_k]
theorem kOf_inj {x y : T3} (h : kOf x = kOf y) : x = y := by rw [← unK_k x, h, unK_k]
def enc3 (x : T3) : PyData := .tuple [.tuple (wD x.1), .tuple (wD x.2.1), .tuple (wD x.2.2)]
def NT (K : PySem.W.Frag) (H : Hp) (b : Addr) (x : T3) : Prop := ∃ s o m : Addr, SqT K H b [.ref s, .ref o, .ref m] ∧ SqT K H s (x.1.map wV) ∧ SqT K H o (x.2.1.map wV) ∧ SqT K H m (x.2.2.map wV)
theorem NT.mono {K : PySem.W.Frag} {H H' : Hp} {b : Addr} {x : T3} (e : Ex H H') (h : NT K H b x) : NT K H' b x := by
  obtain ⟨s, o, m, h1, h2, h3, h4⟩ := h
  exact ⟨s, o, m, ex_t e h1, ex_t e h2, ex_t e h3, ex_t e h4⟩
theorem NT.of {K : PySem.W.Frag} {H : Hp} {v : V} {S : Sts} (h : Told3 K H v S) : ∃ b, v = .ref b ∧ NT K H b (t3 S) := by
  obtain ⟨t, s, o, m, rfl, h1, h2, h3, h4⟩ := h
  exact ⟨t, rfl, s, o, m, h1, h2, h3, h4⟩
theorem NT.dp {K : PySem.W.Frag} {H : Hp} {b : Addr} {x : T3} (h : NT K H b x) : Dp K H (.ref b) (enc3 x) := by
  obtain ⟨s, o, m, h1, h2, h3, h4⟩ := h
  exact .tup h1 (.cons (.tup h2 (dpa_w _)) (.cons (.tup h3 (dpa_w _)) (.cons (.tup h4 (dpa_w _)) .nil)))
theorem ints_of {h : Heap} : ∀ {l : List Nat} {us : List Value}, Vals (l.map wV) us → NestedAll h (l.map fun (n : Nat) => NestedKey.num (n : Int)) us ∧ (∀ v ∈ us, ∃ (i : Int) (t : Tok), v = .int i t) ∧ ReadsAll h us (wD l) []
  | [], _, .nil => ⟨.nil, (fun _ z => nomatch z), .nil⟩
  | n :: r, _, .cons a t => by
    obtain ⟨tk, e⟩ := (show ∃ t, _ = Value.int (n : Int) t from a)
    subst e
    obtain ⟨h1, h2, h3⟩ := ints_of (h := h) t
    exact ⟨.cons (.int _ _) h1, (fun v hv => by
      rcases List.mem_cons.mp hv with rfl | hv
      · exact ⟨_, _, rfl⟩
      · exact h2 v hv), .cons (as := []) (bs := []) (.int _ _) h3⟩
section
variable {X : Cx} {pins : List (Addr × Obj)} {σ : L2.St} {H : Hp} {s : Shared}
/-- in the heap: the key, plain, read as data -/
theorem heap_l (I : Inv X pins σ H s) {b : Addr} {l : List Nat} (h : SqT X.K H b (l.map wV)) : NestedIs s.heap (kN l) (.ref b) ∧ (∀ n, Plain s.heap (n + 1) (.ref b)) ∧ Reads s.heap (.ref b) (.tuple (wD l)) [] := by
  obtain ⟨its, r, ⟨o, ho, hc, n, hd⟩, _⟩ := I.tuple h
  obtain ⟨h1, h2, h3⟩ := ints_of (h := s.heap) r
  refine ⟨.tup ho hc hd (by simpa using h1), fun m => .tup ho hc hd fun v hv => ?_, .tuple ho hc hd (by simpa using h3)⟩
  obtain ⟨i, t, rfl⟩ := h2 v (by simpa using hv)
  exact .int _ i t
theorem kN_depth (l : List Nat) : (kN l).depth ≤ 1 := by
  have z : NestedKey.depthAll (l.map fun (n : Nat) => NestedKey.num (n : Int)) = 0 := by
    induction l with
    | nil => rfl
    | cons n r ih => rw [List.map_cons, NestedKey.depthAll, ih]; rfl
  unfold kN
  rw [NestedKey.depth, z]
  exact Nat.le_refl _
theorem heap_3 (I : Inv X pins σ H s) {b : Addr} {x : T3} (h : NT X.K H b x) : IsN X.prog X.w s.heap (kOf x) b ∧ Reads s.heap (.ref b) (enc3 x) [] := by
  obtain ⟨s1, o1, m1, h1, h2, h3, h4⟩ := h
  obtain ⟨a1, a2, a3⟩ := heap_l I h2
  obtain ⟨b1, b2, b3⟩ := heap_l I h3
  obtain ⟨c1, c2, c3⟩ := heap_l I h4
  obtain ⟨its, r, ⟨o, ho, hc, n, hd⟩, _⟩ := I.tuple h1
  have ei : its = [.ref s1, .ref o1, .ref m1] := by
    cases r with
    | cons r1 r =>
      cases r with
      | cons r2 r =>
        cases r with
        | cons r3 r =>
          cases r
          cases (show _ = Value.ref s1 from r1)
          cases (show _ = Value.ref o1 from r2)
          cases (show _ = Value.ref m1 from r3)
          rfl
  subst ei
  refine ⟨⟨⟨.tup ho hc hd (.cons a1 (.cons b1 (.cons c1 .nil))), ?_⟩, .tup ho hc hd fun v hv => ?_⟩, .tuple ho hc hd (.cons (as := []) (bs := []) a3 (.cons (as := []) (bs := []) b3 (.cons (as := []) (bs := []) c3 .nil)))⟩
  · have d1 := kN_depth x.1
    have d2 := kN_depth x.2.1
    have d3 := kN_depth x.2.2
    unfold kOf
    simp only [NestedKey.depth, NestedKey.depthAll]
    omega
  · simp only [List.mem_cons, List.not_mem_nil, or_false] at hv
    rcases hv with rfl | rfl | rfl
    · exact a2 5
    · exact b2 5
    · exact c2 5
end
def rowK (L : List (Addr × T3)) : List (Addr × NestedKey) := L.map fun p => (p.1, kOf p.2)
theorem rowK_keys (L : List (Addr × T3)) : (rowK L).map (·.2) = (L.map (·.2)).map kOf := by
  unfold rowK
  rw [List.map_map, List.map_map]
  rfl
theorem mem_rowK {L : List (Addr × T3)} {x : T3} : kOf x ∈ (rowK L).map (·.2) ↔ x ∈ L.map (·.2) := by
  rw [rowK_keys]
  constructor
  · intro h
    obtain ⟨y, h1, h2⟩ := List.mem_map.mp h
    rwa [← kOf_inj h2]
  · exact fun h => List.mem_map.mpr ⟨x, h, rfl⟩
def unRow (M : List (Addr × NestedKey)) : List (Addr × T3) := M.map fun p => (p.1, unK p.2)
theorem unRow_k (L : List (Addr × T3)) : unRow (rowK L) = L := by
  unfold unRow rowK
  rw [List.map_map]
  conv => rhs; rw [← List.map_id L]
  exact List.map_congr_left fun p _ => by
    show (p.1, unK (kOf p.2)) = p
    rw [unK_k]
theorem row_perm {M : List (Addr × NestedKey)} {L : List (Addr × T3)} (h : M.Perm (rowK L)) : rowK (unRow M) = M ∧ (unRow M).Perm L := by
  refine ⟨?_, ?_⟩
  · unfold rowK unRow
    rw [List.map_map]
    conv => rhs; rw [← List.map_id M]
    refine List.map_congr_left fun p hp => ?_
    obtain ⟨q, _, rfl⟩ := List.mem_map.mp (h.mem_iff.mp hp)
    show (q.1, kOf (unK (kOf q.2))) = (q.1, kOf q.2)
    rw [unK_k]
  · have z := h.map fun p => ((p.1, unK p.2) : Addr × T3)
    have e : (rowK L).map (fun p => ((p.1, unK p.2) : Addr × T3)) = L := unRow_k L
    rw [e] at z
    exact z
/-- the set at a -/
def SetQ (P : Program) (w : World) (h : Heap) (a : Addr) (L : List (Addr × T3)) : Prop := ∃ es ep t, SetN P w h a (rowK L) es ep t ∧ Msk t.mask
def SetO (P : Program) (w : World) (a : Addr) (L : List (Addr × T3)) : HO := .ext fun h => SetQ P w h a L
theorem SetQ.at {P : Program} {w : World} {h h' : Heap} {a : Addr} {L : List (Addr × T3)} (R : SetQ P w h a L) (k : ∀ o, h.get? a = some o → h'.get? a = some o) : SetQ P w h' a L := by
  obtain ⟨es, ep, t, R, m⟩ := R
  obtain ⟨o, ho, h1, h2⟩ := R.obj
  exact ⟨es, ep, t, ⟨⟨o, k o ho, h1, h2⟩, R.rows, R.tb, R.nd, R.plain, R.led, R.room⟩, m⟩
theorem setO_ok {P : Program} {w : World} {H : Hp} {h : Heap} {a : Addr} {L : List (Addr × T3)} (R : SetQ P w h a L) : ObjOk P w H h a (SetO P w a L) := by
  have ⟨_, _, _, R1, _⟩ := R
  obtain ⟨o, ho, _⟩ := R1.obj
  exact ⟨R, ⟨o, ho⟩, fun h1 h2 p k => SetQ.at p k⟩
theorem setO_ne {P : Program} {w : World} {a : Addr} {L : List (Addr × T3)} {xs : List V} : SetO P w a L ≠ .lst xs := fun z => by
  unfold SetO at z
  cases z
theorem setO_net {P : Program} {w : World} {a : Addr} {L : List (Addr × T3)} {xs : List V} : SetO P w a L ≠ .tup xs := fun z => by
  unfold SetO at z
  cases z
/-- what is added -/
def AdN (P : Program) (w : World) (K : PySem.W.Frag) (y : V) (D : Addr) (H : Hp) (N : Hp → Prop) : Prop := ∃ (b : Addr) (x : T3) (L : List (Addr × T3)), y = .ref b ∧ NT K H b x ∧ H D = some (SetO P w D L) ∧ (∀ p ∈ L, NT K H p.1 p.2) ∧ L.length + 1 ≤ 1000 ∧
  ∀ M : List (Addr × T3), (x ∈ L.map (·.2) → M = L) → (x ∉ L.map (·.2) → M.Perm ((b, x) :: L)) → N (upd H D (SetO P w D M))
theorem rule_N {X : Cx} (hu : X.A.units + 64 < cLine) : SetRule X (fun a => SetO X.prog X.w a []) (AdN X.prog X.w X.K) := by
  refine ⟨fun H h => setO_ok ⟨#[], 0, _, setN_new (Heap.get?_push_size _ rfl), .inl rfl⟩, ?_⟩
  intro s0 H0 sc ce fp pins σ H s y u D N Q E I ry ad hQ
  obtain ⟨b, x, L, rfl, hb, hD, hL, few, hN⟩ := ad
  cases (show u = Value.ref b from ry)
  obtain ⟨es, ep, t, R, msk⟩ : SetQ X.prog X.w s.heap D L := (I.hok D _ hD).1
  obtain ⟨hx, _⟩ := heap_3 (X := X.blk s0 H0 sc ce fp) I hb
  have all : ∀ p ∈ rowK L, IsN X.prog X.w s.heap p.2 p.1 := fun p hp => by
    obtain ⟨q, hq, rfl⟩ := List.mem_map.mp hp
    exact (heap_3 (X := X.blk s0 H0 sc ce fp) I (hL q hq)).1
  obtain ⟨o, ho, hex, hd⟩ := R.obj
  refine wpAny_call_entry F.slot_set_add ⟨o, ho, hex.1⟩ F.entry_set_add ?_ (F.args_set_add_2 _ _)
  unfold Builtin.«set.add» Builtin.Frozenset.oneOther
  simp only [List.isEmpty_nil, bind_assoc]
  unfold Builtin.Frozenset.addrOf setAdd
  refine wpAny_bind (wpAny_pure ?_)
  try dsimp only
  refine wpAny_bind (wpAny_pure ?_)
  try dsimp only
  refine wpAny_bind (wpAny_holding (wpAny_bind ((nestedKind X.prog X.w).pyHash ?_ hx.is ?_)))
  · show _ + 8 < cLine
    first
      | (rw [Around.in1_units]; omega)
      | omega
  refine add (s := { s with toks := s.toks + (nestedKind X.prog X.w).draws (kOf x) }) R msk all hx ?_ (by unfold rowK; rw [List.length_map]; exact few) fun bb h' M es' ep' t' sb R' msk' there new => ?_
  · show _ + 8 < cLine
    first
      | (rw [Around.in1_units]; omega)
      | omega
  show wpAny _ _ (ret Value.none) _ _ _
  have eM : ∃ M3 : List (Addr × T3), rowK M3 = M ∧ (x ∈ L.map (·.2) → M3 = L) ∧ (x ∉ L.map (·.2) → M3.Perm ((b, x) :: L)) := by
    by_cases c : x ∈ L.map (·.2)
    · exact ⟨L, (there (mem_rowK.mpr c)).symm, fun _ => rfl, fun z => absurd c z⟩
    · have z := new (fun q => c (mem_rowK.mp q))
      obtain ⟨z1, z2⟩ := row_perm (L := (b, x) :: L) z
      exact ⟨_, z1, fun q => absurd q c, fun _ => z2⟩
  obtain ⟨M3, rfl, e2, e3⟩ := eM
  have new' : SetQ X.prog X.w h' D M3 := ⟨es', ep', t', R', msk'⟩
  obtain ⟨o', ho', _⟩ := R'.obj
  refine wpAny_pure ⟨_, rfl, hQ _ _ (I.write (e := D) (t' := s.toks + (nestedKind X.prog X.w).draws (kOf x)) (by rw [hD]; trivial) (.inl rfl) (fun b u hb hu => (sb.2 b hb).trans hu) ⟨o', ho'⟩ (setO_ok new')) (hN M3 e2 e3)⟩
end Db

namespace Db
open PySem L2 Evl StX NS PyProof.Rows PySem.W
theorem perm_map_ex {α β : Type} {f : α → β} : ∀ {l' : List β} {l : List α}, l'.Perm (l.map f) → ∃ m : List α, m.Perm l ∧ m.map f = l'
  | [], l, h => by
    have z := h.length_eq
    simp only [List.length_nil, List.length_map] at z
    exact ⟨[], by rw [List.length_eq_zero_iff.mp z.symm], rfl⟩
  | v :: r, l, h => by
    obtain ⟨x, hx, rfl⟩ := List.mem_map.mp (h.mem_iff.mp (by simp : v ∈ v :: r))
    obtain ⟨s, t, rfl⟩ := List.append_of_mem hx
    have h1 : (f x :: r).Perm (f x :: (s ++ t).map f) := h.trans (by rw [List.map_append, List.map_cons, List.map_append]; exact List.perm_middle)
    obtain ⟨m, m1, m2⟩ := perm_map_ex h1.cons_inv
    exact ⟨x :: m, (m1.cons x).trans List.perm_middle.symm, by rw [List.map_cons, m2]⟩
def le3 (x y : T3) : Bool := !PySem.W.dataLt (enc3 y) (enc3 x)
def Srt (L : List (Addr × T3)) : Prop := L.Pairwise fun p q => le3 p.2 q.2 = true
theorem alike_w : ∀ a b : List Nat, PySem.W.alikeAll (wD a) (wD b) = true
  | [], _ => by simp [wD, PySem.W.alikeAll]
  | _ :: _, [] => by simp [wD, PySem.W.alikeAll]
  | x :: a, y :: b => by
    show PySem.W.alikeAll (.int x :: wD a) (.int y :: wD b) = true
    rw [PySem.W.alikeAll, alike_w a b]
    simp [PySem.W.alike]
theorem alike_3 (x y : T3) : PySem.W.alike (enc3 x) (enc3 y) = true := by
  unfold enc3
  simp only [PySem.W.alike, PySem.W.alikeAll, alike_w]
  rfl
theorem depth_w (a : List Nat) : PyData.depthAll (wD a) = 0 := by
  induction a with
  | nil => simp [wD, PyData.depthAll]
  | cons n r ih =>
    show PyData.depthAll (.int n :: wD r) = 0
    rw [PyData.depthAll, ih]
    simp [PyData.depth]
theorem depth_3 (x : T3) : (enc3 x).depth = 2 := by
  unfold enc3
  simp only [PyData.depth, PyData.depthAll, depth_w]
  rfl
/-- sorted(set): a new list, rising -/
def rSortedN (P : Program) (w : World) (K : PySem.W.Frag) : List V → Hp → VK → Prop := fun vs H Q => ∃ (a : Addr) (L : List (Addr × T3)), vs = [V.ref a] ∧ H a = some (SetO P w a L) ∧ (∀ p ∈ L, NT K H p.1 p.2) ∧ L.length ≤ 1000 ∧
  ∀ (M : List (Addr × T3)) (p : Addr), M.Perm L → Srt M → (M.map (·.2)).Nodup → H p = none → Q (.ref p) (upd H p (.lst (M.map fun q => V.ref q.1)))
theorem refs_vals : ∀ M : List (Addr × T3), Vals (M.map fun q => V.ref q.1) (M.map fun q => Value.ref q.1)
  | [] => .nil
  | _ :: r => .cons rfl (refs_vals r)
theorem each_refs : ∀ M : List (Addr × T3), PySem.W.EachIs (fun v (p : Addr × T3) => v = Value.ref p.1) (M.map fun q => Value.ref q.1) M
  | [] => .nil
  | _ :: r => .cons rfl (each_refs r)
theorem each_out : ∀ {out : List Value} {M : List (Addr × T3)}, PySem.W.EachIs (fun v (p : Addr × T3) => v = Value.ref p.1) out M → out = M.map fun q => Value.ref q.1
  | _, _, .nil => rfl
  | _, _, .cons e h => by rw [e, each_out h]; rfl
theorem cr_sortedN {X : Cx} (calm : X.calm = true) (hu : X.A.units + 64 < cLine) : CallR X (.builtin "sorted") (rSortedN X.prog X.w X.K) := by
  intro pins s σ H vs us Q I r h
  obtain ⟨a, L, rfl, ha, hL, few, q⟩ := h
  rw [Vals.ref1 r]
  obtain ⟨es, ep, t, R, msk⟩ : SetQ X.prog X.w s.heap a L := (I.hok a _ ha).1
  obtain ⟨o, ho, hex, hd⟩ := R.obj
  have sz : es.size = L.length := by rw [R.size]; exact List.length_map ..
  refine Calls.call_function_entry kind_sorted plain_sorted entry_sorted (args_sorted1 _) ?_
  unfold Builtin.«sorted»
  refine wpAny_bind (m := checkCount "sorted" 1 1 _) (wpAny_pure ?_)
  refine wpAny_bind (collect_set (I.ok.hd calm) ⟨o, ho, hex.1, hd⟩ R.fits (by unfold scanBound; omega) R.tb.up R.led fun s1 vs k1 hz g1 o1 pm => ?_)
  have rows : es.toList.map (·.2) = L.map fun p => Value.ref p.1 := by
    rw [R.rows]
    unfold rowsN rowK
    rw [List.map_map, List.map_map]
    rfl
  rw [rows] at pm
  obtain ⟨L1, p1, e1⟩ := perm_map_ex (f := fun p : Addr × T3 => Value.ref p.1) pm
  subst e1
  have nL : (L.map (·.2)).Nodup := by
    have z := R.nd
    rw [rowK_keys] at z
    exact List.Pairwise.of_map kOf (fun x y ne e => ne (by rw [e])) z
  refine wpAny_bind (wpAny_newList ?_ (by rw [sizeLine_eq, List.length_map, p1.length_eq]; omega))
  have hp : (s1.heap.push (seqObj "list" (L1.map fun p => Value.ref p.1).toArray 0)).get? s1.heap.objs.size = some (seqObj "list" (L1.map fun p => Value.ref p.1).toArray 0) := Heap.get?_push_size _ rfl
  have rd : ∀ p ∈ L1, Reads (s1.heap.push (seqObj "list" (L1.map fun p => Value.ref p.1).toArray 0)) (.ref p.1) (enc3 p.2) [] := fun p hp =>
    PyProof.Rows.Reads.keeps (fun b o e => Heap.get?_push_of_some _ (k1 b o e)) (heap_3 I (hL p (p1.mem_iff.mp hp))).2
  have er : ∀ M : List (Addr × T3), (∀ p ∈ M, p ∈ L1) → PySem.W.EachIs (fun v p => ∃ as, Reads (s1.heap.push (seqObj "list" (L1.map fun p => Value.ref p.1).toArray 0)) v (enc3 p.2) as ∧ s1.heap.objs.size ∉ as) (M.map fun p => Value.ref p.1) M := fun M => by
    induction M with
    | nil => exact fun _ => .nil
    | cons p M ih => exact fun hM => .cons ⟨[], rd p (hM p (by simp)), by simp⟩ (ih fun p' hp' => hM p' (by simp [hp']))
  refine wpAny_bind (wpAny_holding (list_sort_data (s := { s1 with heap := s1.heap.push (seqObj "list" (L1.map fun p => Value.ref p.1).toArray 0) }) (enc := fun p : Addr × T3 => enc3 p.2) hp (each_refs L1) (er L1 fun _ h => h) (AllAlike.of fun p p' => alike_3 _ _) (Sortable.tuples fun p => ⟨_, _, rfl⟩) (by rw [sizeLine_eq, p1.length_eq]; omega) (fun p _ => ?_) fun out hout eo => ?_))
  · rw [depth_3]
    first
      | (simp only [Around.in1_units]; omega)
      | omega
  have eo' := each_out eo
  have pM : (L1.mergeSort (dataLe false fun p : Addr × T3 => enc3 p.2)).Perm L := (List.mergeSort_perm _ _).trans p1
  have srt0 : (L1.mergeSort (dataLe false fun p : Addr × T3 => enc3 p.2)).Pairwise (fun a b => dataLe false (fun p : Addr × T3 => enc3 p.2) a b = true) := sort_pairwise (sortLe_total _ _ _) L1
  have srt : Srt (L1.mergeSort (dataLe false fun p : Addr × T3 => enc3 p.2)) := srt0
  generalize L1.mergeSort (dataLe false fun p : Addr × T3 => enc3 p.2) = M at eo' pM srt
  subst eo'
  obtain ⟨c, hc⟩ := sortedHeap_at (out := (M.map fun p => Value.ref p.1).toArray) hp
  have kept : ∀ b o, s.heap.get? b = some o → (sortedHeap (s1.heap.push (seqObj "list" (L1.map fun p => Value.ref p.1).toArray 0)) s1.heap.objs.size (L1.map fun p => Value.ref p.1) (M.map fun p => Value.ref p.1).toArray).get? b = some o := fun b o e => by
    have e1 := k1 b o e
    have lt := Heap.lt_size e1
    rw [sortedHeap_old (Nat.ne_of_lt lt) (by rw [size_push']; exact Nat.lt_succ_of_lt lt)]
    exact Heap.get?_push_of_some _ e1
  have free : H s1.heap.objs.size = none := I.hok.fresh hz
  have len : (M.map fun p => V.ref p.1).length ≤ sizeLine := by rw [List.length_map, pM.length_eq, sizeLine_eq]; omega
  have J : Inv X pins σ (upd H s1.heap.objs.size (.lst (M.map fun p => V.ref p.1))) { s with heap := sortedHeap (s1.heap.push (seqObj "list" (L1.map fun p => Value.ref p.1).toArray 0)) s1.heap.objs.size (L1.map fun p => Value.ref p.1) (M.map fun p => Value.ref p.1).toArray, gens := s1.gens, drawn := s1.drawn, toks := s1.toks } :=
    I.call (ch := []) (Un.laid kept hz free) (I.hok.laid kept hz ⟨len, _, c, refs_vals M, hc⟩) (by rw [g1]; exact I.bare) (fun _ z => nomatch z)
  refine wpAny_pure ⟨_, rfl, .ref s1.heap.objs.size, _, ?_, rfl, q M _ pM srt ((pM.map (·.2)).nodup_iff.mpr nL) free⟩
  have e : ∀ hh, ({ s1 with heap := hh } : Shared) = { s with heap := hh, gens := s1.gens, drawn := s1.drawn, toks := s1.toks } := fun hh => by
    cases s1
    cases s
    cases o1
    rfl
  exact e _ ▸ J
end Db

namespace Db
open PySem L2 Evl StX NS PyProof.Rows
/-! ### all orders -/
def ordNext (a b : Nat) (o : List Bool) : List (List Bool) := ([false, true].filter fun d => decide (o.count d < if d then b else a)).map fun d => o ++ [d]
def ordersTo (a b : Nat) : Nat → List (List Bool)
  | 0 => [[]]
  | n + 1 => (ordersTo a b n).flatMap (ordNext a b)
def ordersD (a b : Nat) : List (List Bool) := ordersTo a b (a + b)
theorem ordNext_mem {a b : Nat} {o u : List Bool} : u ∈ ordNext a b o ↔ ∃ d : Bool, u = o ++ [d] ∧ o.count d < if d then b else a := by
  unfold ordNext
  constructor
  · intro h
    obtain ⟨d, h1, rfl⟩ := List.mem_map.mp h
    exact ⟨d, rfl, of_decide_eq_true (List.mem_filter.mp h1).2⟩
  · rintro ⟨d, rfl, h⟩
    exact List.mem_map.mpr ⟨d, List.mem_filter.mpr ⟨by cases d <;> simp, decide_eq_true h⟩, rfl⟩
theorem count_snoc (o : List Bool) (c d : Bool) : (o ++ [d]).count c = o.count c + if d = c then 1 else 0 := by
  rw [List.count_append, List.count_singleton]
  cases c <;> cases d <;> rfl
theorem ordersTo_mem {a b : Nat} : ∀ {n : Nat} {o : List Bool}, o ∈ ordersTo a b n ↔ o.length = n ∧ o.count false ≤ a ∧ o.count true ≤ b
  | 0, o => by
    show o ∈ [[]] ↔ _
    rw [List.mem_singleton]
    constructor
    · rintro rfl
      exact ⟨rfl, Nat.zero_le _, Nat.zero_le _⟩
    · exact fun h => List.length_eq_zero_iff.mp h.1
  | n + 1, o => by
    show o ∈ (ordersTo a b n).flatMap (ordNext a b) ↔ _
    rw [List.mem_flatMap]
    constructor
    · rintro ⟨u, h1, h2⟩
      obtain ⟨d, rfl, h3⟩ := ordNext_mem.mp h2
      obtain ⟨k1, k2, k3⟩ := ordersTo_mem.mp h1
      rw [count_snoc, count_snoc, List.length_append, k1]
      refine ⟨rfl, ?_, ?_⟩
      · cases d
        · have h3 : u.count false < a := h3; simp; omega
        · simpa using k2
      · cases d
        · simpa using k3
        · have h3 : u.count true < b := h3; simp; omega
    · rintro ⟨h1, h2, h3⟩
      have hne : o ≠ [] := by rintro rfl; cases h1
      obtain ⟨u, d, rfl⟩ : ∃ u d, o = u ++ [d] := ⟨_, _, (List.dropLast_concat_getLast hne).symm⟩
      rw [count_snoc] at h2 h3
      rw [List.length_append] at h1
      have h1 : u.length + 1 = n + 1 := h1
      refine ⟨u, ordersTo_mem.mpr ⟨by omega, by omega, by omega⟩, ordNext_mem.mpr ⟨d, rfl, ?_⟩⟩
      cases d
      · show u.count false < a
        simp at h2
        omega
      · show u.count true < b
        simp at h3
        omega
theorem ordersD_mem {a b : Nat} {o : List Bool} : o ∈ ordersD a b ↔ o.count false = a ∧ o.count true = b := by
  have z := cnt_both o
  unfold ordersD
  rw [ordersTo_mem]
  constructor
  · rintro ⟨h1, h2, h3⟩
    omega
  · rintro ⟨h1, h2⟩
    omega
theorem ordNext_len (a b : Nat) (o : List Bool) : (ordNext a b o).length ≤ 2 := by
  unfold ordNext
  rw [List.length_map]
  exact List.length_filter_le _ _
theorem flatMap_len {α β : Type} {f : α → List β} {m : Nat} : ∀ {l : List α}, (∀ x ∈ l, (f x).length ≤ m) → (l.flatMap f).length ≤ l.length * m
  | [], _ => Nat.zero_le _
  | x :: r, h => by
    have h1 := h x (by simp)
    have h2 := flatMap_len (l := r) fun y hy => h y (by simp [hy])
    rw [List.flatMap_cons, List.length_append, List.length_cons, Nat.succ_mul]
    omega
theorem ordersTo_len (a b : Nat) : ∀ n, (ordersTo a b n).length ≤ 2 ^ n
  | 0 => Nat.le_refl _
  | n + 1 => by
    have h1 := ordersTo_len a b n
    have h2 := flatMap_len (f := ordNext a b) (l := ordersTo a b n) (m := 2) fun o _ => ordNext_len a b o
    show ((ordersTo a b n).flatMap (ordNext a b)).length ≤ _
    rw [Nat.pow_succ]
    omega
theorem ordersD_few : ∀ a b : Nat, a ≤ 6 → b ≤ 6 → (ordersD a b).length ≤ 924 := by
  have h : ∀ a ∈ List.range 7, ∀ b ∈ List.range 7, (ordersD a b).length ≤ 924 := by decide +kernel
  exact fun a b ha hb => h a (List.mem_range.mpr (by omega)) b (List.mem_range.mpr (by omega))
theorem ord_at {a b : Nat} {l : List (List Bool)} {j : Nat} {o : List Bool} (h : l[j]? = some o) : (l.take (j + 1)).flatMap (ordNext a b) = (l.take j).flatMap (ordNext a b) ++ ordNext a b o := by
  rw [List.take_add_one, h, List.flatMap_append]
  simp
/-- what comes by an order -/
def res (ws : List Nat) (ds es : List Deed) (o : List Bool) : T3 := t3 (fol o (begin0 ws ds es))
def firstD (ws : List Nat) (ds es : List Deed) (x : T3) : Option (List Bool) := (ordersD ds.length es.length).find? fun o => decide (res ws ds es o = x)
theorem eqv_3 (x y : T3) : PyData.eqv (enc3 x) (enc3 y) = decide (x = y) := by
  obtain ⟨a, b, c⟩ := x
  obtain ⟨d, e, f⟩ := y
  unfold enc3
  simp only [PyData.eqv, PyData.eqvAll, eqvA_w, Bool.and_true]
  rw [← Bool.decide_and, ← Bool.decide_and]
  exact decide_eq_decide.mpr (by simp only [Prod.mk.injEq])
theorem sh_3 (x : T3) : Sh 2 (enc3 x) := sh_tup fun d hd => by
  simp only [List.mem_cons, List.not_mem_nil, or_false] at hd
  rcases hd with rfl | rfl | rfl <;> exact sh_wT _
theorem sqt_upd {K : PySem.W.Frag} {H : Hp} {D a : Addr} {o o' : HO} {xs : List V} (h : H D = some o) (n1 : ∀ ys, o ≠ .tup ys) (n2 : ∀ z u, o ≠ .frz z u) (q : SqT K H a xs) : SqT K (upd H D o') a xs := by
  have ne : ∀ o2, H a = some o2 → o2 ≠ o → a ≠ D := by
    rintro o2 e n rfl
    rw [h] at e
    exact n (Option.some.inj e).symm
  rcases q with (q | ⟨z, q⟩) | q
  · exact .inl (.inl (by rw [upd_ne (ne _ q (n1 _).symm)]; exact q))
  · exact .inl (.inr ⟨z, by rw [upd_ne (ne _ q (n2 _ _).symm)]; exact q⟩)
  · exact .inr q
theorem setO_nef {P : Program} {w : World} {a : Addr} {L : List (Addr × T3)} {z : Obj} {u : HO} : SetO P w a L ≠ .frz z u := fun e => by
  unfold SetO at e
  cases e
theorem NT.set {K : PySem.W.Frag} {H : Hp} {D b : Addr} {x : T3} {P : Program} {w : World} {L : List (Addr × T3)} {o' : HO} (h : H D = some (SetO P w D L)) (q : NT K H b x) : NT K (upd H D o') b x := by
  obtain ⟨s, o, m, h1, h2, h3, h4⟩ := q
  have n1 : ∀ ys, SetO P w D L ≠ .tup ys := fun _ => setO_net
  have n2 : ∀ z u, SetO P w D L ≠ .frz z u := fun _ _ => setO_nef
  exact ⟨s, o, m, sqt_upd h n1 n2 h1, sqt_upd h n1 n2 h2, sqt_upd h n1 n2 h3, sqt_upd h n1 n2 h4⟩
/-- x not in a list of such -/
def rNotInN (K : PySem.W.Frag) : R2 := fun x y H Q => ∃ (b : Addr) (k : T3) (l : Addr) (M : List (Addr × T3)), x = .ref b ∧ NT K H b k ∧ y = .ref l ∧ SqL K H l (M.map fun p => V.ref p.1) ∧ (∀ p ∈ M, NT K H p.1 p.2) ∧ Q (.bl (!decide (k ∈ M.map (·.2)))) H
theorem plain_w (a : List Nat) : PyData.plainAll (wD a) = true := by
  induction a with
  | nil => rfl
  | cons n r ih =>
    show PyData.plainAll (.int n :: wD r) = true
    rw [PyData.plainAll, ih]
    rfl
theorem plain_3 (x : T3) : (enc3 x).plain = true := by
  unfold enc3
  simp only [PyData.plain, PyData.plainAll, plain_w]
  rfl
theorem plain_3s : ∀ M : List (Addr × T3), PyData.plainAll (M.map fun p => enc3 p.2) = true
  | [] => rfl
  | p :: r => by
    rw [List.map_cons, PyData.plainAll, plain_3, plain_3s r]
    rfl
theorem depth_3s : ∀ M : List (Addr × T3), PyData.depthAll (M.map fun p => enc3 p.2) ≤ 2
  | [] => Nat.zero_le _
  | p :: r => by
    rw [List.map_cons, PyData.depthAll, depth_3]
    exact Nat.max_le.mpr ⟨Nat.le_refl _, depth_3s r⟩
theorem any_3 (k : T3) : ∀ M : List (Addr × T3), ((M.map fun p => enc3 p.2).any fun y => PyData.eqv y (enc3 k)) = decide (k ∈ M.map (·.2))
  | [] => rfl
  | p :: r => by
    rw [List.map_cons, List.any_cons, any_3 k r, eqv_3, List.map_cons, ← Bool.decide_or]
    exact decide_eq_decide.mpr (by rw [List.mem_cons]; exact or_congr_left eq_comm)
theorem op_notInN {X : Cx} (calm : X.calm = true) (hu : X.A.units + 64 < cLine) : OpR X (compareOp .NotIn) (rNotInN X.K) := by
  intro pins s σ H x y v u Q I rx ry h
  obtain ⟨b, k, l, M, rfl, hb, rfl, hl, hM, q⟩ := h
  cases (show v = Value.ref b from rx)
  cases (show u = Value.ref l from ry)
  obtain ⟨its, rv, pl, hz⟩ := I.list hl
  have ei : its = M.map fun p => Value.ref p.1 := by
    have key : ∀ (M : List (Addr × T3)) (its : List Value), Vals (M.map fun p => V.ref p.1) its → its = M.map fun p => Value.ref p.1 := fun M => by
      induction M with
      | nil => intro its r; cases r; rfl
      | cons p M ih =>
        intro its r
        cases r with
        | cons a t =>
          cases (show _ = Value.ref p.1 from a)
          rw [ih _ t]
          rfl
    exact key M its rv
  subst ei
  have all : ∀ M' : List (Addr × T3), (∀ p ∈ M', NT X.K H p.1 p.2) → ReadsAll s.heap (M'.map fun p => Value.ref p.1) (M'.map fun p => enc3 p.2) [] := fun M' => by
    induction M' with
    | nil => exact fun _ => .nil
    | cons p M' ih => exact fun hM' => .cons (as := []) (bs := []) (heap_3 I (hM' p (by simp))).2 (ih fun p' hp' => hM' p' (by simp [hp']))
  obtain ⟨o, ho, hc, n, hd⟩ := pl.isList
  have rl : Reads s.heap (.ref l) (.list (M.map fun p => enc3 p.2)) [l] := .list ho hc hd (by simpa using all M hM)
  refine PySem.SeqAt.notIn_list_data rl (heap_3 I hb).2 (plain_3s M) (plain_3 k) ?_ ⟨.bl _, H, I, rfl, ?_⟩
  · have z := depth_3s M
    have : min (PyData.depthAll (M.map fun p => enc3 p.2)) (enc3 k).depth ≤ 2 := Nat.le_trans (Nat.min_le_left _ _) z
    omega
  · rw [any_3]
    exact q
structure NbS (mg : Str → Option Value) : Prop where
  n_sorted : mg "sorted" = none
  n_all : mg "all" = none
theorem nbs_mk {K : PySem.W.Frag} {h : Heap} {mg : Str → Option Value} (X : K.In h) (G : h.Ns mainGlobals mg) (h1 : PySem.W.nsIn K mainGlobals "sorted" = some none) (h2 : PySem.W.nsIn K mainGlobals "all" = some none) : NbS mg := ⟨PySem.W.mg_none_of X G h1, PySem.W.mg_none_of X G h2⟩
structure TxO6 (mg : Str → Option Value) (t6 : Tok) : Prop where
  g_MOST_TO_ORDER : mg "MOST_TO_ORDER" = some (.int 6 t6)
theorem txo6_mk {K : PySem.W.Frag} {h : Heap} {mg : Str → Option Value} {t6 : Tok} (X : K.In h) (G : h.Ns mainGlobals mg) (a1 : PySem.W.nsIn K mainGlobals "MOST_TO_ORDER" = some (some (.int 6 t6))) : TxO6 mg t6 := ⟨PySem.W.mg_of X G a1⟩
def manyK (a b : Nat) : List (Key × V) := [(.inr "l", .int (a : Int)), (.inr "r", .int (b : Int))]
theorem many_at (a b : Nat) (d : Bool) : valV (mergeK [] (manyK a b)) (.inr (oS [d])) = some (.int ((if d then b else a : Nat) : Int)) := by
  cases d with
  | false => rw [← oS_l]; rfl
  | true => rw [← oS_r]; rfl
theorem ev_dget {σ : L2.St} {H : Hp} {td ty : TE} {D : Addr} {kvs : List (Key × V)} {k : Key} {v : V} (ho : Ev td σ H (.ref D)) (hi : Ev ty σ H (kV k)) (hD : H D = some (.dK kvs)) (hv : valV kvs k = some v) : Ev (tDGet td ty) σ H v := fun H1 e Q q =>
  ho H1 e _ fun H2 e2 => hi H2 (e.trans e2) _ fun H3 e3 => ⟨D, v, rfl, by rw [← hv]; exact DGet.k (k := k) (((e.trans e2).trans e3) _ _ hD), q H3 (e2.trans e3)⟩
theorem find_at {α : Type} {f : α → Bool} : ∀ {l : List α} {j : Nat} {o : α}, l[j]? = some o → f o = true → (∀ u ∈ l.take j, f u = false) → l.find? f = some o
  | x :: r, 0, o, h, hf, _ => by
    cases h
    rw [List.find?_cons, hf]
  | x :: r, j + 1, o, h, hf, hn => by
    rw [List.find?_cons, hn x (by simp)]
    exact find_at (l := r) (j := j) (by simpa using h) hf fun u hu => hn u (by simp [hu])
theorem all_reps (n : Nat) : (List.replicate n true).all id = true := List.all_eq_true.mpr fun y hy => by rw [(List.mem_replicate.mp hy).2]; rfl
theorem ev_all {K : PySem.W.Frag} {σ : L2.St} {H : Hp} {te : TE} {bs : List Bool} (h : EvL te σ H (bs.map V.bl)) : Ev (tCB (rAll K) (tCons te tNil)) σ H (.bl (bs.all id)) := fun H1 e Q q => h H1 e _ fun p H2 np e2 hp => ⟨p, bs, rfl, SqL.of hp, q H2 e2⟩
end Db

namespace Db
open PySem L2 Evl StX NS
/-! ### each rule is an order -/
def Deed.isR : Deed → Bool
  | .rd _ => true
  | _ => false
/-- whether the right one comes first in a beat -/
def late (r : Rule) (d e : Deed) : Bool := if r = .new then d.isR || (d.isW && e.isW) else d.isW
def turned (r : Rule) (d e : Deed) : Bool := decide (r = .right) || ((decide (r = .old) || decide (r = .new)) && late r d e)
def beatO (r : Rule) (S : Sts) : List Bool :=
  if turned r (S.l.headD .rs) (S.r.headD .rs) = true then (if S.r ≠ [] ∧ waits r S = false then [true] else []) ++ (if S.l ≠ [] then [false] else [])
  else (if S.l ≠ [] then [false] else []) ++ (if S.r ≠ [] ∧ waits r S = false then [true] else [])
def byF (r : Rule) : Nat → Sts → List Bool
  | 0, _ => []
  | n + 1, S => if S.done then [] else beatO r S ++ byF r n (one r S)
def byO (r : Rule) (S : Sts) : List Bool := byF r S.meas S
theorem byF_more {r : Rule} : ∀ (n : Nat) (S : Sts), S.meas ≤ n → byF r n S = byF r S.meas S
  | 0, S, h => by
    have z : S.meas = 0 := by omega
    rw [z]
  | n + 1, S, h => by
    by_cases d : S.done
    · have z : S.meas = 0 := by
        obtain ⟨h1, h2⟩ := d
        unfold Sts.meas
        rw [h1, h2]
        rfl
      rw [z]
      show byF r (n + 1) S = []
      simp only [byF, if_pos d]
    · have less := one_less (r := r) d
      obtain ⟨m, hm⟩ : ∃ m, S.meas = m + 1 := ⟨S.meas - 1, by omega⟩
      rw [hm, byF, byF, if_neg d, if_neg d, byF_more n (one r S) (by omega), byF_more m (one r S) (by omega)]
theorem byO_done {r : Rule} {S : Sts} (h : S.done) : byO r S = [] := by
  have z : S.meas = 0 := by
    obtain ⟨h1, h2⟩ := h
    unfold Sts.meas
    rw [h1, h2]
    rfl
  unfold byO
  rw [z]
  rfl
theorem byO_one {r : Rule} {S : Sts} (h : ¬ S.done) : byO r S = beatO r S ++ byO r (one r S) := by
  have less := one_less (r := r) h
  obtain ⟨m, hm⟩ : ∃ m, S.meas = m + 1 := ⟨S.meas - 1, by omega⟩
  unfold byO
  rw [hm, byF, if_neg h, byF_more m (one r S) (by omega)]
theorem wrl_rd (ws : List Nat) {d : Deed} (h : d.isW = false) : wrl ws d = ws := by
  cases d with
  | rd c => rfl
  | wr c x => cases h
  | rs => rfl
theorem rdl_no (ws : List Nat) {d : Deed} (h : d.isR = false) : rdl ws d = [] := by
  cases d with
  | rd c => cases h
  | wr c x => rfl
  | rs => rfl
def noN (S : Sts) : List Nat × List Deed × List Deed × List Nat × List Nat := (S.ws, S.l, S.r, S.ss, S.os)
theorem oneB_noN {S U : Sts} (h : noN S = noN U) (b : Bool) : noN (oneB S b) = noN (oneB U b) := by
  unfold noN at h
  simp only [Prod.mk.injEq] at h
  obtain ⟨h1, h2, h3, h4, h5⟩ := h
  unfold oneB noN
  cases b <;> simp [h1, h2, h3, h4, h5]
theorem fol_noN : ∀ (o : List Bool) {S U : Sts}, noN S = noN U → noN (fol o S) = noN (fol o U)
  | [], _, _, h => h
  | b :: o, _, _, h => fol_noN o (oneB_noN h b)
theorem noN_t3 {S U : Sts} (h : noN S = noN U) : t3 S = t3 U := by
  unfold noN at h
  simp only [Prod.mk.injEq] at h
  unfold t3
  rw [h.1, h.2.2.2.1, h.2.2.2.2]
/-- a beat is its deeds in this order -/
theorem beat_ord {r : Rule} {S : Sts} : noN (fol (beatO r S) S) = noN (one r S) := by
  obtain ⟨ws, l, rr, ss, os, n⟩ := S
  have hw : waits r ⟨ws, l, rr, ss, os, n⟩ = (decide (r = .wait) && clashD (l.headD .rs) (rr.headD .rs)) := rfl
  by_cases w : waits r ⟨ws, l, rr, ss, os, n⟩ = true
  · -- the right one waits
    have hl : l ≠ [] := waits_l w
    rw [hw, Bool.and_eq_true] at w
    obtain ⟨w1, w2⟩ := w
    have er := of_decide_eq_true w1
    subst er
    obtain ⟨d, ls, rfl⟩ : ∃ d ls, l = d :: ls := by
      cases l with
      | nil => exact absurd rfl hl
      | cons d ls => exact ⟨d, ls, rfl⟩
    have ww : waits .wait ⟨ws, d :: ls, rr, ss, os, n⟩ = true := by rw [hw, w1, w2]; rfl
    have eb : beatO .wait ⟨ws, d :: ls, rr, ss, os, n⟩ = [false] := by
      unfold beatO
      rw [ww]
      simp [turned]
    rw [eb]
    unfold one
    rw [if_pos ww]
    simp [fol, oneB, after, beat, noN, rdl_no _ (show Deed.rs.isR = false from rfl), wrl_rd _ (show Deed.rs.isW = false from rfl)]
  · have wf : waits r ⟨ws, l, rr, ss, os, n⟩ = false := by simpa using w
    unfold one
    rw [if_neg w]
    unfold beatO
    rw [wf]
    cases l with
    | nil =>
      cases rr with
      | nil =>
        cases r <;> simp [turned, late, fol, after, beat, noN, wrl, rdl, Deed.isW, Deed.isR]
      | cons e rs =>
        cases r <;> cases e <;> simp [turned, late, fol, oneB, after, beat, noN, wrl, rdl, Deed.isW, Deed.isR]
    | cons d ls =>
      cases rr with
      | nil =>
        cases r <;> cases d <;> simp [turned, late, fol, oneB, after, beat, noN, wrl, rdl, Deed.isW, Deed.isR]
      | cons e rs =>
        cases r <;> cases d <;> cases e <;> simp [turned, late, fol, oneB, after, beat, noN, wrl, rdl, Deed.isW, Deed.isR]
theorem one_noN {r : Rule} {S U : Sts} (h : noN S = noN U) : noN (one r S) = noN (one r U) := by
  rw [← beat_ord, ← beat_ord (S := U)]
  have e : beatO r S = beatO r U := by
    unfold noN at h
    simp only [Prod.mk.injEq] at h
    obtain ⟨h1, h2, h3, h4, h5⟩ := h
    unfold beatO waits
    rw [h2, h3]
  rw [e]
  exact fol_noN _ h
theorem by_ord {r : Rule} : ∀ (n : Nat) (S : Sts), noN (fol (byF r n S) S) = noN (runF r n S)
  | 0, S => rfl
  | n + 1, S => by
    by_cases d : S.done
    · rw [byF, if_pos d, runF_done d]
      rfl
    · rw [byF, if_neg d, fol_app, runF, stepS_of d, ← by_ord n (one r S)]
      exact fol_noN _ beat_ord
/-- what a rule tells comes by its order -/
theorem by_res (r : Rule) (ws : List Nat) (ds es : List Deed) : res ws ds es (byO r (begin0 ws ds es)) = t3 (out r (begin0 ws ds es)) := noN_t3 (by_ord _ _)
theorem beatO_count (r : Rule) (S : Sts) : (beatO r S).count false + (one r S).l.length = S.l.length ∧ (beatO r S).count true + (one r S).r.length = S.r.length := by
  obtain ⟨ws, l, rr, ss, os, n⟩ := S
  by_cases w : waits r ⟨ws, l, rr, ss, os, n⟩ = true
  · have hl : l ≠ [] := waits_l w
    unfold one beatO
    rw [if_pos w, w]
    have hl1 : 0 < l.length := List.length_pos_iff.mpr hl
    split <;> simp [after, hl] <;> omega
  · have wf : waits r ⟨ws, l, rr, ss, os, n⟩ = false := by simpa using w
    unfold one beatO
    rw [if_neg w, wf]
    cases l <;> cases rr <;> split <;> simp [after] <;> omega
theorem byF_count {r : Rule} : ∀ (n : Nat) (S : Sts), S.meas ≤ n → (byF r n S).count false = S.l.length ∧ (byF r n S).count true = S.r.length
  | 0, S, h => by
    have z : S.l.length + S.r.length ≤ 0 := h
    show 0 = _ ∧ 0 = _
    omega
  | n + 1, S, h => by
    by_cases d : S.done
    · rw [byF, if_pos d]
      obtain ⟨h1, h2⟩ := d
      rw [h1, h2]
      exact ⟨rfl, rfl⟩
    · have less := one_less (r := r) d
      obtain ⟨c1, c2⟩ := byF_count n (one r S) (by omega)
      obtain ⟨b1, b2⟩ := beatO_count r S
      rw [byF, if_neg d]
      refine ⟨List.count_append.trans ?_, List.count_append.trans ?_⟩
      · exact (congrArg _ c1).trans b1
      · exact (congrArg _ c2).trans b2
theorem byO_count (r : Rule) (ws : List Nat) (ds es : List Deed) : (byO r (begin0 ws ds es)).count false = ds.length ∧ (byO r (begin0 ws ds es)).count true = es.length := byF_count _ _ (Nat.le_refl _)
section
variable {K : PySem.W.Frag} {σ : L2.St} {H : Hp} {t : TT} {tu tz : TS} {D : Ends}
theorem q_ifJ {b : Bool} (M : L2.St → Hp → Prop) (ev : EvT t σ H b) (h1 : b = true → ∀ H1, Ex H H1 → ∀ N : L2.St → Hp → Prop, (∀ σ' H', M σ' H' → N σ' H') → tu { D with nx := N } σ H1) (h2 : b = false → ∀ H1, Ex H H1 → M σ H1) (k : ∀ σ' H', M σ' H' → tz D σ' H') : tSeq (tIfS t tu tNext) tz D σ H :=
  q_when ev (fun hb H1 e => h1 hb H1 e _ k) fun hb H1 e => k _ _ (h2 hb H1 e)
theorem q_parN {ta : TA} {i j : Nat} {x y : V} (h : EvA ta σ H [x, y]) (k : ∀ H1, Ex H H1 → tz D ((σ.set i (some x)).set j (some y)) H1) : tSeq (tPar i j ta) tz D σ H := h H (Ex.refl H) _ fun H1 e => ⟨x, y, rfl, k H1 e⟩
end
theorem tag_is_w (d : Deed) : decide (V.str d.tag = V.str "write") = d.isW := by
  cases d with
  | rd c => exact (by decide +kernel : decide (V.str "read" = V.str "write") = false)
  | wr c x => exact (by decide +kernel : decide (V.str "write" = V.str "write") = true)
  | rs => exact (by decide +kernel : decide (V.str "rest" = V.str "write") = false)
theorem tag_is_r (d : Deed) : decide (V.str d.tag = V.str "read") = d.isR := by
  cases d with
  | rd c => exact (by decide +kernel : decide (V.str "read" = V.str "read") = true)
  | wr c x => exact (by decide +kernel : decide (V.str "write" = V.str "read") = false)
  | rs => exact (by decide +kernel : decide (V.str "rest" = V.str "read") = false)
theorem tag_eq_w (d e : Deed) : (decide (V.str d.tag = V.str e.tag) && decide (V.str e.tag = V.str "write")) = (d.isW && e.isW) := by
  rw [tag_is_w]
  cases he : e.isW with
  | false => simp
  | true =>
    have e1 : V.str e.tag = V.str "write" := of_decide_eq_true (by rw [tag_is_w, he])
    rw [e1, tag_is_w]
theorem name_is (r q : Rule) : decide (V.str r.name = V.str q.name) = decide (r = q) := by
  cases r <;> cases q <;> decide +kernel
theorem in_on (r : Rule) : inV (.str r.name) [.str "old", .str "new"] = (decide (r = .old) || decide (r = .new)) := by
  cases r <;> decide +kernel
def optO (c : Prop) [Decidable c] (b : Bool) : List Bool := if c then [b] else []
theorem optO_rep (c : Prop) [Decidable c] (b : Bool) : List.replicate (if decide c = true then 1 else 0) b = optO c b := by
  unfold optO
  by_cases h : c
  · simp [h]
  · simp [h]
theorem beatO_opt (r : Rule) (S : Sts) : beatO r S = if turned r (S.l.headD .rs) (S.r.headD .rs) = true then optO (S.r ≠ [] ∧ waits r S = false) true ++ optO (S.l ≠ []) false else optO (S.l ≠ []) false ++ optO (S.r ≠ [] ∧ waits r S = false) true := rfl
theorem drop_ne {l : List Deed} {a : Nat} : l.drop a ≠ [] ↔ a < l.length := by
  rw [← List.length_pos_iff, List.length_drop]
  omega
theorem drop_tail {l : List Deed} {a : Nat} : (l.drop a).tail = l.drop (a + 1) := by
  rw [← List.drop_one, List.drop_drop]
theorem one_l (r : Rule) (S : Sts) : (one r S).l = S.l.tail := by
  unfold one
  split <;> rfl
theorem one_r (r : Rule) (S : Sts) : (one r S).r = if waits r S = true then S.r else S.r.tail := by
  unfold one
  split <;> rfl
theorem join_oS : ∀ l : List (List Bool), Txt.join "" (l.map oS) = oS l.flatten := fun l => by
  have e : ("" : Str) = ⟨#[]⟩ := by decide +kernel
  rw [e]
  refine (StrLaws.glued_eq_join _ _).trans ?_
  induction l with
  | nil => exact oS_nil.symm.trans e ▸ rfl
  | cons x r ih =>
    cases r with
    | nil => simp [Str.join]
    | cons y r =>
      show oS x ++ ⟨#[]⟩ ++ Str.join ⟨#[]⟩ ((y :: r).map oS) = _
      rw [ih, ← e, oS_nil, oS_app, oS_app]
      simp
theorem rdl_small {ws : List Nat} (h : ∀ x ∈ ws, x < 3) (d : Deed) : ∀ x ∈ rdl ws d, x < 3 := by
  cases d with
  | rd c =>
    intro x hx
    have e : x = ws.getD c 0 := by simpa [rdl] using hx
    rw [e, List.getD_eq_getElem?_getD]
    cases hc : ws[c]? with
    | none => decide
    | some y => exact h y (List.mem_of_getElem? hc)
  | wr c x => exact fun _ z => nomatch z
  | rs => exact fun _ z => nomatch z
theorem fol_small3' {c : Nat} : ∀ (o : List Bool) (S : Sts), S.ws.length = c → (∀ x ∈ S.ws, x < 3) → (∀ d ∈ S.l, d.ok c) → (∀ d ∈ S.r, d.ok c) → (∀ x ∈ S.ss, x < 3) → (∀ x ∈ S.os, x < 3) → (∀ x ∈ (fol o S).ss, x < 3) ∧ ∀ x ∈ (fol o S).os, x < 3
  | [], S, _, _, _, _, h1, h2 => ⟨h1, h2⟩
  | b :: o, S, hl, hw, hL, hR, h1, h2 => by
    cases b with
    | false =>
      refine fol_small3' o (oneB S false) ((wrl_length _ _).trans hl) (wrl_small hw (ok_headD hL)) (fun d hd => hL d (mem_tail hd)) hR (fun x hx => ?_) h2
      have hx : x ∈ S.ss ++ rdl S.ws (S.l.headD .rs) := hx
      exact (List.mem_append.mp hx).elim (h1 x) (rdl_small hw _ x)
    | true =>
      refine fol_small3' o (oneB S true) ((wrl_length _ _).trans hl) (wrl_small hw (ok_headD hR)) hL (fun d hd => hR d (mem_tail hd)) h1 (fun x hx => ?_)
      have hx : x ∈ S.os ++ rdl S.ws (S.r.headD .rs) := hx
      exact (List.mem_append.mp hx).elim (h2 x) (rdl_small hw _ x)
theorem first_some {ws : List Nat} {ds es : List Deed} {x : T3} {o : List Bool} (h : res ws ds es o = x) (h1 : o.count false = ds.length) (h2 : o.count true = es.length) : ∃ u, firstD ws ds es x = some u ∧ res ws ds es u = x ∧ u.count false = ds.length ∧ u.count true = es.length := by
  unfold firstD
  cases hf : (ordersD ds.length es.length).find? fun o => decide (res ws ds es o = x) with
  | none =>
    have z := List.find?_eq_none.mp hf o (ordersD_mem.mpr ⟨h1, h2⟩)
    simp [h] at z
  | some u =>
    have z := List.find?_some hf
    obtain ⟨c1, c2⟩ := ordersD_mem.mp (List.mem_of_find?_eq_some hf)
    exact ⟨u, rfl, of_decide_eq_true z, c1, c2⟩
end Db

namespace Db
open PySem L2 Evl StX
/-! ### the right program fitted -/
structure FitS where
  prog : List Deed
  why : List (Nat × Nat)
  num : Nat
def FitS.done (es : List Deed) (S : FitS) : Prop := es.length ≤ S.num
def FitS.cl (ds es : List Deed) (S : FitS) : Bool := clashD (ds.getD S.prog.length .rs) (es.getD S.num .rs)
def fitOne (ds es : List Deed) (S : FitS) : FitS :=
  if S.cl ds es then ⟨S.prog ++ [.rs], S.why ++ [(S.prog.length, S.num)], S.num⟩ else ⟨S.prog ++ [es.getD S.num .rs], S.why, S.num + 1⟩
instance (es : List Deed) (S : FitS) : Decidable (S.done es) := inferInstanceAs (Decidable (_ ≤ _))
def fitStep (ds es : List Deed) (S : FitS) : FitS := if S.done es then S else fitOne ds es S
def FitS.meas (ds es : List Deed) (S : FitS) : Nat := (es.length - S.num) + (ds.length - S.prog.length)
theorem clash_rs (d : Deed) : clashD .rs d = false := by cases d <;> rfl
theorem clash_rs' (d : Deed) : clashD d .rs = false := by cases d <;> rfl
theorem cl_lt {ds es : List Deed} {S : FitS} (h : S.cl ds es = true) : S.prog.length < ds.length := by
  by_cases z : S.prog.length < ds.length
  · exact z
  · unfold FitS.cl at h
    rw [List.getD_eq_getElem?_getD, List.getElem?_eq_none (by omega)] at h
    have e := clash_rs (es.getD S.num .rs)
    simp only [Option.getD_none] at h
    rw [e] at h
    cases h
theorem fitOne_less {ds es : List Deed} {S : FitS} (h : ¬ S.done es) : (fitOne ds es S).meas ds es < S.meas ds es := by
  unfold FitS.done at h
  unfold fitOne
  by_cases hc : S.cl ds es = true
  · have := cl_lt hc
    rw [if_pos hc]
    unfold FitS.meas
    simp only [List.length_append, List.length_cons, List.length_nil]
    omega
  · rw [if_neg hc]
    unfold FitS.meas
    simp only [List.length_append, List.length_cons, List.length_nil]
    omega
def fitF (ds es : List Deed) : Nat → FitS → FitS
  | 0, S => S
  | n + 1, S => fitF ds es n (fitStep ds es S)
theorem fitF_done {ds es : List Deed} {S : FitS} (h : S.done es) : ∀ n, fitF ds es n S = S
  | 0 => rfl
  | n + 1 => by
    have e : fitStep ds es S = S := if_pos h
    rw [fitF, e]
    exact fitF_done h n
theorem fitF_more {ds es : List Deed} : ∀ (n : Nat) (S : FitS), S.meas ds es ≤ n → fitF ds es n S = fitF ds es (S.meas ds es) S
  | 0, S, h => by rw [show S.meas ds es = 0 by omega]
  | n + 1, S, h => by
    by_cases hd : S.done es
    · rw [fitF_done hd, fitF_done hd]
    · have hl := fitOne_less (ds := ds) hd
      obtain ⟨m, hm⟩ : ∃ m, S.meas ds es = m + 1 := ⟨S.meas ds es - 1, by omega⟩
      have e : fitStep ds es S = fitOne ds es S := if_neg hd
      rw [hm, fitF, fitF, e, fitF_more n _ (by omega)]
      by_cases z : m = n
      · rw [z, fitF_more n _ (by omega)]
      · exact (fitF_more m _ (by omega)).symm
  termination_by n => n
def fitEnd (ds es : List Deed) (S : FitS) : FitS := fitF ds es (S.meas ds es) S
theorem fitEnd_done {ds es : List Deed} {S : FitS} (h : S.done es) : fitEnd ds es S = S := fitF_done h _
theorem fitEnd_one {ds es : List Deed} {S : FitS} (h : ¬ S.done es) : fitEnd ds es (fitOne ds es S) = fitEnd ds es S := by
  unfold fitEnd
  have hl := fitOne_less (ds := ds) h
  obtain ⟨m, hm⟩ : ∃ m, S.meas ds es = m + 1 := ⟨S.meas ds es - 1, by omega⟩
  have e : fitStep ds es S = fitOne ds es S := if_neg h
  rw [hm, fitF, e, fitF_more m _ (by omega)]
def fit0 : FitS := ⟨[], [], 0⟩
/-- each tuple of a reason holds -/
def whyOk (ds es : List Deed) (ahead : Nat) (least : Int) : List (Int × Int) → Bool
  | [] => true
  | (b, n) :: r => (decide (least ≤ n ∧ n < es.length) && decide (b = n + ahead)) && (clashD (ds.getD b.toNat .rs) (es.getD n.toNat .rs) && whyOk ds es (ahead + 1) n r)
theorem whyOk_app {ds es : List Deed} : ∀ (r : List (Int × Int)) (ahead : Nat) (least b n : Int), whyOk ds es ahead least (r ++ [(b, n)]) = (whyOk ds es ahead least r && (decide (((r.map (·.2)).getLastD least) ≤ n ∧ n < es.length) && decide (b = n + (ahead + r.length : Nat)) && clashD (ds.getD b.toNat .rs) (es.getD n.toNat .rs)))
  | [], ahead, least, b, n => by
    show (_ && (_ && true)) = (true && _)
    simp
  | (b', n') :: r, ahead, least, b, n => by
    have h := whyOk_app (ds := ds) (es := es) r (ahead + 1) n' b n
    show (_ && (_ && whyOk ds es (ahead + 1) n' (r ++ [(b, n)]))) = ((_ && (_ && whyOk ds es (ahead + 1) n' r)) && _)
    rw [h]
    have e : ahead + 1 + r.length = ahead + ((b', n') :: r).length := by rw [List.length_cons]; omega
    rw [e]
    have e2 : (((b', n') :: r).map (·.2)).getLastD least = (r.map (·.2)).getLastD n' := by
      cases r with
      | nil => rfl
      | cons x r => rfl
    rw [e2]
    simp only [Bool.and_assoc]
def whyI (l : List (Nat × Nat)) : List (Int × Int) := l.map fun p => ((p.1 : Int), (p.2 : Int))
/-- the fewest rests, by trying all -/
def leastD (ds : List Deed) : Nat → List Deed → Nat → Nat
  | 0, _, _ => 0
  | f + 1, [], b => 0
  | f + 1, e :: t, b => if ds.length ≤ b then 0 else if clashD (ds.getD b .rs) e = true then 1 + leastD ds f (e :: t) (b + 1) else min (1 + leastD ds f (e :: t) (b + 1)) (leastD ds f t (b + 1))
theorem leastD_end {ds : List Deed} {f : Nat} {r : List Deed} {b : Nat} (h : ds.length ≤ b) : leastD ds f r b = 0 := by
  cases f with
  | zero => rfl
  | succ f =>
    cases r with
    | nil => rfl
    | cons e t => rw [leastD, if_pos h]
theorem leastD_nil {ds : List Deed} {f : Nat} {b : Nat} : leastD ds f [] b = 0 := by cases f <;> rfl
theorem leastD_B {ds : List Deed} {f : Nat} {r : List Deed} {b : Nat} : leastD ds (f + 1) r b ≤ 1 + leastD ds f r (b + 1) := by
  cases r with
  | nil => rw [leastD_nil]; omega
  | cons e t =>
    rw [leastD]
    split
    · omega
    · split
      · omega
      · omega
theorem leastD_C {ds : List Deed} : ∀ (f : Nat) (e : Deed) (t : List Deed) (b : Nat), ds.length ≤ b + f → leastD ds f t b ≤ 1 + leastD ds f (e :: t) b
  | 0, _, _, _, _ => by show 0 ≤ _; omega
  | f + 1, e, t, b, h => by
    have ih := leastD_C (ds := ds) f e t (b + 1) (by omega)
    have hB := leastD_B (ds := ds) (f := f) (r := t) (b := b)
    by_cases hb : ds.length ≤ b
    · rw [leastD_end hb]; omega
    · rw [leastD.eq_3, if_neg hb]
      split
      · omega
      · omega
theorem leastD_no {ds : List Deed} {f : Nat} {e : Deed} {t : List Deed} {b : Nat} (h : ds.length ≤ b + (f + 1)) (hc : clashD (ds.getD b .rs) e = false) : leastD ds (f + 1) (e :: t) b = leastD ds f t (b + 1) := by
  by_cases hb : ds.length ≤ b
  · rw [leastD_end hb, leastD_end (by omega)]
  · have hC := leastD_C (ds := ds) f e t (b + 1) (by omega)
    rw [leastD, if_neg hb, hc, if_neg Bool.false_ne_true]
    omega
theorem leastD_yes {ds : List Deed} {f : Nat} {e : Deed} {t : List Deed} {b : Nat} (hc : clashD (ds.getD b .rs) e = true) (hb : b < ds.length) : leastD ds (f + 1) (e :: t) b = 1 + leastD ds f (e :: t) (b + 1) := by
  rw [leastD, if_neg (by omega), if_pos hc]
/-- what stays through all steps -/
structure FitOk (ds es : List Deed) (c : Nat) (S : FitS) : Prop where
  num : S.num ≤ es.length
  len : S.prog.length = S.num + S.why.length
  all : S.prog.length + S.meas ds es ≤ ds.length + es.length
  free : ∀ j, clashD (ds.getD j .rs) (S.prog.getD j .rs) = false
  ok : ∀ d ∈ S.prog, d.ok c
  why : whyOk ds es 0 0 (whyI S.why) = true
  last : ((whyI S.why).map (·.2)).getLastD 0 ≤ S.num
  least : S.why.length + leastD ds (ds.length - S.prog.length) (es.drop S.num) S.prog.length = leastD ds ds.length es 0
theorem getD_snoc {l : List Deed} {d : Deed} {j : Nat} : (l ++ [d]).getD j .rs = if j = l.length then d else l.getD j .rs := by
  rw [List.getD_eq_getElem?_getD, List.getD_eq_getElem?_getD]
  by_cases h : j < l.length
  · rw [List.getElem?_append_left h, if_neg (by omega)]
  · rw [List.getElem?_append_right (by omega)]
    by_cases z : j = l.length
    · rw [if_pos z, z]; simp
    · rw [if_neg z, List.getElem?_eq_none (l := [d]) (by simp; omega), List.getElem?_eq_none (l := l) (by omega)]
theorem FitOk.one {ds es : List Deed} {c : Nat} {S : FitS} (F : FitOk ds es c S) (h : ¬ S.done es) (he : ∀ d ∈ es, d.ok c) : FitOk ds es c (fitOne ds es S) := by
  have hl := fitOne_less (ds := ds) h
  have hn : S.num < es.length := by unfold FitS.done at h; omega
  have h1 := F.len
  have h2 := F.all
  have hd : es.drop S.num = es.getD S.num .rs :: es.drop (S.num + 1) := by
    rw [List.drop_eq_getElem_cons hn, List.getD_eq_getElem?_getD, List.getElem?_eq_getElem hn]
    rfl
  by_cases hc : S.cl ds es = true
  · have e : fitOne ds es S = ⟨S.prog ++ [.rs], S.why ++ [(S.prog.length, S.num)], S.num⟩ := if_pos hc
    have hlt := cl_lt hc
    rw [e] at hl ⊢
    refine ⟨F.num, by simp only [List.length_append, List.length_singleton]; omega, by simp only [List.length_append, List.length_singleton]; omega, fun j => ?_, fun d hd => ?_, ?_, ?_, ?_⟩
    · show clashD _ ((S.prog ++ [Deed.rs]).getD j .rs) = false
      rw [getD_snoc]
      split
      · exact clash_rs' _
      · exact F.free j
    · rcases List.mem_append.mp hd with z | z
      · exact F.ok d z
      · rw [List.mem_singleton.mp z]; exact True.intro
    · show whyOk ds es 0 0 (whyI (S.why ++ [(S.prog.length, S.num)])) = true
      unfold whyI
      rw [List.map_append]
      show whyOk ds es 0 0 (whyI S.why ++ [((S.prog.length : Int), (S.num : Int))]) = true
      rw [whyOk_app, F.why, Bool.true_and]
      have l2 : (whyI S.why).length = S.why.length := by unfold whyI; rw [List.length_map]
      have la := F.last
      have c2 : clashD (ds.getD ((S.prog.length : Nat) : Int).toNat .rs) (es.getD ((S.num : Nat) : Int).toNat .rs) = true := by
        rw [Int.toNat_natCast, Int.toNat_natCast]; exact hc
      rw [c2, decide_eq_true (by refine ⟨la, ?_⟩; omega), decide_eq_true (by rw [l2]; omega)]
      rfl
    · show ((whyI (S.why ++ [(S.prog.length, S.num)])).map (·.2)).getLastD 0 ≤ (S.num : Int)
      unfold whyI
      rw [List.map_append, List.map_append]
      simp [List.getLastD_eq_getLast?]
    · have hL := F.least
      show (S.why ++ [(S.prog.length, S.num)]).length + leastD ds (ds.length - (S.prog ++ [Deed.rs]).length) (es.drop S.num) (S.prog ++ [Deed.rs]).length = _
      rw [hd] at hL ⊢
      obtain ⟨f, hf⟩ : ∃ f, ds.length - S.prog.length = f + 1 := ⟨ds.length - S.prog.length - 1, by omega⟩
      rw [hf, leastD_yes hc hlt] at hL
      rw [List.length_append, List.length_append, List.length_singleton, List.length_singleton, show ds.length - (S.prog.length + 1) = f by omega]
      omega
  · have hc' : S.cl ds es = false := by simpa using hc
    have e : fitOne ds es S = ⟨S.prog ++ [es.getD S.num .rs], S.why, S.num + 1⟩ := if_neg hc
    rw [e] at hl ⊢
    refine ⟨hn, by simp only [List.length_append, List.length_singleton]; omega, by simp only [List.length_append, List.length_singleton]; omega, fun j => ?_, fun d hd => ?_, F.why, ?_, ?_⟩
    · show clashD _ ((S.prog ++ [es.getD S.num .rs]).getD j .rs) = false
      rw [getD_snoc]
      split
      · rename_i z
        rw [z]
        exact hc'
      · exact F.free j
    · rcases List.mem_append.mp hd with z | z
      · exact F.ok d z
      · rw [List.mem_singleton.mp z, List.getD_eq_getElem?_getD, List.getElem?_eq_getElem hn]
        exact he _ (List.getElem_mem hn)
    · have la := F.last
      show ((whyI S.why).map (·.2)).getLastD 0 ≤ ((S.num + 1 : Nat) : Int)
      omega
    · have hL := F.least
      show S.why.length + leastD ds (ds.length - (S.prog ++ [es.getD S.num .rs]).length) (es.drop (S.num + 1)) (S.prog ++ [es.getD S.num .rs]).length = _
      rw [hd] at hL
      rw [List.length_append, List.length_singleton]
      by_cases hb : ds.length ≤ S.prog.length
      · rw [leastD_end hb] at hL
        rw [leastD_end (by omega)]
        exact hL
      · obtain ⟨f, hf⟩ : ∃ f, ds.length - S.prog.length = f + 1 := ⟨ds.length - S.prog.length - 1, by omega⟩
        rw [hf, leastD_no (by omega) hc'] at hL
        rw [show ds.length - (S.prog.length + 1) = f by omega]
        exact hL
theorem FitOk.begin (ds es : List Deed) (c : Nat) : FitOk ds es c fit0 := ⟨Nat.zero_le _, rfl, by show 0 + (_ - 0 + (_ - 0)) ≤ _; omega, fun j => by show clashD _ (([] : List Deed).getD j .rs) = false; simp [clash_rs'], (fun _ z => nomatch z), rfl, by show (0 : Int) ≤ 0; omega, by show 0 + leastD ds (ds.length - 0) (es.drop 0) 0 = _; simp⟩
theorem fitF_ok {ds es : List Deed} {c : Nat} (he : ∀ d ∈ es, d.ok c) : ∀ (n : Nat) (S : FitS), FitOk ds es c S → FitOk ds es c (fitF ds es n S)
  | 0, _, F => F
  | n + 1, S, F => by
    rw [fitF]
    refine fitF_ok he n _ ?_
    unfold fitStep
    split
    · exact F
    · rename_i h
      exact F.one h he
theorem fitEnd_isDone {ds es : List Deed} : ∀ (n : Nat) (S : FitS), S.meas ds es ≤ n → (fitF ds es n S).done es
  | 0, S, h => by
    unfold FitS.meas at h
    show es.length ≤ S.num
    omega
  | n + 1, S, h => by
    rw [fitF]
    by_cases hd : S.done es
    · have e : fitStep ds es S = S := if_pos hd
      rw [e, fitF_done hd]
      exact hd
    · have e : fitStep ds es S = fitOne ds es S := if_neg hd
      have hl := fitOne_less (ds := ds) hd
      rw [e]
      exact fitEnd_isDone n _ (by omega)
/-- the right program fitted, and why -/
def fitD (ds es : List Deed) : FitS := fitEnd ds es fit0
theorem fitD_ok {ds es : List Deed} {c : Nat} (he : ∀ d ∈ es, d.ok c) : FitOk ds es c (fitD ds es) := fitF_ok he _ _ (FitOk.begin ds es c)
theorem fitD_num {ds es : List Deed} {c : Nat} (he : ∀ d ∈ es, d.ok c) : (fitD ds es).num = es.length := by
  have h1 := (fitD_ok (ds := ds) he).num
  have h2 : (fitD ds es).done es := fitEnd_isDone _ _ (Nat.le_refl _)
  unfold FitS.done at h2
  omega
theorem fitD_len {ds es : List Deed} {c : Nat} (he : ∀ d ∈ es, d.ok c) : (fitD ds es).prog.length ≤ ds.length + es.length := by
  have h := (fitD_ok (ds := ds) he).all
  omega
theorem fitD_least {ds es : List Deed} {c : Nat} (he : ∀ d ∈ es, d.ok c) : leastD ds ds.length es 0 = (fitD ds es).why.length := by
  have h := (fitD_ok (ds := ds) he).least
  rw [fitD_num he, List.drop_of_length_le (Nat.le_refl _), leastD_nil] at h
  omega
theorem fitD_free {ds es : List Deed} {c : Nat} (he : ∀ d ∈ es, d.ok c) : clashesD ds (fitD ds es).prog = [] := by
  unfold clashesD
  refine List.filter_eq_nil_iff.mpr fun j _ => ?_
  rw [(fitD_ok (ds := ds) he).free j]
  exact Bool.false_ne_true
/-- pairs of two numbers -/
def IV (K : PySem.W.Frag) (H : Hp) (v : V) (p : Int × Int) : Prop := ∃ a, v = .ref a ∧ SqT K H a [.int p.1, .int p.2]
def IVs (K : PySem.W.Frag) (H : Hp) (vs : List V) (ps : List (Int × Int)) : Prop := Paired (IV K H) vs ps
theorem IV.mono {K : PySem.W.Frag} {H H' : Hp} {v : V} {p : Int × Int} (e : Ex H H') (q : IV K H v p) : IV K H' v p := by
  obtain ⟨a, h, s⟩ := q
  exact ⟨a, h, ex_t e s⟩
theorem IVs.mono {K : PySem.W.Frag} {H H' : Hp} {vs : List V} {ps : List (Int × Int)} (e : Ex H H') (q : IVs K H vs ps) : IVs K H' vs ps := Paired.mapP q fun _ _ => IV.mono e
theorem IVs.buts {K : PySem.W.Frag} {H H' : Hp} {S : List Addr} {vs : List V} {ps : List (Int × Int)} (b : Bt S H H') (hp : ∀ p ∈ S, ∃ us, H p = some (.lst us)) (q : IVs K H vs ps) : IVs K H' vs ps := Paired.mapP q fun _ _ ⟨a, h, s⟩ => ⟨a, h, t_but b hp s⟩
theorem IVs.length {K : PySem.W.Frag} {H : Hp} {vs : List V} {ps : List (Int × Int)} (q : IVs K H vs ps) : vs.length = ps.length := Paired.length q
theorem IVs.get {K : PySem.W.Frag} {H : Hp} : ∀ {vs : List V} {ps : List (Int × Int)} {i : Nat} {v : V}, IVs K H vs ps → vs[i]? = some v → ∃ m, ps[i]? = some m ∧ IV K H v m
  | _, _, _, _, .nil, e => by simp at e
  | _, _, 0, _, .cons r _, e => by simp at e; subst e; exact ⟨_, rfl, r⟩
  | _, _, i + 1, x, .cons _ t, e => by
    obtain ⟨u, h1, h2⟩ := IVs.get (i := i) (v := x) t (by simpa using e)
    exact ⟨u, by simpa using h1, h2⟩
theorem IVs.append {K : PySem.W.Frag} {H : Hp} : ∀ {us vs : List V} {ds es : List (Int × Int)}, IVs K H us ds → IVs K H vs es → IVs K H (us ++ vs) (ds ++ es)
  | _, _, _, _, .nil, h => h
  | _, _, _, _, .cons r t, h => .cons r (IVs.append t h)
theorem IVs.drop {K : PySem.W.Frag} {H : Hp} : ∀ {vs : List V} {ds : List (Int × Int)} (n : Nat), IVs K H vs ds → IVs K H (vs.drop n) (ds.drop n)
  | _, _, 0, h => h
  | _, _, n + 1, .nil => .nil
  | _, _, n + 1, .cons _ t => IVs.drop n t
theorem IVs.take {K : PySem.W.Frag} {H : Hp} : ∀ {vs : List V} {ds : List (Int × Int)} (n : Nat), IVs K H vs ds → IVs K H (vs.take n) (ds.take n)
  | _, _, 0, h => .nil
  | _, _, n + 1, .nil => .nil
  | _, _, n + 1, .cons r t => .cons r (IVs.take n t)
def iD (p : Int × Int) : PyData := .tuple [.int p.1, .int p.2]
theorem IVs.dpa {K : PySem.W.Frag} {H : Hp} {vs : List V} {ps : List (Int × Int)} (h : IVs K H vs ps) : DpAll K H vs (ps.map iD) := by
  induction h with
  | nil => exact .nil
  | cons a _ ih =>
    obtain ⟨a', rfl, h2⟩ := a
    exact .cons (.tup h2 (.cons (.int _) (.cons (.int _) .nil))) ih
theorem nice_i {n : Nat} (p : Int × Int) : Nice (n + 1) (iD p) := .tup (by simp) fun d hd => by
  simp only [List.mem_cons, List.not_mem_nil, or_false] at hd
  rcases hd with rfl | rfl <;> exact .int _
theorem nice_is {n : Nat} {ps : List (Int × Int)} (h : ps.length ≤ 1000) : Nice (n + 2) (.list (ps.map iD)) := .lst (by rw [List.length_map]; exact h) fun d hd => by
  obtain ⟨p, _, rfl⟩ := List.mem_map.mp hd
  exact nice_i p
theorem nice_d {n : Nat} (d : Deed) : Nice (n + 1) (.tuple d.dat) := .tup (by cases d <;> simp [Deed.dat]) fun x hx => by
  cases d <;> simp only [Deed.dat, List.mem_cons, List.not_mem_nil, or_false] at hx
  · rcases hx with rfl | rfl
    · exact .str sk_read
    · exact .int _
  · rcases hx with rfl | rfl | rfl
    · exact .str sk_write
    · exact .int _
    · exact .int _
  · subst hx
    exact .str sk_rest
theorem nice_ds {n : Nat} {ds : List Deed} (h : ds.length ≤ 1000) : Nice (n + 2) (.list (ds.map fun d => .tuple d.dat)) := .lst (by rw [List.length_map]; exact h) fun x hx => by
  obtain ⟨d, _, rfl⟩ := List.mem_map.mp hx
  exact nice_d d
/-- what fitted tells: two new lists -/
def ToldF (K : PySem.W.Frag) (H H' : Hp) (v : V) (S : FitS) : Prop := ∃ (t pl rl : Addr) (us rs : List V), v = .ref t ∧ H' t = some (.tup [.ref pl, .ref rl]) ∧ H' pl = some (.lst us) ∧ PV K H' us S.prog ∧ H' rl = some (.lst rs) ∧ IVs K H' rs (whyI S.why) ∧ H pl = none ∧ H rl = none ∧ pl ≠ rl ∧ Ex H H'
def datF (S : FitS) : PyData := .tuple [.list (S.prog.map fun d => .tuple d.dat), .list ((whyI S.why).map iD)]
theorem ToldF.dp {K : PySem.W.Frag} {H H' : Hp} {v : V} {S : FitS} (h : ToldF K H H' v S) : Dp K H' v (datF S) := by
  obtain ⟨t, pl, rl, us, rs, rfl, h1, h2, h3, h4, h5, _⟩ := h
  exact .tup (SqT.of h1) (.cons (PV.dp (SqL.of h2) h3) (.cons (.lst (SqL.of h4) h5.dpa) .nil))
theorem nice_f {S : FitS} (h1 : S.prog.length ≤ 1000) (h2 : S.why.length ≤ 1000) : Nice 3 (datF S) := .tup (by simp) fun d hd => by
  simp only [List.mem_cons, List.not_mem_nil, or_false] at hd
  rcases hd with rfl | rfl
  · exact nice_ds h1
  · exact nice_is (by unfold whyI; rw [List.length_map]; exact h2)
/-- the written bound of the fitting's file -/
structure TxF (mg : Str → Option Value) (t20 : Tok) : Prop where
  g_MOST_TO_FIT : mg "MOST_TO_FIT" = some (.int 20 t20)
theorem txf_mk {K : PySem.W.Frag} {h : Heap} {mg : Str → Option Value} {t20 : Tok} (X : K.In h) (G : h.Ns mainGlobals mg) (a1 : PySem.W.nsIn K mainGlobals "MOST_TO_FIT" = some (some (.int 20 t20))) : TxF mg t20 :=
  ⟨PySem.W.mg_of X G a1⟩
theorem getD_at {l : List Deed} {i : Nat} {d : Deed} (h : l[i]? = some d) : l.getD i .rs = d := by rw [List.getD_eq_getElem?_getD, h]; rfl
/-- what shows so many tuples is no longer than the fewest rests -/
theorem why_bound {ds es : List Deed} : ∀ (f j a : Nat) (least : Int) (r : List (Int × Int)), ds.length ≤ a + j + f → (j : Int) ≤ least → whyOk ds es a least r = true → r.length ≤ leastD ds f (es.drop j) (a + j)
  | _, _, _, _, [], _, _, _ => Nat.zero_le _
  | 0, j, a, least, (b, n) :: r, hf, hj, h => by
    exfalso
    have h' : ((decide (least ≤ n ∧ n < es.length) && decide (b = n + a)) && (clashD (ds.getD b.toNat .rs) (es.getD n.toNat .rs) && whyOk ds es (a + 1) n r)) = true := h
    simp only [Bool.and_eq_true, decide_eq_true_eq] at h'
    obtain ⟨⟨⟨h1, h2⟩, h3⟩, h4, h5⟩ := h'
    have hb : ds.length ≤ b.toNat := by omega
    rw [List.getD_eq_getElem?_getD, List.getElem?_eq_none hb] at h4
    have e := clash_rs (es.getD n.toNat .rs)
    simp only [Option.getD_none] at h4
    rw [e] at h4
    cases h4
  | f + 1, j, a, least, (b, n) :: r, hf, hj, h => by
    have h' : ((decide (least ≤ n ∧ n < es.length) && decide (b = n + a)) && (clashD (ds.getD b.toNat .rs) (es.getD n.toNat .rs) && whyOk ds es (a + 1) n r)) = true := h
    simp only [Bool.and_eq_true, decide_eq_true_eq] at h'
    obtain ⟨⟨⟨h1, h2⟩, h3⟩, h4, h5⟩ := h'
    have hje : j < es.length := by omega
    have hd : es.drop j = es.getD j .rs :: es.drop (j + 1) := by
      rw [List.drop_eq_getElem_cons hje, List.getD_eq_getElem?_getD, List.getElem?_eq_getElem hje]
      rfl
    have hbl : b.toNat < ds.length := by
      by_cases z : b.toNat < ds.length
      · exact z
      · rw [List.getD_eq_getElem?_getD, List.getElem?_eq_none (by omega)] at h4
        have e := clash_rs (es.getD n.toNat .rs)
        simp only [Option.getD_none] at h4
        rw [e] at h4
        cases h4
    have r1 := why_bound f j (a + 1) n r (by omega) (by omega) h5
    rw [show a + 1 + j = a + j + 1 by omega] at r1
    have hlt : a + j < ds.length := by omega
    rw [hd] at r1 ⊢
    rw [leastD, if_neg (by omega)]
    rw [List.length_cons]
    by_cases hc : clashD (ds.getD (a + j) .rs) (es.getD j .rs) = true
    · rw [if_pos hc]
      omega
    · rw [if_neg hc]
      have hjn : (j : Int) < n := by
        by_cases z : (j : Int) = n
        · exfalso
          apply hc
          have e1 : a + j = b.toNat := by omega
          have e2 : j = n.toNat := by omega
          rw [e1, ← e1, e1, e2]
          exact h4
        · omega
      have hk : whyOk ds es a n ((b, n) :: r) = true := by
        show ((decide (n ≤ n ∧ n < es.length) && decide (b = n + a)) && (clashD (ds.getD b.toNat .rs) (es.getD n.toNat .rs) && whyOk ds es (a + 1) n r)) = true
        rw [decide_eq_true (⟨Int.le_refl _, h2⟩ : n ≤ n ∧ n < (es.length : Int)), decide_eq_true h3, h4, h5]
        rfl
      have r2 := why_bound f (j + 1) a n ((b, n) :: r) (by omega) (by omega) hk
      rw [List.length_cons, show a + (j + 1) = a + j + 1 by omega] at r2
      omega
theorem why_most {ds es : List Deed} {c : Nat} (he : ∀ d ∈ es, d.ok c) {r : List (Int × Int)} (h : whyOk ds es 0 0 r = true) : r.length ≤ (fitD ds es).why.length := by
  have z := why_bound ds.length 0 0 0 r (by omega) (Int.le_refl _) h
  rw [List.drop_zero] at z
  have e := fitD_least (ds := ds) he
  rw [← e]
  exact z
theorem IVs.draw {K : PySem.W.Frag} {H H' : Hp} {h l : Addr} {vs : List V} {ps : List (Int × Int)} (D : Draw H h l) (e : Bt [h, l] H H') (q : IVs K H vs ps) : IVs K H' vs ps := Paired.mapP q fun _ _ ⟨a, h1, s⟩ => ⟨a, h1, D.t e s⟩
/-- a range whose end is drawn -/
theorem q_forRX {σ : L2.St} {H : Hp} {tu tz : TS} {D : Ends} {ta : TA} {j : Nat} {R : Int → Hp → Prop} (h : ∀ Q : List V → Hp → Prop, (∀ n H1, R n H1 → Q [.int n] H1) → ta σ H Q) (k : ∀ n H1, R n H1 → tSeq (tFor (iRng1 (tCons (tC (.int n)) tNil)) (gName j) tu) tz D σ H1) : tSeq (tFor (iRng1 ta) (gName j) tu) tz D σ H := h _ fun n H1 r => k n H1 r
end Db

namespace Db
open PySem L2 Evl StX
/-! ### cells and worths by other numbers -/
structure Ren (n : Nat) (f g f' g' : Nat → Nat) : Prop where
  f1 : ∀ c, c < n → f c < n
  f2 : ∀ c, c < n → f' c < n
  f3 : ∀ c, c < n → f' (f c) = c
  f4 : ∀ c, c < n → f (f' c) = c
  g1 : ∀ c, c < 3 → g c < 3
  g2 : ∀ c, c < 3 → g' c < 3
  g3 : ∀ c, c < 3 → g' (g c) = c
  g4 : ∀ c, c < 3 → g (g' c) = c
theorem Ren.symm {n : Nat} {f g f' g' : Nat → Nat} (h : Ren n f g f' g') : Ren n f' g' f g := ⟨h.f2, h.f1, h.f4, h.f3, h.g2, h.g1, h.g4, h.g3⟩
theorem Ren.finj {n : Nat} {f g f' g' : Nat → Nat} (h : Ren n f g f' g') {a b : Nat} (ha : a < n) (hb : b < n) : f a = f b ↔ a = b :=
  ⟨fun e => by rw [← h.f3 a ha, e, h.f3 b hb], fun e => by rw [e]⟩
/-- a list of numbers as a map -/
def atN (l : List Nat) (c : Nat) : Nat := l.getD c 0
theorem perm_ren {cs ws : List Nat} {n : Nat} (h : cs.Perm (List.range n)) (k : ws.Perm (List.range 3)) : Ren n (atN cs) (atN ws) cs.idxOf ws.idxOf := by
  have go : ∀ {l : List Nat} {m : Nat}, l.Perm (List.range m) → (∀ c, c < m → atN l c < m) ∧ (∀ c, c < m → l.idxOf c < m) ∧ (∀ c, c < m → l.idxOf (atN l c) = c) ∧ (∀ c, c < m → atN l (l.idxOf c) = c) := by
    intro l m h
    have hl : l.length = m := by rw [h.length_eq, List.length_range]
    have hm : ∀ x, x ∈ l ↔ x < m := fun x => by rw [h.mem_iff, List.mem_range]
    have nd : l.Nodup := h.nodup_iff.mpr List.nodup_range
    refine ⟨fun c hc => ?_, fun c hc => ?_, fun c hc => ?_, fun c hc => ?_⟩
    · unfold atN
      rw [List.getD_eq_getElem?_getD, List.getElem?_eq_getElem (by omega)]
      exact (hm _).mp (List.getElem_mem _)
    · rw [← hl]
      exact List.idxOf_lt_length_iff.mpr ((hm c).mpr hc)
    · unfold atN
      rw [List.getD_eq_getElem?_getD, List.getElem?_eq_getElem (by omega)]
      show List.idxOf l[c] l = c
      exact nd.idxOf_getElem c (by omega)
    · have hi : l.idxOf c < l.length := List.idxOf_lt_length_iff.mpr ((hm c).mpr hc)
      unfold atN
      rw [List.getD_eq_getElem?_getD, List.getElem?_eq_getElem hi]
      exact List.getElem_idxOf hi
  obtain ⟨a1, a2, a3, a4⟩ := go h
  obtain ⟨b1, b2, b3, b4⟩ := go k
  exact ⟨a1, a2, a3, a4, b1, b2, b3, b4⟩
def Deed.ren (f g : Nat → Nat) : Deed → Deed
  | .rd c => .rd (f c)
  | .wr c w => .wr (f c) (g w)
  | .rs => .rs
section
variable {n : Nat} {f g f' g' : Nat → Nat}
theorem Deed.ren_ok (R : Ren n f g f' g') : ∀ {d : Deed}, d.ok n → (d.ren f g).ok n
  | .rd c, h => R.f1 c h
  | .wr c w, h => ⟨R.f1 c h.1, R.g1 w h.2⟩
  | .rs, _ => True.intro
theorem Deed.ren_ren (R : Ren n f g f' g') : ∀ {d : Deed}, d.ok n → (d.ren f g).ren f' g' = d
  | .rd c, h => by show Deed.rd (f' (f c)) = _; rw [R.f3 c h]
  | .wr c w, h => by show Deed.wr (f' (f c)) (g' (g w)) = _; rw [R.f3 c h.1, R.g3 w h.2]
  | .rs, _ => rfl
theorem ren_all (R : Ren n f g f' g') {ds : List Deed} (h : ∀ d ∈ ds, d.ok n) : ∀ d ∈ ds.map (Deed.ren f g), d.ok n := fun d hd => by
  obtain ⟨e, he, rfl⟩ := List.mem_map.mp hd
  exact Deed.ren_ok R (h e he)
theorem ren_back (R : Ren n f g f' g') {ds : List Deed} (h : ∀ d ∈ ds, d.ok n) : (ds.map (Deed.ren f g)).map (Deed.ren f' g') = ds := by
  rw [List.map_map]
  conv => rhs; rw [← List.map_id ds]
  exact List.map_congr_left fun d hd => Deed.ren_ren R (h d hd)
/-- a memory by other numbers -/
structure Mr (n : Nat) (f g : Nat → Nat) (u v : List Nat) : Prop where
  lu : u.length = n
  lv : v.length = n
  su : ∀ x ∈ u, x < 3
  sv : ∀ x ∈ v, x < 3
  at_ : ∀ c, c < n → v.getD (f c) 0 = g (u.getD c 0)
theorem getD_lt {u : List Nat} {c n : Nat} (l : u.length = n) (h : ∀ x ∈ u, x < 3) (hc : c < n) : u.getD c 0 < 3 := by
  rw [List.getD_eq_getElem?_getD, List.getElem?_eq_getElem (by omega)]
  exact h _ (List.getElem_mem _)
theorem Mr.symm (R : Ren n f g f' g') {u v : List Nat} (h : Mr n f g u v) : Mr n f' g' v u := by
  refine ⟨h.lv, h.lu, h.sv, h.su, fun c hc => ?_⟩
  have e := h.at_ (f' c) (R.f2 c hc)
  rw [R.f4 c hc] at e
  rw [e, R.g3 _ (getD_lt h.lu h.su (R.f2 c hc))]
theorem Mr.det (R : Ren n f g f' g') {u v w : List Nat} (h : Mr n f g u v) (k : Mr n f g u w) : v = w := by
  apply List.ext_getElem
  · rw [h.lv, k.lv]
  · intro i h1 h2
    have hi : i < n := by rw [← h.lv]; exact h1
    have e1 := h.at_ (f' i) (R.f2 i hi)
    have e2 := k.at_ (f' i) (R.f2 i hi)
    rw [R.f4 i hi, List.getD_eq_getElem?_getD, List.getElem?_eq_getElem h1] at e1
    rw [R.f4 i hi, List.getD_eq_getElem?_getD, List.getElem?_eq_getElem h2] at e2
    exact (show v[i] = _ from e1).trans (show w[i] = _ from e2).symm
theorem getD_set {u : List Nat} {c d w : Nat} (hd : d < u.length) : (u.set c w).getD d 0 = if c = d then w else u.getD d 0 := by
  rw [List.getD_eq_getElem?_getD, List.getElem?_set, List.getD_eq_getElem?_getD]
  by_cases e : c = d
  · subst e
    rw [if_pos rfl, if_pos hd, if_pos rfl]
    rfl
  · rw [if_neg e, if_neg e]
theorem Mr.wrl (R : Ren n f g f' g') {u v : List Nat} (h : Mr n f g u v) {d : Deed} (ok : d.ok n) : Mr n f g (wrl u d) (wrl v (d.ren f g)) := by
  refine ⟨(wrl_length _ _).trans h.lu, (wrl_length _ _).trans h.lv, wrl_small h.su ok, wrl_small h.sv (Deed.ren_ok R ok), ?_⟩
  cases d with
  | rd c => exact h.at_
  | rs => exact h.at_
  | wr c w =>
    intro i hi
    show (v.set (f c) (g w)).getD (f i) 0 = g ((u.set c w).getD i 0)
    rw [getD_set (by rw [h.lv]; exact R.f1 i hi), getD_set (by rw [h.lu]; exact hi)]
    by_cases e : c = i
    · rw [if_pos e, if_pos (by rw [e])]
    · rw [if_neg e, if_neg (fun z => e ((R.finj ok.1 hi).mp z)), h.at_ i hi]
theorem Mr.rdl {u v : List Nat} (h : Mr n f g u v) {d : Deed} (ok : d.ok n) : rdl v (d.ren f g) = (rdl u d).map g := by
  cases d with
  | rd c =>
    show [v.getD (f c) 0] = [g (u.getD c 0)]
    rw [h.at_ c ok]
  | rs => rfl
  | wr c w => rfl
theorem clash_ren (R : Ren n f g f' g') {d e : Deed} (hd : d.ok n) (he : e.ok n) : clashD (d.ren f g) (e.ren f g) = clashD d e := by
  have k : ∀ {a b : Nat}, a < n → b < n → decide (f a = f b) = decide (a = b) := fun ha hb => decide_eq_decide.mpr (R.finj ha hb)
  cases d <;> cases e <;> first
    | rfl
    | (show (decide (f _ = f _) && _) = (decide (_ = _) && _)
       rw [k]
       · rfl
       · first | exact hd | exact hd.1
       · first | exact he | exact he.1)
theorem rdl_sm3 {n : Nat} {u : List Nat} {d : Deed} (l : u.length = n) (h : ∀ x ∈ u, x < 3) (ok : d.ok n) : ∀ x ∈ Db.rdl u d, x < 3 := by
  intro x hx
  cases d with
  | rd c =>
    rw [List.mem_singleton.mp hx]
    exact getD_lt l h ok
  | rs => cases hx
  | wr c w => cases hx
theorem beat_seen3 {r : Rule} {u : List Nat} {d e : Deed} (l : u.length = n) (h : ∀ x ∈ u, x < 3) (hd : d.ok n) (he : e.ok n) : (∀ x ∈ (beat r u d e).2.1, x < 3) ∧ (∀ x ∈ (beat r u d e).2.2, x < 3) := by
  have w1 : ∀ x ∈ Db.wrl u d, x < 3 := wrl_small h hd
  have w2 : ∀ x ∈ Db.wrl u e, x < 3 := wrl_small h he
  have w3 : ∀ x ∈ Db.wrl (Db.wrl u e) d, x < 3 := wrl_small w2 hd
  have l1 : (Db.wrl u d).length = n := (wrl_length _ _).trans l
  have l2 : (Db.wrl u e).length = n := (wrl_length _ _).trans l
  have l3 : (Db.wrl (Db.wrl u e) d).length = n := (wrl_length _ _).trans l2
  cases r
  · exact ⟨rdl_sm3 l h hd, rdl_sm3 l h he⟩
  · exact ⟨rdl_sm3 l3 w3 hd, rdl_sm3 l3 w3 he⟩
  · exact ⟨rdl_sm3 l h hd, rdl_sm3 l1 w1 he⟩
  · exact ⟨rdl_sm3 l2 w2 hd, rdl_sm3 l h he⟩
  · exact ⟨rdl_sm3 l h hd, rdl_sm3 l1 w1 he⟩
theorem beat_ren (R : Ren n f g f' g') (r : Rule) {u v : List Nat} (h : Mr n f g u v) {d e : Deed} (hd : d.ok n) (he : e.ok n) :
    Mr n f g (beat r u d e).1 (beat r v (d.ren f g) (e.ren f g)).1 ∧ (beat r v (d.ren f g) (e.ren f g)).2.1 = (beat r u d e).2.1.map g ∧ (beat r v (d.ren f g) (e.ren f g)).2.2 = (beat r u d e).2.2.map g := by
  cases r
  · exact ⟨(h.wrl R he).wrl R hd, h.rdl hd, h.rdl he⟩
  · exact ⟨(h.wrl R he).wrl R hd, ((h.wrl R he).wrl R hd).rdl hd, ((h.wrl R he).wrl R hd).rdl he⟩
  · exact ⟨(h.wrl R hd).wrl R he, h.rdl hd, (h.wrl R hd).rdl he⟩
  · exact ⟨(h.wrl R he).wrl R hd, (h.wrl R he).rdl hd, h.rdl he⟩
  · exact ⟨(h.wrl R hd).wrl R he, h.rdl hd, (h.wrl R hd).rdl he⟩
/-- two states of which one is the other by other numbers -/
structure Sr (n : Nat) (f g : Nat → Nat) (S T : Sts) : Prop where
  ws : Mr n f g S.ws T.ws
  l : T.l = S.l.map (Deed.ren f g)
  r : T.r = S.r.map (Deed.ren f g)
  okl : ∀ d ∈ S.l, d.ok n
  okr : ∀ d ∈ S.r, d.ok n
  ss : T.ss = S.ss.map g
  os : T.os = S.os.map g
  n : T.n = S.n
  s3 : ∀ x ∈ S.ss, x < 3
  o3 : ∀ x ∈ S.os, x < 3
theorem headD_ren (l : List Deed) : (l.map (Deed.ren f g)).headD .rs = (l.headD .rs).ren f g := by cases l <;> rfl
theorem Sr.begin0 {u v : List Nat} {ds es : List Deed} (h : Mr n f g u v) (h1 : ∀ d ∈ ds, d.ok n) (h2 : ∀ d ∈ es, d.ok n) : Sr n f g (begin0 u ds es) (begin0 v (ds.map (Deed.ren f g)) (es.map (Deed.ren f g))) :=
  ⟨h, rfl, rfl, h1, h2, rfl, rfl, rfl, (fun _ z => nomatch z), (fun _ z => nomatch z)⟩
theorem Sr.after (R : Ren n f g f' g') {S T : Sts} (h : Sr n f g S T) {b b' : List Nat × List Nat × List Nat} (k : Mr n f g b.1 b'.1 ∧ b'.2.1 = b.2.1.map g ∧ b'.2.2 = b.2.2.map g) (k3 : (∀ x ∈ b.2.1, x < 3) ∧ (∀ x ∈ b.2.2, x < 3)) (w : Bool) : Sr n f g (after S b w) (after T b' w) := by
  refine ⟨k.1, ?_, ?_, fun d hd => h.okl d (mem_tail hd), ?_, ?_, ?_, ?_, fun x hx => (List.mem_append.mp hx).elim (h.s3 x) (k3.1 x), fun x hx => (List.mem_append.mp hx).elim (h.o3 x) (k3.2 x)⟩
  · show T.l.tail = _
    rw [h.l, ← List.map_tail]
    rfl
  · show (if w then T.r else T.r.tail) = List.map _ (if w then S.r else S.r.tail)
    cases w
    · show T.r.tail = S.r.tail.map _
      rw [h.r, List.map_tail]
    · exact h.r
  · show ∀ d ∈ (if w then S.r else S.r.tail), _
    cases w
    · exact fun d hd => h.okr d (mem_tail hd)
    · exact h.okr
  · show T.ss ++ b'.2.1 = List.map g (S.ss ++ b.2.1)
    rw [h.ss, k.2.1, List.map_append]
  · show T.os ++ b'.2.2 = List.map g (S.os ++ b.2.2)
    rw [h.os, k.2.2, List.map_append]
  · show T.n + 1 = S.n + 1
    rw [h.n]
theorem Sr.waits (R : Ren n f g f' g') {S T : Sts} (h : Sr n f g S T) (r : Rule) : waits r T = waits r S := by
  unfold Db.waits
  rw [h.l, h.r, headD_ren, headD_ren, clash_ren R (ok_headD h.okl) (ok_headD h.okr)]
theorem Sr.one (R : Ren n f g f' g') {S T : Sts} (h : Sr n f g S T) (r : Rule) : Sr n f g (one r S) (one r T) := by
  have w := h.waits R r
  have e1 : T.l.headD .rs = (S.l.headD .rs).ren f g := by rw [h.l, headD_ren]
  have e2 : T.r.headD .rs = (S.r.headD .rs).ren f g := by rw [h.r, headD_ren]
  unfold Db.one
  rw [w, e1, e2]
  by_cases z : Db.waits r S = true
  · rw [if_pos z, if_pos z]
    exact h.after R (beat_ren R .left h.ws (e := .rs) (ok_headD h.okl) True.intro) (beat_seen3 h.ws.lu h.ws.su (ok_headD h.okl) True.intro) true
  · rw [if_neg z, if_neg z]
    exact h.after R (beat_ren R r h.ws (ok_headD h.okl) (ok_headD h.okr)) (beat_seen3 h.ws.lu h.ws.su (ok_headD h.okl) (ok_headD h.okr)) false
theorem Sr.done {S T : Sts} (h : Sr n f g S T) : T.done ↔ S.done := by
  unfold Sts.done
  rw [h.l, h.r, List.map_eq_nil_iff, List.map_eq_nil_iff]
theorem Sr.runF (R : Ren n f g f' g') (r : Rule) : ∀ (m : Nat) {S T : Sts}, Sr n f g S T → Sr n f g (runF r m S) (runF r m T)
  | 0, _, _, h => h
  | m + 1, S, T, h => by
    refine Sr.runF R r m ?_
    by_cases z : S.done
    · rw [stepS_done z, stepS_done (h.done.mpr z)]
      exact h
    · rw [stepS_of z, stepS_of fun y => z (h.done.mp y)]
      exact h.one R r
theorem Sr.out (R : Ren n f g f' g') (r : Rule) {S T : Sts} (h : Sr n f g S T) : Sr n f g (out r S) (out r T) := by
  unfold Db.out
  have e : T.meas = S.meas := by unfold Sts.meas; rw [h.l, h.r, List.length_map, List.length_map]
  rw [e]
  exact Sr.runF R r _ h
theorem Sr.oneB (R : Ren n f g f' g') {S T : Sts} (h : Sr n f g S T) (b : Bool) : Sr n f g (oneB S b) (oneB T b) := by
  have e1 : T.l.headD .rs = (S.l.headD .rs).ren f g := by rw [h.l, headD_ren]
  have e2 : T.r.headD .rs = (S.r.headD .rs).ren f g := by rw [h.r, headD_ren]
  cases b
  · refine ⟨?_, ?_, h.r, fun d hd => h.okl d (mem_tail hd), h.okr, ?_, h.os, h.n, fun x hx => (List.mem_append.mp hx).elim (h.s3 x) (rdl_sm3 h.ws.lu h.ws.su (ok_headD h.okl) x), h.o3⟩
    · show Mr n f g (Db.wrl S.ws (S.l.headD .rs)) (Db.wrl T.ws (T.l.headD .rs))
      rw [e1]
      exact h.ws.wrl R (ok_headD h.okl)
    · show T.l.tail = S.l.tail.map _
      rw [h.l, List.map_tail]
    · show T.ss ++ Db.rdl T.ws (T.l.headD .rs) = List.map g (S.ss ++ Db.rdl S.ws (S.l.headD .rs))
      rw [e1, h.ws.rdl (ok_headD h.okl), h.ss, List.map_append]
  · refine ⟨?_, h.l, ?_, h.okl, fun d hd => h.okr d (mem_tail hd), h.ss, ?_, h.n, h.s3, fun x hx => (List.mem_append.mp hx).elim (h.o3 x) (rdl_sm3 h.ws.lu h.ws.su (ok_headD h.okr) x)⟩
    · show Mr n f g (Db.wrl S.ws (S.r.headD .rs)) (Db.wrl T.ws (T.r.headD .rs))
      rw [e2]
      exact h.ws.wrl R (ok_headD h.okr)
    · show T.r.tail = S.r.tail.map _
      rw [h.r, List.map_tail]
    · show T.os ++ Db.rdl T.ws (T.r.headD .rs) = List.map g (S.os ++ Db.rdl S.ws (S.r.headD .rs))
      rw [e2, h.ws.rdl (ok_headD h.okr), h.os, List.map_append]
theorem Sr.fol (R : Ren n f g f' g') : ∀ (o : List Bool) {S T : Sts}, Sr n f g S T → Sr n f g (fol o S) (fol o T)
  | [], _, _, h => h
  | b :: o, _, _, h => Sr.fol R o (h.oneB R b)
/-! what is told -/
structure Tr (n : Nat) (f g : Nat → Nat) (x y : T3) : Prop where
  a : y.1 = x.1.map g
  b : y.2.1 = x.2.1.map g
  c : Mr n f g x.2.2 y.2.2
  a3 : ∀ z ∈ x.1, z < 3
  b3 : ∀ z ∈ x.2.1, z < 3
theorem Sr.tr {S T : Sts} (h : Sr n f g S T) : Tr n f g (t3 S) (t3 T) := ⟨h.ss, h.os, h.ws, h.s3, h.o3⟩
theorem map_back {g g' : Nat → Nat} (R : ∀ c, c < 3 → g' (g c) = c) {l : List Nat} (h : ∀ z ∈ l, z < 3) : (l.map g).map g' = l := by
  rw [List.map_map]
  conv => rhs; rw [← List.map_id l]
  exact List.map_congr_left fun d hd => R d (h d hd)
theorem map_lt3 {g : Nat → Nat} (R : ∀ c, c < 3 → g c < 3) {l : List Nat} (h : ∀ z ∈ l, z < 3) : ∀ z ∈ l.map g, z < 3 := fun z hz => by
  obtain ⟨e, he, rfl⟩ := List.mem_map.mp hz
  exact R e (h e he)
theorem Tr.symm (R : Ren n f g f' g') {x y : T3} (h : Tr n f g x y) : Tr n f' g' y x :=
  ⟨by rw [h.a, map_back R.g3 h.a3], by rw [h.b, map_back R.g3 h.b3], h.c.symm R, by rw [h.a]; exact map_lt3 R.g1 h.a3, by rw [h.b]; exact map_lt3 R.g1 h.b3⟩
theorem Tr.det (R : Ren n f g f' g') {x y z : T3} (h : Tr n f g x y) (k : Tr n f g x z) : y = z := by
  obtain ⟨y1, y2, y3⟩ := y
  obtain ⟨z1, z2, z3⟩ := z
  have a := h.a.trans k.a.symm
  have b := h.b.trans k.b.symm
  have c := h.c.det R k.c
  dsimp only at a b c
  rw [a, b, c]
theorem Tr.eq_iff (R : Ren n f g f' g') {x y x' y' : T3} (h : Tr n f g x y) (k : Tr n f g x' y') : x = x' ↔ y = y' :=
  ⟨fun e => by subst e; exact h.det R k, fun e => by subst e; exact (h.symm R).det R.symm (k.symm R)⟩
theorem same_ren (R : Ren n f g f' g') {u v : List Nat} {ds es : List Deed} (h : Mr n f g u v) (h1 : ∀ d ∈ ds, d.ok n) (h2 : ∀ d ∈ es, d.ok n) (r q : Rule) :
    same3 (out r (begin0 v (ds.map (Deed.ren f g)) (es.map (Deed.ren f g)))) (out q (begin0 v (ds.map (Deed.ren f g)) (es.map (Deed.ren f g)))) = same3 (out r (begin0 u ds es)) (out q (begin0 u ds es)) := by
  have b := Sr.begin0 h h1 h2
  rw [Bool.eq_iff_iff, same3_iff, same3_iff]
  exact ((b.out R r).tr.eq_iff R (b.out R q).tr).symm
/-- a memory by other numbers, made -/
def renM (n : Nat) (f' g : Nat → Nat) (u : List Nat) : List Nat := (List.range n).map fun i => g (u.getD (f' i) 0)
theorem renM_mr (R : Ren n f g f' g') {u : List Nat} (l : u.length = n) (h : ∀ x ∈ u, x < 3) : Mr n f g u (renM n f' g u) := by
  refine ⟨l, by unfold renM; simp, h, fun x hx => ?_, fun c hc => ?_⟩
  · obtain ⟨i, hi, rfl⟩ := List.mem_map.mp hx
    exact R.g1 _ (getD_lt l h (R.f2 i (List.mem_range.mp hi)))
  · unfold renM
    rw [List.getD_eq_getElem?_getD, List.getElem?_map, List.getElem?_range (R.f1 c hc)]
    show g (u.getD (f' (f c)) 0) = _
    rw [R.f3 c hc]
theorem mems_in : ∀ {n : Nat} {m : List Nat}, m.length = n → (∀ x ∈ m, x < 3) → m ∈ mems n
  | 0, m, h, _ => by rw [List.length_eq_zero_iff.mp h]; exact List.mem_singleton.mpr rfl
  | n + 1, m, h, k => by
    have hne : m ≠ [] := by rintro rfl; cases h
    obtain ⟨u, x, rfl⟩ : ∃ u x, m = u ++ [x] := ⟨_, _, (List.dropLast_concat_getLast hne).symm⟩
    rw [List.length_append] at h
    have hu := mems_in (n := n) (m := u) (by simpa using h) fun y hy => k y (List.mem_append_left _ hy)
    have hx := k x (by simp)
    show u ++ [x] ∈ (mems n).flatMap grow
    refine List.mem_flatMap.mpr ⟨u, hu, ?_⟩
    unfold grow
    have : x = 0 ∨ x = 1 ∨ x = 2 := by omega
    rcases this with rfl | rfl | rfl <;> simp
theorem partRow_ren (R : Ren n f g f' g') {u v : List Nat} {ds es : List Deed} (h : Mr n f g u v) (h1 : ∀ d ∈ ds, d.ok n) (h2 : ∀ d ∈ es, d.ok n) (e : partRow u ds es = none) : partRow v (ds.map (Deed.ren f g)) (es.map (Deed.ren f g)) = none := by
  unfold partRow at e ⊢
  rw [Option.map_eq_none_iff, List.find?_eq_none] at e ⊢
  intro r hr
  rw [same_ren R h h1 h2]
  exact e r hr
theorem partD_ren1 (R : Ren n f g f' g') {ds es : List Deed} (h1 : ∀ d ∈ ds, d.ok n) (h2 : ∀ d ∈ es, d.ok n) (e : partD n ds es = none) : partD n (ds.map (Deed.ren f g)) (es.map (Deed.ren f g)) = none := by
  unfold partD at e ⊢
  rw [List.findSome?_eq_none_iff] at e ⊢
  intro m hm
  obtain ⟨ml, m3⟩ := mems_mem hm
  have k := renM_mr R.symm ml m3
  exact partRow_ren R (k.symm R.symm) h1 h2 (e _ (mems_in k.lv k.sv))
theorem partD_ren (R : Ren n f g f' g') {ds es : List Deed} (h1 : ∀ d ∈ ds, d.ok n) (h2 : ∀ d ∈ es, d.ok n) : partD n (ds.map (Deed.ren f g)) (es.map (Deed.ren f g)) = none ↔ partD n ds es = none := by
  refine ⟨fun e => ?_, partD_ren1 R h1 h2⟩
  have z := partD_ren1 R.symm (ren_all R h1) (ren_all R h2) e
  rwa [ren_back R h1, ren_back R h2] at z
theorem getD_ren (l : List Deed) (i : Nat) : (l.map (Deed.ren f g)).getD i .rs = (l.getD i .rs).ren f g := by
  rw [List.getD_eq_getElem?_getD, List.getD_eq_getElem?_getD, List.getElem?_map]
  cases l[i]? <;> rfl
theorem ok_getD {l : List Deed} (h : ∀ d ∈ l, d.ok n) (i : Nat) : (l.getD i .rs).ok n := by
  rw [List.getD_eq_getElem?_getD]
  cases e : l[i]? with
  | none => exact True.intro
  | some d => exact h d (List.mem_of_getElem? e)
theorem clashes_ren (R : Ren n f g f' g') {ds es : List Deed} (h1 : ∀ d ∈ ds, d.ok n) (h2 : ∀ d ∈ es, d.ok n) : clashesD (ds.map (Deed.ren f g)) (es.map (Deed.ren f g)) = clashesD ds es := by
  unfold clashesD
  rw [List.length_map, List.length_map]
  refine List.filter_congr fun i _ => ?_
  rw [getD_ren, getD_ren, clash_ren R (ok_getD h1 i) (ok_getD h2 i)]
/-! the right program fitted -/
structure Fr (f g : Nat → Nat) (S T : FitS) : Prop where
  p : T.prog.length = S.prog.length
  w : T.why = S.why
  n : T.num = S.num
theorem fitOne_ren (R : Ren n f g f' g') {ds es : List Deed} (h1 : ∀ d ∈ ds, d.ok n) (h2 : ∀ d ∈ es, d.ok n) {S T : FitS} (h : Fr f g S T) : Fr f g (fitOne ds es S) (fitOne (ds.map (Deed.ren f g)) (es.map (Deed.ren f g)) T) := by
  have c : T.cl (ds.map (Deed.ren f g)) (es.map (Deed.ren f g)) = S.cl ds es := by
    unfold FitS.cl
    rw [h.p, h.n, getD_ren, getD_ren, clash_ren R (ok_getD h1 _) (ok_getD h2 _)]
  unfold fitOne
  rw [c]
  cases S.cl ds es
  · exact ⟨by show (T.prog ++ [_]).length = (S.prog ++ [_]).length; rw [List.length_append, List.length_append, h.p]; rfl, h.w, by show T.num + 1 = S.num + 1; rw [h.n]⟩
  · exact ⟨by show (T.prog ++ [_]).length = (S.prog ++ [_]).length; rw [List.length_append, List.length_append, h.p], by show T.why ++ [_] = S.why ++ [_]; rw [h.w, h.p, h.n], h.n⟩
theorem fitF_ren (R : Ren n f g f' g') {ds es : List Deed} (h1 : ∀ d ∈ ds, d.ok n) (h2 : ∀ d ∈ es, d.ok n) : ∀ (m : Nat) {S T : FitS}, Fr f g S T → Fr f g (fitF ds es m S) (fitF (ds.map (Deed.ren f g)) (es.map (Deed.ren f g)) m T)
  | 0, _, _, h => h
  | m + 1, S, T, h => by
    refine fitF_ren R h1 h2 m ?_
    unfold fitStep
    have e : T.done (es.map (Deed.ren f g)) ↔ S.done es := by unfold FitS.done; rw [List.length_map, h.n]
    by_cases z : S.done es
    · rw [if_pos z, if_pos (e.mpr z)]
      exact h
    · rw [if_neg z, if_neg fun y => z (e.mp y)]
      exact fitOne_ren R h1 h2 h
theorem fitD_ren (R : Ren n f g f' g') {ds es : List Deed} (h1 : ∀ d ∈ ds, d.ok n) (h2 : ∀ d ∈ es, d.ok n) : (fitD (ds.map (Deed.ren f g)) (es.map (Deed.ren f g))).why = (fitD ds es).why := by
  unfold fitD fitEnd
  have e : fit0.meas (ds.map (Deed.ren f g)) (es.map (Deed.ren f g)) = fit0.meas ds es := by unfold FitS.meas; rw [List.length_map, List.length_map]
  rw [e]
  exact (fitF_ren R h1 h2 _ ⟨rfl, rfl, rfl⟩).w
end
/-! ### doors exchanged -/
structure Ex2 (S T : Sts) : Prop where
  ws : T.ws = S.ws
  l : T.l = S.r
  r : T.r = S.l
  ss : T.ss = S.os
  os : T.os = S.ss
  n : T.n = S.n
theorem Ex2.runF : ∀ (m : Nat) {S T : Sts}, Ex2 S T → Ex2 (runF .left m S) (runF .right m T)
  | 0, _, _, h => h
  | m + 1, S, T, h => by
    refine Ex2.runF m ?_
    have e : T.done ↔ S.done := by unfold Sts.done; rw [h.l, h.r]; exact And.comm
    by_cases z : S.done
    · rw [stepS_done z, stepS_done (e.mpr z)]
      exact h
    · rw [stepS_of z, stepS_of fun y => z (e.mp y)]
      have e1 : one .left S = after S (beat .left S.ws (S.l.headD .rs) (S.r.headD .rs)) false := rfl
      have e2 : one .right T = after T (beat .right T.ws (T.l.headD .rs) (T.r.headD .rs)) false := rfl
      rw [e1, e2, h.ws, h.l, h.r]
      refine ⟨rfl, ?_, ?_, ?_, ?_, ?_⟩
      · show T.l.tail = S.r.tail; rw [h.l]
      · show T.r.tail = S.l.tail; rw [h.r]
      · show T.ss ++ _ = S.os ++ _; rw [h.ss]; rfl
      · show T.os ++ _ = S.ss ++ _; rw [h.os]; rfl
      · show T.n + 1 = S.n + 1; rw [h.n]
theorem out_ex (ws : List Nat) (ds es : List Deed) : Ex2 (out .left (begin0 ws ds es)) (out .right (begin0 ws es ds)) := by
  unfold Db.out
  have e : (begin0 ws es ds).meas = (begin0 ws ds es).meas := Nat.add_comm _ _
  rw [e]
  exact Ex2.runF _ ⟨rfl, rfl, rfl, rfl, rfl, rfl⟩
/-! ### as many that come -/
theorem images_len {α β γ : Type} [DecidableEq β] [DecidableEq γ] {L : List α} {k : α → β} {k' : α → γ} (h : ∀ a ∈ L, ∀ b ∈ L, k a = k b ↔ k' a = k' b) {A : List β} {A' : List γ} (nA : A.Nodup) (nA' : A'.Nodup)
    (hA : ∀ x, x ∈ A ↔ ∃ o ∈ L, k o = x) (hA' : ∀ x, x ∈ A' ↔ ∃ o ∈ L, k' o = x) : A.length = A'.length := by
  have ch : ∀ x : { x // x ∈ A }, ∃ o, o ∈ L ∧ k o = x.1 := fun x => (hA x.1).mp x.2
  let φ : { x // x ∈ A } → γ := fun x => k' (Classical.choose (ch x))
  have hφ : ∀ x, ∃ o, o ∈ L ∧ k o = x.1 ∧ φ x = k' o := fun x => ⟨_, (Classical.choose_spec (ch x)).1, (Classical.choose_spec (ch x)).2, rfl⟩
  have inj : ∀ x y, φ x = φ y → x = y := fun x y e => by
    obtain ⟨o, h1, h2, h3⟩ := hφ x
    obtain ⟨u, k1, k2, k3⟩ := hφ y
    apply Subtype.ext
    rw [← h2, ← k2]
    exact (h o h1 u k1).mpr (by rw [← h3, ← k3, e])
  have nd : (A.attach.map φ).Nodup := by
    rw [List.nodup_iff_pairwise_ne, List.pairwise_map]
    have q : (A.attach.map Subtype.val).Nodup := by rw [List.attach_map_subtype_val]; exact nA
    rw [List.nodup_iff_pairwise_ne, List.pairwise_map] at q
    exact q.imp fun n e => n (congrArg Subtype.val (inj _ _ e))
  have pm : (A.attach.map φ).Perm A' := by
    refine (List.perm_ext_iff_of_nodup nd nA').mpr fun x => ?_
    rw [hA' x, List.mem_map]
    constructor
    · rintro ⟨a, _, rfl⟩
      obtain ⟨o, h1, _, h3⟩ := hφ a
      exact ⟨o, h1, h3.symm⟩
    · rintro ⟨o, ho, rfl⟩
      refine ⟨⟨k o, (hA _).mpr ⟨o, ho, rfl⟩⟩, List.mem_attach _ _, ?_⟩
      obtain ⟨u, k1, k2, k3⟩ := hφ ⟨k o, (hA _).mpr ⟨o, ho, rfl⟩⟩
      rw [k3]
      exact (h u k1 o ho).mp k2
  have e := pm.length_eq
  rwa [List.length_map, List.length_attach] at e
theorem res_ren {n : Nat} {f g f' g' : Nat → Nat} (R : Ren n f g f' g') {u v : List Nat} {ds es : List Deed} (h : Mr n f g u v) (h1 : ∀ d ∈ ds, d.ok n) (h2 : ∀ d ∈ es, d.ok n) (o p : List Bool) :
    res u ds es o = res u ds es p ↔ res v (ds.map (Deed.ren f g)) (es.map (Deed.ren f g)) o = res v (ds.map (Deed.ren f g)) (es.map (Deed.ren f g)) p := by
  have b := Sr.begin0 h h1 h2
  exact (b.fol R o).tr.eq_iff R (b.fol R p).tr
/-- a method of a list within a comprehension's block -/
theorem pe_bmK {X : Cx} {o e : Expr} {es : List Expr} {to : TE} {t : TA} {name : Str} {apos cpos : Pos} {T id : String} {r : V → List V → Hp → VK → Prop} (K : PySem.W.Frag) (pa : PlainAttrs T) (slot : Slot T name id) (hty : typeOf (.builtin id) = pure (.type "method_descriptor")) (hm : MtR X id r) (ho : PE X o to) (ha : PA X (e :: es) t) (eK : X.K = K := by rfl)
    (hbase : attributeBase o name X.env (eval o X.env) = eval o X.env := by rfl)
    (hfew : ((backTo cpos (starEach (e :: es) X.env)).all (fun x => !x.1) && (backToKw cpos (keywordEach [] X.env)).all (fun x => x.1.isSome)
      && decide ((e :: es).length + ([] : List Keyword).length + (if ([] : List Keyword).isEmpty then 0 else 1) < 30)) = true := by rfl)
    (hline : (apos.endLine == cpos.line) = true := by rfl) (hs : starEach (e :: es) X.env = (false, eval e X.env) :: starEach es X.env := by rfl) (hplain : (backTo cpos (starEach es X.env)).any (·.1) = false := by rfl) :
    PE X (.Call (.Attribute o name apos) (e :: es) [] cpos) (tBM K T r to t) := by
  subst eK
  exact pe_bm pa slot hty hm ho ha hbase hfew hline hs hplain
theorem erase_perm {α : Type} : ∀ (l : List α) (i : Nat) (h : i < l.length), ([l[i]] ++ l.eraseIdx i).Perm l
  | a :: r, 0, _ => List.Perm.refl _
  | a :: r, i + 1, h => (List.Perm.swap a (r[i]'(Nat.lt_of_succ_lt_succ h)) (r.eraseIdx i)).trans ((erase_perm r i (Nat.lt_of_succ_lt_succ h)).cons a)
theorem sl_tupAK {X : Cx} (K : PySem.W.Frag) (e : X.K = K := by rfl) : SlR X (rSlA K) := by subst e; exact sl_tupA
/-! ### an expression whose value is a tuple of these, new or not -/
def EvQ (K : PySem.W.Frag) (te : TE) (σ : L2.St) (H : Hp) (xs : List V) : Prop := ∀ H1, Ex H H1 → ∀ Q : VK, (∀ p H2, Ex H1 H2 → SqT K H2 p xs → Q (.ref p) H2) → te σ H1 Q
section
variable {K : PySem.W.Frag} {σ : L2.St} {H : Hp} {te ta tb : TE} {t : TT} {tu tz : TS} {D : Ends} {xs ys : List V} {a : Addr}
theorem eu_slN {lo hi : Option Int} {tl th : TO} {a : Addr} {xs : List V} (h : Ev te σ H (.ref a)) (h1 : EvO tl σ H lo) (h2 : EvO th σ H hi) (hs : SqT K H a xs) (hw : ¬ (HT.sIx xs.length 0 lo = 0 ∧ HT.sIx xs.length xs.length hi = xs.length)) : EvU (tSl (rSlT K) te tl th) σ H (cutV xs lo hi) := fun H1 e _ q =>
  h H1 e _ fun H2 e2 => h1 H2 (e.trans e2) _ fun H3 e3 => h2 H3 ((e.trans e2).trans e3) _ fun H4 e4 =>
    ⟨a, xs, rfl, ex_t (((e.trans e2).trans e3).trans e4) hs, hw, fun p hp => q p _ (fresh_back ((e2.trans e3).trans e4) hp) (((e2.trans e3).trans e4).trans (Ex.new hp)) upd_same⟩
theorem eq_is (h : EvQ K te σ H xs) (e : xs = ys) : EvQ K te σ H ys := by
  rw [← e]
  exact h
theorem eq_U (h : EvU te σ H xs) : EvQ K te σ H xs := fun H1 e Q q => h H1 e _ fun p H2 _ f hp => q p H2 f (SqT.of hp)
theorem eq_ev (h : Ev te σ H (.ref a)) (hx : SqT K H a xs) : EvQ K te σ H xs := fun H1 e Q q => h H1 e _ fun H2 f => q a H2 f (ex_t (e.trans f) hx)
theorem eq_slA {lo hi : Option Int} {tl th : TO} (h : Ev te σ H (.ref a)) (h1 : EvO tl σ H lo) (h2 : EvO th σ H hi) (hs : SqT K H a xs) : EvQ K (tSl (rSlA K) te tl th) σ H (cutV xs lo hi) := fun H1 e Q q =>
  h H1 e _ fun H2 e2 => h1 H2 (e.trans e2) _ fun H3 e3 => h2 H3 ((e.trans e2).trans e3) _ fun H4 e4 => by
    have f := (e2.trans e3).trans e4
    refine ⟨a, xs, rfl, ex_t (e.trans f) hs, fun hw => ?_, fun hw p hp => q p _ (f.trans (Ex.new hp)) (SqT.of upd_same)⟩
    have ec : cutV xs lo hi = xs := by
      unfold cutV
      rw [hw.1, hw.2]
      simp
    rw [ec] at q
    exact q a H4 f (ex_t (e.trans f) hs)
theorem eq_catT (ha : EvQ K ta σ H xs) (hb : EvQ K tb σ H ys) (hx : xs ≠ []) (hz : xs.length + ys.length ≤ 100000) : EvQ K (tOp (rCatT K) ta tb) σ H (xs ++ ys) := fun H1 e Q q =>
  ha H1 e _ fun p H2 f hp => hb H2 (e.trans f) _ fun r H3 g hr => ⟨p, r, xs, ys, rfl, rfl, ex_t g hp, hr, hx, Nat.le_trans hz (by decide), fun z => by
    subst z
    rw [List.append_nil] at q
    exact q p H3 (f.trans g) (ex_t g hp), fun _ l hl => q l _ ((f.trans g).trans (Ex.new hl)) (SqT.of upd_same)⟩
theorem s_asgQ {i : Nat} (h : EvQ K te σ H xs) (k : ∀ p H1, Ex H H1 → SqT K H1 p xs → D.nx (σ.set i (some (.ref p))) H1) : tAsg te (gName i) D σ H := h H (Ex.refl H) _ fun p H1 f hp => k p H1 f hp
theorem q_asgQ {i : Nat} (h : EvQ K te σ H xs) (k : ∀ p H1, Ex H H1 → SqT K H1 p xs → tz D (σ.set i (some (.ref p))) H1) : tSeq (tAsg te (gName i)) tz D σ H := h H (Ex.refl H) _ fun p H1 f hp => k p H1 f hp
theorem s_appQ {l : Addr} {zs : List V} (hl : H l = some (.lst zs)) (ha : Ev ta σ H (.ref l)) (h : EvQ K te σ H xs) (hz : zs.length < 100000) (k : ∀ p H1, Ex H H1 → SqT K H1 p xs → D.nx σ (upd H1 l (.lst (zs ++ [.ref p])))) :
    tDrop (tBM K "list" rAppend ta (tCons te tNil)) D σ H := ha H (Ex.refl H) _ fun H1 e => ⟨Or.inl ⟨rfl, _, SqL.of (e _ _ hl)⟩, h H1 e _ fun p H2 f hp => ⟨l, zs, _, rfl, rfl, (e.trans f) _ _ hl, Nat.lt_of_lt_of_le hz (by decide), k p H2 (e.trans f) hp⟩⟩
end
/-! ### an expression whose value is such data -/
def EvD (K : PySem.W.Frag) (te : TE) (σ : L2.St) (H : Hp) (d : PyData) : Prop := ∀ H1, Ex H H1 → ∀ Q : VK, (∀ v H2, Ex H1 H2 → Dp K H2 v d → Q v H2) → te σ H1 Q
section
variable {K : PySem.W.Frag} {σ : L2.St} {H : Hp} {te ta tb : TE} {d : PyData} {v : V} {n : Nat}
theorem ed_ev (h : Ev te σ H v) (hd : Dp K H v d) : EvD K te σ H d := fun H1 e Q q => h H1 e _ fun H2 f => q v H2 f (dp_mono (e.trans f) _ _ hd)
theorem ed_L {ns : List Nat} (h : EvL te σ H (ns.map wV)) : EvD K te σ H (.list (wD ns)) := fun H1 e Q q => h H1 e _ fun p H2 _ f hp => q _ H2 f (.lst (SqL.of hp) (dpa_w _))
theorem et_neD (ha : EvD K ta σ H d) (hb : EvD K tb σ H d) (s : Sh n d) (hn : n ≤ 64) : EvT (tTest (tOp (rNeD K) ta tb)) σ H false := fun H1 e Q q =>
  ha H1 e _ fun u H2 f hu => hb H2 (e.trans f) _ fun w H3 g hw => ⟨d, d, dp_mono g _ _ hu, hw, s.shaped hn, s.shaped hn, ⟨false, by rw [s.eqv]; rfl, q H3 (f.trans g)⟩⟩
end
/-! ### a memory by other numbers, laid out step by step -/
def lastTo (n : Nat) (f g : Nat → Nat) (u : List Nat) : Nat → List Nat
  | 0 => List.replicate n 0
  | i + 1 => (lastTo n f g u i).set (f i) (g (u.getD i 0))
theorem lastTo_length (n : Nat) (f g : Nat → Nat) (u : List Nat) : ∀ i, (lastTo n f g u i).length = n
  | 0 => List.length_replicate
  | i + 1 => by rw [lastTo, List.length_set, lastTo_length]
theorem lastTo_at {n : Nat} {f g f' g' : Nat → Nat} (R : Ren n f g f' g') {u : List Nat} (l : u.length = n) (h : ∀ x ∈ u, x < 3) : ∀ i, i ≤ n → (∀ x ∈ lastTo n f g u i, x < 3) ∧ ∀ c, c < i → (lastTo n f g u i).getD (f c) 0 = g (u.getD c 0)
  | 0, _ => ⟨fun x hx => by rw [List.eq_of_mem_replicate hx]; decide, fun _ z => absurd z (Nat.not_lt_zero _)⟩
  | i + 1, hi => by
    obtain ⟨h1, h2⟩ := lastTo_at R l h i (by omega)
    refine ⟨fun x hx => ?_, fun c hc => ?_⟩
    · rcases List.mem_or_eq_of_mem_set hx with hx | rfl
      · exact h1 x hx
      · exact R.g1 _ (getD_lt l h (by omega))
    · rw [lastTo, getD_set (by rw [lastTo_length]; exact R.f1 c (by omega))]
      by_cases e : f i = f c
      · rw [if_pos e, (R.finj (by omega) (by omega)).mp e]
      · rw [if_neg e]
        refine h2 c ?_
        by_cases z : c = i
        · exact absurd (by rw [z]) e
        · omega
theorem lastTo_mr {n : Nat} {f g f' g' : Nat → Nat} (R : Ren n f g f' g') {u : List Nat} (l : u.length = n) (h : ∀ x ∈ u, x < 3) : Mr n f g u (lastTo n f g u n) :=
  ⟨l, lastTo_length _ _ _ _ _, h, (lastTo_at R l h n (Nat.le_refl _)).1, (lastTo_at R l h n (Nat.le_refl _)).2⟩
section
variable {K : PySem.W.Frag} {σ : L2.St} {H : Hp} {te ta tb tl : TE} {tu tz : TS} {D : Ends} {d : PyData} {v : V} {n : Nat}
theorem q_asgD {i : Nat} (h : EvD K te σ H d) (k : ∀ v H1, Ex H H1 → Dp K H1 v d → tz D (σ.set i (some v)) H1) : tSeq (tAsg te (gName i)) tz D σ H := h H (Ex.refl H) _ fun v H1 f hd => k v H1 f hd
theorem el_listU {xs : List V} (h : EvU ta σ H xs) : EvL (tCB (rListS K) (tCons ta tNil)) σ H xs := fun H1 e Q q =>
  h H1 e _ fun p H2 _ f hp => ⟨p, xs, rfl, .inr (SqT.of hp), fun l hl => q l _ (fresh_back f hl) (f.trans (Ex.new hl)) upd_same⟩
theorem ed_L2 {s o : Addr} {A B : List Nat} (h : EvL te σ H [.ref s, .ref o]) (hs : H s = some (.lst (A.map wV))) (ho : H o = some (.lst (B.map wV))) : EvD K te σ H (.list [.list (wD A), .list (wD B)]) := fun H1 e Q q =>
  h H1 e _ fun p H2 _ f hp => q _ H2 f (.lst (SqL.of hp) (.cons (.lst (SqL.of (f _ _ (e _ _ hs))) (dpa_w _)) (.cons (.lst (SqL.of (f _ _ (e _ _ ho))) (dpa_w _)) .nil)))
/-- [[.. for y in x] for x in (x0, x1)] -/
theorem ed_two {x y : V} {j : Nat} {vs : List Nat} {A B : List Nat} (h : EvU tl σ H [x, y]) (hw : ∀ x, wipe ((wipe σ vs).set j (some x)) vs = wipe σ vs) (h0 : ∀ H1, Ex H H1 → EvL te ((wipe σ vs).set j (some x)) H1 (A.map wV)) (h1 : ∀ H1, Ex H H1 → EvL te ((wipe σ vs).set j (some y)) H1 (B.map wV)) :
    EvD K (tLc (iTup K tl) (gName j) tYes te vs) σ H (.list [.list (wD A), .list (wD B)]) := fun H0 e Q q => h H0 e _ fun a Ha na e1 ha => ⟨a, rfl, ⟨_, st_of ha⟩, fun Dl hD => by
  refine lc_tup (xs := [x, y]) (fun i X => Ex Ha X ∧ match i with
    | 0 => X Dl = some (.lst [])
    | 1 => ∃ t1, X Dl = some (.lst [.ref t1]) ∧ t1 ≠ Dl ∧ X t1 = some (.lst (A.map wV))
    | _ => ∃ t1 t2, X Dl = some (.lst [.ref t1, .ref t2]) ∧ X t1 = some (.lst (A.map wV)) ∧ X t2 = some (.lst (B.map wV))) ⟨Ex.new hD, upd_same⟩ (fun i X _ p => st_of (p.1 _ _ ha)) ?_ ?_
  · intro i z X hz p
    refine ⟨hw z, ?_⟩
    match i, p with
    | 0, ⟨p1, p2⟩ =>
      have p2 : X Dl = some (.lst []) := p2
      have ez : z = x := (Option.some.inj hz).symm
      subst ez
      refine (h0 X (e.trans (e1.trans p1))) X (Ex.refl X) _ fun l Y nl f hl => ⟨[], f _ _ p2, by decide, (p1.trans f).mut hD, l, upd_same, ?_, ?_⟩
      · exact (ne_of_none p2 nl).symm
      · rw [upd_ne (ne_of_none p2 nl).symm]
        exact hl
    | 1, ⟨p1, t1, p2, p3, p4⟩ =>
      have ez : z = y := (Option.some.inj hz).symm
      subst ez
      refine (h1 X (e.trans (e1.trans p1))) X (Ex.refl X) _ fun l Y nl f hl => ⟨[.ref t1], f _ _ p2, by show 1 < sizeLine; decide, (p1.trans f).mut hD, t1, l, upd_same, ?_, ?_⟩
      · rw [upd_ne p3]
        exact f _ _ p4
      · rw [upd_ne (ne_of_none p2 nl).symm]
        exact hl
    | i + 2, _ => cases hz
  · rintro X ⟨p1, t1, t2, p2, p3, p4⟩
    exact q _ X (e1.trans p1) (.lst (SqL.of p2) (.cons (.lst (SqL.of p3) (dpa_w _)) (.cons (.lst (SqL.of p4) (dpa_w _)) .nil)))⟩
theorem ed_is {e : PyData} (h : EvD K te σ H d) (q : d = e) : EvD K te σ H e := by
  rw [← q]
  exact h
theorem sh_LL (A B : List Nat) : Sh 2 (.list [.list (wD A), .list (wD B)]) := sh_lst fun d hd => by
  simp only [List.mem_cons, List.not_mem_nil, or_false] at hd
  rcases hd with rfl | rfl <;> exact sh_w _
end
theorem PV.takeR {K : PySem.W.Frag} {H : Hp} : ∀ {vs : List V} {ds : List Deed} (n : Nat), PV K H vs ds → PV K H (vs.take n) (ds.take n)
  | _, _, 0, _ => .nil
  | _, _, n + 1, .nil => .nil
  | _, _, n + 1, .cons r t => .cons r (PV.takeR n t)
theorem non_of {K : PySem.W.Frag} {H : Hp} {v : V} {o : Option (List Nat × Rule)} (h : Dp K H v (datP o)) : decide (v = .non) = decide (o = none) := by
  cases o with
  | none =>
    have h : Dp K H v .none := h
    cases h
    rfl
  | some p =>
    obtain ⟨a, r⟩ := p
    have h : Dp K H v (.tuple [.tuple (wD a), .str "old", .str r.name]) := h
    cases h
    rfl
/-- as many come by other numbers -/
theorem came_len {n : Nat} {f g f' g' : Nat → Nat} (R : Ren n f g f' g') {u v : List Nat} {ds es : List Deed} (h : Mr n f g u v) (h1 : ∀ d ∈ ds, d.ok n) (h2 : ∀ d ∈ es, d.ok n) {A B : List T3} (nA : A.Nodup) (nB : B.Nodup)
    (hA : ∀ x, x ∈ A ↔ ∃ o ∈ ordersD ds.length es.length, res u ds es o = x) (hB : ∀ x, x ∈ B ↔ ∃ o ∈ ordersD (ds.map (Deed.ren f g)).length (es.map (Deed.ren f g)).length, res v (ds.map (Deed.ren f g)) (es.map (Deed.ren f g)) o = x) : A.length = B.length := by
  rw [List.length_map, List.length_map] at hB
  exact images_len (fun o _ p _ => res_ren R h h1 h2 o p) nA nB hA hB
end Db

namespace Db
open PySem L2 Evl StX
/-! ### texts by their signs -/
def tS (l : List Nat) : Str := ⟨l.toArray⟩
theorem tS_list (l : List Nat) : (tS l).cps.toList = l := by unfold tS; simp
theorem tS_len (l : List Nat) : (tS l).length = l.length := by unfold tS Str.length; simp
theorem tS_app (a b : List Nat) : tS a ++ tS b = tS (a ++ b) := by
  show Str.append _ _ = _
  unfold Str.append tS
  simp
theorem tS_of (x : Str) : tS x.cps.toList = x := by unfold tS; simp
theorem tS_inj {a b : List Nat} (h : tS a = tS b) : a = b := by
  have z := congrArg (fun s : Str => s.cps.toList) h
  simpa [tS_list] using z
theorem tS_is (a b : List Nat) : decide (V.str (tS a) = V.str (tS b)) = decide (a = b) :=
  decide_eq_decide.mpr ⟨fun h => tS_inj (V.str.inj h), fun h => by rw [h]⟩
/-- joined by one sign -/
def jn (c : Nat) : List (List Nat) → List Nat
  | [] => []
  | [x] => x
  | x :: y :: r => x ++ c :: jn c (y :: r)
theorem jn_cons {c : Nat} {x : List Nat} {r : List (List Nat)} (h : r ≠ []) : jn c (x :: r) = x ++ c :: jn c r := by
  cases r with
  | nil => exact absurd rfl h
  | cons y r => rfl
theorem join_tS (c : Nat) : ∀ ws : List (List Nat), Str.join ⟨#[c]⟩ (ws.map tS) = tS (jn c ws)
  | [] => rfl
  | [x] => rfl
  | x :: y :: r => by
    show tS x ++ ⟨#[c]⟩ ++ Str.join ⟨#[c]⟩ ((y :: r).map tS) = tS (x ++ c :: jn c (y :: r))
    rw [join_tS c (y :: r), show (⟨#[c]⟩ : Str) = tS [c] from rfl, tS_app, tS_app]
    simp
theorem join_tS0 : ∀ ws : List (List Nat), Str.join ⟨#[]⟩ (ws.map tS) = tS ws.flatten
  | [] => rfl
  | [x] => by simp [Str.join]
  | x :: y :: r => by
    show tS x ++ ⟨#[]⟩ ++ Str.join ⟨#[]⟩ ((y :: r).map tS) = _
    rw [join_tS0 (y :: r), show (⟨#[]⟩ : Str) = tS [] from rfl, tS_app, tS_app]
    simp
theorem app_free {c : Nat} : ∀ {a b u v : List Nat}, c ∉ a → c ∉ b → a ++ c :: u = b ++ c :: v → a = b ∧ u = v
  | [], [], u, v, _, _, h => ⟨rfl, by simpa using h⟩
  | [], y :: b, u, v, _, hb, h => by
    have e : c = y := (List.cons.inj h).1
    exact absurd (by rw [e]; simp) hb
  | x :: a, [], u, v, ha, _, h => by
    have e : x = c := (List.cons.inj h).1
    exact absurd (by rw [← e]; simp) ha
  | x :: a, y :: b, u, v, ha, hb, h => by
    obtain ⟨e1, e2⟩ := List.cons.inj h
    obtain ⟨r1, r2⟩ := app_free (fun z => ha (by simp [z])) (fun z => hb (by simp [z])) e2
    exact ⟨by rw [e1, r1], r2⟩
theorem jn_inj {c : Nat} : ∀ {a b : List (List Nat)}, a ≠ [] → b ≠ [] → (∀ w ∈ a, c ∉ w) → (∀ w ∈ b, c ∉ w) → jn c a = jn c b → a = b
  | [], _, h, _, _, _, _ => absurd rfl h
  | _, [], _, h, _, _, _ => absurd rfl h
  | [x], [y], _, _, _, _, h => by
    have e : x = y := h
    rw [e]
  | [x], y :: z :: r, _, _, ha, _, h => by
    have e : x = y ++ c :: jn c (z :: r) := h
    exact absurd (by rw [e]; simp) (ha x (by simp))
  | x :: z :: r, [y], _, _, _, hb, h => by
    have e : x ++ c :: jn c (z :: r) = y := h
    exact absurd (by rw [← e]; simp) (hb y (by simp))
  | x :: z :: r, y :: u :: s, _, _, ha, hb, h => by
    obtain ⟨e1, e2⟩ := app_free (ha x (by simp)) (hb y (by simp)) h
    rw [e1, jn_inj (a := z :: r) (b := u :: s) (by simp) (by simp) (fun w hw => ha w (List.mem_cons_of_mem _ hw)) (fun w hw => hb w (List.mem_cons_of_mem _ hw)) e2]
theorem map_tS (l : List Str) : (l.map fun s => s.cps.toList).map tS = l := by
  rw [List.map_map]
  conv => rhs; rw [← List.map_id l]
  exact List.map_congr_left fun s _ => tS_of s
/-- what was joined is parted -/
theorem split_jn {c : Nat} {ws : List (List Nat)} (hn : ws ≠ []) (hf : ∀ w ∈ ws, c ∉ w) : Txt.split (tS (jn c ws)) ⟨#[c]⟩ = ws.map tS := by
  have h1 := StrLaws.join_split (tS (jn c ws)) ⟨#[c]⟩
  have h2 := StrLaws.split_free (tS (jn c ws)) c
  have h3 := PyProof.Rows.split_pos (tS (jn c ws)) ⟨#[c]⟩
  generalize Txt.split (tS (jn c ws)) ⟨#[c]⟩ = ps at h1 h2 h3
  rw [← map_tS ps, join_tS] at h1
  have e := tS_inj h1
  have e2 := jn_inj (by intro z; rw [List.map_eq_nil_iff] at z; rw [z] at h3; simp at h3) hn (fun w hw => by
    obtain ⟨p, hp, rfl⟩ := List.mem_map.mp hw
    exact h2 p hp) hf e
  rw [← e2, map_tS]
/-- the word of a deed -/
def wd : Deed → List Nat
  | .rd c => [114, 48 + c]
  | .wr c x => [119, 48 + c, 48 + x]
  | .rs => [45]
theorem wd_inj {d e : Deed} (h : wd d = wd e) : d = e := by
  cases d <;> cases e <;> simp [wd] at h
  · rw [h]
  · rw [h.1, h.2]
  · rfl
theorem wd_ne (d : Deed) : wd d ≠ [] := by cases d <;> simp [wd]
theorem wd_len (d : Deed) : (wd d).length ≤ 3 := by cases d <;> simp [wd]
theorem wd_ge (d : Deed) : ∀ x ∈ wd d, 33 ≤ x := by
  cases d <;> simp [wd] <;> omega
theorem wd_le {d : Deed} (h : d.ok 4) : ∀ x ∈ wd d, x < 128 := by
  cases d with
  | rd c => have h : c < 4 := h; simp [wd]; omega
  | wr c x => have h : c < 4 ∧ x < 3 := h; simp [wd]; omega
  | rs => simp [wd]
def rowS (ds : List Deed) : List Nat := jn 32 (ds.map wd)
def textS (ds es : List Deed) : List Nat := jn 10 [rowS ds, rowS es]
theorem jn_mem {c : Nat} : ∀ {ws : List (List Nat)} {x : Nat}, x ∈ jn c ws → x = c ∨ ∃ w ∈ ws, x ∈ w
  | [], _, h => by cases h
  | [w], x, h => .inr ⟨w, by simp, h⟩
  | w :: y :: r, x, h => by
    rw [jn_cons (by simp)] at h
    rcases List.mem_append.mp h with h | h
    · exact .inr ⟨w, by simp, h⟩
    · rcases List.mem_cons.mp h with h | h
      · exact .inl h
      · rcases jn_mem h with h | ⟨u, hu, hx⟩
        · exact .inl h
        · exact .inr ⟨u, List.mem_cons_of_mem _ hu, hx⟩
theorem row_ge (ds : List Deed) : ∀ x ∈ rowS ds, 32 ≤ x := fun x hx => by
  rcases jn_mem hx with rfl | ⟨w, hw, hx⟩
  · exact Nat.le_refl _
  · obtain ⟨d, _, rfl⟩ := List.mem_map.mp hw
    have := wd_ge d x hx
    omega
theorem row_le {ds : List Deed} (h : ∀ d ∈ ds, d.ok 4) : ∀ x ∈ rowS ds, x < 128 := fun x hx => by
  rcases jn_mem hx with rfl | ⟨w, hw, hx⟩
  · decide
  · obtain ⟨d, hd, rfl⟩ := List.mem_map.mp hw
    exact wd_le (h d hd) x hx
theorem jn_len {c m : Nat} : ∀ {ws : List (List Nat)}, (∀ w ∈ ws, w.length ≤ m) → (jn c ws).length ≤ ws.length * (m + 1)
  | [], _ => Nat.zero_le _
  | [w], h => by
    have := h w (by simp)
    show w.length ≤ _
    simp; omega
  | w :: y :: r, h => by
    have h1 := h w (by simp)
    have h2 := jn_len (c := c) (ws := y :: r) fun u hu => h u (List.mem_cons_of_mem _ hu)
    rw [jn_cons (by simp), List.length_append, List.length_cons]
    rw [List.length_cons (a := w), Nat.succ_mul]
    omega
theorem row_len (ds : List Deed) : (rowS ds).length ≤ ds.length * 4 := by
  have h := jn_len (c := 32) (ws := ds.map wd) (m := 3) fun w hw => by
    obtain ⟨d, _, rfl⟩ := List.mem_map.mp hw
    exact wd_len d
  rwa [List.length_map] at h
theorem row_nil {ds : List Deed} : rowS ds = [] ↔ ds = [] := by
  constructor
  · intro h
    cases ds with
    | nil => rfl
    | cons d r =>
      cases r with
      | nil => exact absurd h (wd_ne d)
      | cons e r =>
        have h : wd d ++ 32 :: jn 32 ((e :: r).map wd) = [] := h
        simp at h
  · rintro rfl; rfl
theorem split_row {ds : List Deed} (h : ds ≠ []) : Txt.split (tS (rowS ds)) ⟨#[32]⟩ = (ds.map wd).map tS :=
  split_jn (by simpa using h) fun w hw z => by
    obtain ⟨d, _, rfl⟩ := List.mem_map.mp hw
    have := wd_ge d _ z
    omega
theorem split_text (ds es : List Deed) : Txt.split (tS (textS ds es)) ⟨#[10]⟩ = [tS (rowS ds), tS (rowS es)] :=
  split_jn (ws := [rowS ds, rowS es]) (by simp) fun w hw z => by
    simp only [List.mem_cons, List.not_mem_nil, or_false] at hw
    rcases hw with rfl | rfl <;> (have := row_ge _ _ z; omega)
section
variable {X : Cx}
theorem pe_dn0 {CX : CXT} {x : Str} {ps : List Str} {k j : Nat} {sp : Sp} {E : XK} {p pos : Pos} (h : Dn X.prog X.w X.K X.mg X.base CX x ps k sp) (hr : Room j X.A) (hk : k ≤ j) (hx : Passes CX X E)
    (hg : Gl X x := by rfl) (hdb : (x == ("__debug__" : Str)) = false := by decide) : PE X (.Call (.Name x p) [] [] pos) (tCall sp [] E tNil) := by
  obtain ⟨f, fd, F, hm, kp, b⟩ := h.ex
  exact pe_call0 F (hr.mono hk) hg hm kp b .nil hx hdb
end
theorem strI {c : Nat} (h : c < 4) : Str.ofString (toString (c : Int)) = tS [48 + c] := by
  match c, h with
  | 0, _ => decide +kernel
  | 1, _ => decide +kernel
  | 2, _ => decide +kernel
  | 3, _ => decide +kernel
theorem log4 {c : Nat} (h : c < 4) : ((c : Nat) : Int).natAbs.log2 < 1920 := by
  match c, h with
  | 0, _ => decide
  | 1, _ => decide
  | 2, _ => decide
  | 3, _ => decide
/-- the deeds by their words -/
structure DW (K : PySem.W.Frag) (H : Hp) (kvs : List (Key × V)) (ok : Deed → Prop) : Prop where
  has : ∀ d, ok d → ∃ v, valV kvs (.inr (tS (wd d))) = some v ∧ DV K H v d
  only : ∀ k v, valV kvs k = some v → ∃ d, ok d ∧ k = .inr (tS (wd d))
theorem DW.mono {K : PySem.W.Frag} {H H' : Hp} {kvs : List (Key × V)} {ok : Deed → Prop} (e : Ex H H') (q : DW K H kvs ok) : DW K H' kvs ok :=
  ⟨fun d hd => by obtain ⟨v, h1, h2⟩ := q.has d hd; exact ⟨v, h1, h2.mono e⟩, q.only⟩
theorem dv_dict {K : PySem.W.Frag} {H : Hp} {D : Addr} {kvs : List (Key × V)} {o : HO} {v : V} {d : Deed} (h : H D = some (.dK kvs)) (q : DV K H v d) : DV K (upd H D o) v d := by
  obtain ⟨a, h1, h2⟩ := q
  refine ⟨a, h1, ?_⟩
  have ne : ∀ o', H a = some o' → (∀ z, o' ≠ .dK z) → a ≠ D := by
    rintro o' ho no rfl
    rw [h] at ho
    exact no kvs (Option.some.inj ho).symm
  rcases h2 with (h2 | ⟨o', h2⟩) | h2
  · exact .inl (.inl (by rw [upd_ne (ne _ h2 (fun _ z => by cases z))]; exact h2))
  · exact .inl (.inr ⟨o', by rw [upd_ne (ne _ h2 (fun _ z => by cases z))]; exact h2⟩)
  · exact .inr h2
theorem DW.put {K : PySem.W.Frag} {H : Hp} {D : Addr} {kvs : List (Key × V)} {ok : Deed → Prop} {v : V} {d : Deed} (h : H D = some (.dK kvs)) (q : DW K H kvs ok) (hv : DV K H v d) : DW K (upd H D (.dK (putK kvs (.inr (tS (wd d))) v))) (putK kvs (.inr (tS (wd d))) v) fun e => ok e ∨ e = d := by
  refine ⟨fun e he => ?_, fun k u hu => ?_⟩
  · rw [valV_put]
    by_cases z : (Sum.inr (tS (wd e)) : Key) = .inr (tS (wd d))
    · rw [if_pos z]
      have e1 : e = d := wd_inj (tS_inj (Sum.inr.inj z))
      subst e1
      exact ⟨v, rfl, dv_dict h hv⟩
    · rw [if_neg z]
      rcases he with he | rfl
      · obtain ⟨u, h1, h2⟩ := q.has e he
        exact ⟨u, h1, dv_dict h h2⟩
      · exact absurd rfl z
  · rw [valV_put] at hu
    by_cases z : k = .inr (tS (wd d))
    · exact ⟨d, .inr rfl, z⟩
    · rw [if_neg z] at hu
      obtain ⟨e, he, hk⟩ := q.only k u hu
      exact ⟨e, .inl he, hk⟩
theorem DW.iff {K : PySem.W.Frag} {H : Hp} {kvs : List (Key × V)} {ok ok' : Deed → Prop} (q : DW K H kvs ok) (h : ∀ d, ok d ↔ ok' d) : DW K H kvs ok' :=
  ⟨fun d hd => q.has d ((h d).mpr hd), fun k v hk => by obtain ⟨d, h1, h2⟩ := q.only k v hk; exact ⟨d, (h d).mp h1, h2⟩⟩
/-- all deeds at so many cells -/
def cellD (c : Nat) : List Deed := [.rd c, .wr c 0, .wr c 1, .wr c 2]
def allD (n : Nat) : List Deed := .rs :: (List.range n).flatMap cellD
theorem allD_succ (n : Nat) : allD (n + 1) = allD n ++ cellD n := by
  unfold allD
  rw [List.range_succ, List.flatMap_append]
  simp
theorem allD_len (n : Nat) : (allD n).length = 1 + 4 * n := by
  induction n with
  | zero => rfl
  | succ n ih => rw [allD_succ, List.length_append, ih]; show _ + 4 = _; omega
theorem allD_mem (d : Deed) : d ∈ allD 4 ↔ d.ok 4 := by
  have e : allD 4 = [.rs, .rd 0, .wr 0 0, .wr 0 1, .wr 0 2, .rd 1, .wr 1 0, .wr 1 1, .wr 1 2, .rd 2, .wr 2 0, .wr 2 1, .wr 2 2, .rd 3, .wr 3 0, .wr 3 1, .wr 3 2] := by decide
  rw [e]
  cases d with
  | rs => simp [Deed.ok]
  | rd c =>
    simp [Deed.ok]
    omega
  | wr c x =>
    simp [Deed.ok]
    omega
theorem dc_listX {K : PySem.W.Frag} {a : Addr} {xs : List V} {g : TG} {tt : TT} {tk tv : TE} {vs : List Nat} {σ : L2.St} {H1 : Hp} {D : Addr} {Qd : Hp → Prop} (Pv : Nat → Hp → Prop) (h0 : Pv 0 (upd H1 D (.dK []))) (hl : ∀ i H, i ≤ xs.length → Pv i H → SqL K H a xs)
    (hs : ∀ i x H, xs[i]? = some x → Pv i H → g x (wipe σ vs) H fun σ2 H2 => wipe σ2 vs = wipe σ vs ∧ tt σ2 H2 fun b H3 =>
      if b = true then tk σ2 H3 fun y H4 => tv σ2 H4 fun z H5 => ∃ kvs k, y = kV k ∧ H5 D = some (.dK kvs) ∧ kvs.length < sizeLine ∧ Pv (i + 1) (upd H5 D (.dK (putK kvs k z))) else Pv (i + 1) H3) (hd : ∀ H, Pv xs.length H → Qd H) :
    ∃ W : Nat → Nat → Hp → Prop, (∃ m, W 0 m (upd H1 D (.dK []))) ∧ ∀ i m H, W i m H → ((Itl K a).stop i H ∧ Qd H) ∨ ((Itl K a).go i H ∧ ∃ Nx : Hp → Prop, (∀ H', Nx H' → ∃ m', m' < m ∧ W (i + 1) m' H') ∧
      ∀ x H', (Itl K a).yld i H x H' → g x (wipe σ vs) H' fun σ2 H2 => wipe σ2 vs = wipe σ vs ∧ tt σ2 H2 fun b H3 => if b = true then tk σ2 H3 fun y H4 => tv σ2 H4 fun z H5 => ∃ kvs k, y = kV k ∧ H5 D = some (.dK kvs) ∧ kvs.length < sizeLine ∧ Nx (upd H5 D (.dK (putK kvs k z))) else Nx H3) :=
  it_list (B := fun x H N => g x (wipe σ vs) H fun σ2 H2 => wipe σ2 vs = wipe σ vs ∧ tt σ2 H2 fun b H3 => if b = true then tk σ2 H3 fun y H4 => tv σ2 H4 fun z H5 => ∃ kvs k, y = kV k ∧ H5 D = some (.dK kvs) ∧ kvs.length < sizeLine ∧ N (upd H5 D (.dK (putK kvs k z))) else N H3) Pv h0 hl hs hd
theorem gd_at {l : List Deed} {i : Nat} {d : Deed} (h : l[i]? = some d) : l.getD i .rs = d := by rw [List.getD_eq_getElem?_getD, h]; rfl
theorem putK_le (c : List (Key × V)) (k : Key) (x : V) : (putK c k x).length ≤ c.length + 1 := by
  unfold putK
  split
  · simp
  · simp
theorem range_get (ds : List Deed) (f : Deed → V) : (List.range ds.length).map (fun i => f (ds.getD i .rs)) = ds.map f := by
  apply List.ext_getElem
  · simp
  · intro n h1 h2
    simp only [List.length_map, List.length_range] at h1
    simp [List.getD_eq_getElem?_getD, List.getElem?_eq_getElem h1]
def Deed.nums : Deed → List Nat
  | .rd c => [c]
  | .wr c x => [c, x]
  | .rs => []
def Deed.letter : Deed → Nat
  | .rd _ => 114
  | .wr _ _ => 119
  | .rs => 45
theorem wd_parts (d : Deed) : wd d = d.letter :: (d.nums.map fun n => [48 + n]).flatten := by cases d <;> rfl
theorem vals_nums (d : Deed) : d.vals.drop 1 = d.nums.map wV := by cases d <;> rfl
theorem nums_lt {d : Deed} (h : d.ok 4) : ∀ n ∈ d.nums, n < 4 := by
  cases d with
  | rd c => have h : c < 4 := h; simp [Deed.nums]; exact h
  | wr c x => have h : c < 4 ∧ x < 3 := h; simp [Deed.nums]; omega
  | rs => simp [Deed.nums]
theorem nums_len (d : Deed) : d.nums.length ≤ 2 := by cases d <;> simp [Deed.nums]
def lettersK : List (Key × V) := [(.inr "read", .str "r"), (.inr "write", .str "w"), (.inr "rest", .str "-")]
theorem letter_at (d : Deed) : valV (mergeK [] lettersK) (.inr d.tag) = some (.str (tS [d.letter])) := by
  cases d with
  | rd c => show some (V.str "r") = some (V.str (tS [114])); rw [show ("r" : Str) = tS [114] by decide +kernel]
  | wr c x => show some (V.str "w") = some (V.str (tS [119])); rw [show ("w" : Str) = tS [119] by decide +kernel]
  | rs => show some (V.str "-") = some (V.str (tS [45])); rw [show ("-" : Str) = tS [45] by decide +kernel]
section
variable {K : PySem.W.Frag} {σ : L2.St} {H : Hp} {te tl th : TE} {tu tz : TS} {D : Ends} {j : Nat} {R : Addr → Hp → Prop}
theorem eu_slT {lo hi : Option Int} {tl th : TO} {a : Addr} {xs : List V} (h : Ev te σ H (.ref a)) (h1 : EvO tl σ H lo) (h2 : EvO th σ H hi) (hs : SqT K H a xs) (hw : ¬ (HT.sIx xs.length 0 lo = 0 ∧ HT.sIx xs.length xs.length hi = xs.length)) : EvU (tSl (rSlT K) te tl th) σ H (cutV xs lo hi) := fun H1 e _ q =>
  h H1 e _ fun H2 e2 => h1 H2 (e.trans e2) _ fun H3 e3 => h2 H3 ((e.trans e2).trans e3) _ fun H4 e4 =>
    ⟨a, xs, rfl, ex_t (((e.trans e2).trans e3).trans e4) hs, hw, fun p hp => q p _ (fresh_back ((e2.trans e3).trans e4) hp) (((e2.trans e3).trans e4).trans (Ex.new hp)) upd_same⟩
theorem q_forXT (h : ∀ Q : VK, (∀ l H2, R l H2 → Q (.ref l) H2) → te σ H Q) (k : ∀ l H2, R l H2 → tSeq (tFor (iTup K (tC (.ref l))) (gName j) tu) tz D σ H2) : tSeq (tFor (iTup K te) (gName j) tu) tz D σ H := h _ fun l H2 r => k l H2 r
theorem q_forTn {tl : TE} {a : Addr} {xs : List V} (h : Ev tl σ H (.ref a)) (hx : SqT K H a xs) (Pv : Nat → L2.St → Hp → Prop) (h0 : ∀ H1, Ex H H1 → Pv 0 σ H1) (hl : ∀ i σ' H', i ≤ xs.length → Pv i σ' H' → SqT K H' a xs)
    (hs : ∀ i x σ' H', xs[i]? = some x → Pv i σ' H' → tu { D with nx := Pv (i + 1), ct := Pv (i + 1), bk := tz D } (σ'.set j (some x)) H') (hd : ∀ σ' H', Pv xs.length σ' H' → tz D σ' H') : tSeq (tFor (iTup K tl) (gName j) tu) tz D σ H :=
  s_forTn (D := { D with nx := tz D }) h hx Pv h0 hl hs hd
end
theorem sum_lens (ws : List (List Nat)) {m : Nat} (h : ∀ w ∈ ws, w.length ≤ m) : ((ws.map tS).map (·.length)).sum ≤ ws.length * m := by
  induction ws with
  | nil => exact Nat.zero_le _
  | cons w r ih =>
    have h1 := h w (by simp)
    have h2 := ih fun u hu => h u (List.mem_cons_of_mem _ hu)
    have z : ((w :: r).map tS).map (·.length) = (tS w).length :: (r.map tS).map (·.length) := rfl
    rw [z, List.sum_cons, tS_len, List.length_cons, Nat.succ_mul]
    omega
theorem txt_join {c : Nat} {s : Str} (e : s = ⟨#[c]⟩) (ws : List (List Nat)) : Txt.join s (ws.map tS) = tS (jn c ws) := by
  rw [e]
  exact (StrLaws.glued_eq_join _ _).trans (join_tS c _)
theorem txt_join0 {s : Str} (e : s = ⟨#[]⟩) (ws : List (List Nat)) : Txt.join s (ws.map tS) = tS ws.flatten := by
  rw [e]
  exact (StrLaws.glued_eq_join _ _).trans (join_tS0 _)
theorem strOk_tS {l : List Nat} (h : ∀ x ∈ l, x < 128) : PyData.strOk (tS l) = true := by
  unfold PyData.strOk tS
  rw [List.all_toArray, List.all_eq_true]
  intro x hx
  exact decide_eq_true (Nat.lt_trans (h x hx) (by decide))
theorem strOk_text {ds es : List Deed} (h : ∀ d ∈ ds, d.ok 4) (h2 : ∀ d ∈ es, d.ok 4) : PyData.strOk (tS (textS ds es)) = true := strOk_tS fun x hx => by
  have hx : x ∈ rowS ds ++ 10 :: rowS es := hx
  rcases List.mem_append.mp hx with hx | hx
  · exact row_le h x hx
  · rcases List.mem_cons.mp hx with rfl | hx
    · decide
    · exact row_le h2 x hx
theorem nice_d2 {n : Nat} (d : Deed) : Nice (n + 1) (.tuple d.dat) := .tup (by cases d <;> simp [Deed.dat]) fun x hx => by
  cases d <;> simp only [Deed.dat, List.mem_cons, List.not_mem_nil, or_false] at hx
  · rcases hx with rfl | rfl
    · exact .str sk_read
    · exact .int _
  · rcases hx with rfl | rfl | rfl
    · exact .str sk_write
    · exact .int _
    · exact .int _
  · subst hx
    exact .str sk_rest
theorem nice_ds2 {n : Nat} {ds : List Deed} (h : ds.length ≤ 1000) : Nice (n + 2) (.list (ds.map fun d => .tuple d.dat)) := .lst (by rw [List.length_map]; exact h) fun x hx => by
  obtain ⟨d, _, rfl⟩ := List.mem_map.mp hx
  exact nice_d2 d
theorem q_clear {K : PySem.W.Frag} {σ : L2.St} {H : Hp} {ta : TE} {D : Ends} {tz : TS} {l : Addr} {xs : List V} (hl : H l = some (.lst xs)) (ha : Ev ta σ H (.ref l)) (k : ∀ H1, Ex H H1 → tz D σ (upd H1 l (.lst []))) : tSeq (tDrop (tBM0 K "list" rClear ta)) tz D σ H := s_clear (D := { D with nx := tz D }) hl ha k
end Db

namespace Db
open PySem L2 Evl StX
/-! ### own exceptions: row and place (or door and place) -/
def clsAt (s : Stmt) (i : Nat) : Stmt := match s with
  | .ClassDef _ _ _ b .. => b.getD i (.Pass ⟨0, 0, 0, 0⟩)
  | _ => .Pass ⟨0, 0, 0, 0⟩
/-- the class that all hang on, without an own __init__ -/
structure BaseX (K : PySem.W.Frag) (mg : Str → Option Value) (D : Addr) : Prop where
  gD : mg "DoorError" = some (.ref D)
  sg : PySem.W.specialIn K (.ref D) "__getattribute__" = some (some (.builtin "type.__getattribute__"))
  rd : PySem.W.readsIn K D (.type "type") = true
  fi : PySem.W.findCls K (.ref D) (.type "type") "__init__" = some (.val (.builtin "ValueError.__init__"))
/-- DoorError.__init__(self, ..) -/
theorem pe_deinit {X : Cx} {D : Addr} {e : Expr} {es : List Expr} {ta : TA} {p1 p2 pos : Pos} {pl : Sem Bool} (B : BaseX X.K X.mg D) (hg : Gl X "DoorError") (ha : PA X (e :: es) ta)
    (hc : eval (.Call (.Attribute (.Name "DoorError" p1) "__init__" p2) (e :: es) [] pos) X.env = (do
      let ov ← eval (.Name "DoorError" p1) X.env
      standAt p2.atName
      let (f, first) ← holding [ov] (getMethod ov "__init__" pl)
      callWith pos f first (backTo pos (starEach (e :: es) X.env)) (backToKw pos (keywordEach [] X.env))) := by rfl)
    (he : starEach (e :: es) X.env = (false, eval e X.env) :: starEach es X.env := by rfl) (hpl : (backTo pos (starEach es X.env)).any (·.1) = false := by rfl) :
    PE X (.Call (.Attribute (.Name "DoorError" p1) "__init__" p2) (e :: es) [] pos) (tVeI X.K ta) := by
  refine ⟨fun pins s σ H Q I h => ?_⟩
  refine PySem.W.methodCall_KW (ld_glob I hg B.gD ?_ (by decide)) hc
  refine PySem.W.method_cls I.kIn B.sg ?_
  refine PySem.W.cls_value I.kIn B.rd B.fi (by decide +kernel) ?_
  show wpAny _ _ (callWith pos (Value.builtin "ValueError.__init__") [] (backTo pos (starEach (e :: es) X.env)) []) _ _ _
  refine PyProof.Rows.callWith_method1 (thn (ha.run pos pins _ σ H _ (I.tok _) h) fun us s1 ⟨vs, H1, I1, r1, a, C, ws, ev, hl, T, ea, q⟩ => ?_) he hpl
  subst ev
  cases r1 with
  | @cons _ u0 _ ur ra rw' =>
    obtain rfl : u0 = Value.ref a := ra
    have hlen : ur.length ≤ sizeLine := by
      rw [← Paired.length rw', sizeLine_eq]
      omega
    exact oinit_ok T I1 ea hlen fun s' J => ⟨.non, H1, J, rfl, q⟩
/-- what is told of a class of the program with two fields -/
structure OwnX (K : PySem.W.Frag) (mg : Str → Option Value) (x : Str) (C D fI : Addr) (f1 f2 : Str) : Prop where
  gC : mg x = some (.ref C)
  T : OexC K C
  Xf : XfC K C
  iC : PySem.W.findIn K (.ref C) "__init__" = some (some (.ref fI))
  tI : PySem.W.typeIn K (.ref fI) = some (.type "function")
  n1 : PySem.W.findIn K (.ref C) f1 = some none
  n2 : PySem.W.findIn K (.ref C) f2 = some none
  te : PySem.W.exmOne K (.ref C) (.ref D) = some true
/-- __init__(self, r, p) of such a class -/
def sp_init (K : PySem.W.Frag) (f1 f2 : Str) : Sp := fun vs H Q _ => ∃ (a C : Addr) (r p : Nat), vs = [.ref a, .int r, .int p] ∧ r < 1000 ∧ p < 1000 ∧ OexC K C ∧ PySem.W.findIn K (.ref C) f1 = some none ∧ PySem.W.findIn K (.ref C) f2 = some none ∧ H a = some (exo a C none) ∧
  ∀ (d : Addr) (H' : Hp), H d = none → d ≠ a → H' = upd (upd H d (exd d [(f2, .int p), (f1, .int r)])) a (exo a C (some d)) → Q .non H'
theorem log1000 {n : Nat} (h : n < 1000) : ((n : Nat) : Int).natAbs.log2 < 1920 := by
  rw [Int.natAbs_natCast]
  rcases Nat.eq_zero_or_pos n with rfl | hp
  · decide
  · exact (Nat.log2_lt (by omega)).mpr (Nat.lt_of_lt_of_le h (by decide))
theorem app_len (a b : Str) : (a ++ b).length = a.length + b.length := by
  show (Str.append a b).length = _
  unfold Str.append Str.length
  simp
theorem num_len {n : Nat} (h : n < 1000) : (Str.ofString (toString (n : Int))).length ≤ 1921 := by
  have e := int_text_length_le (k := 1920) (by decide) (log1000 h)
  rw [ofString_length]
  omega
/-- the word's deed -/
def deedOf (w : List Nat) : Option Deed := (allD 4).find? fun d => decide (wd d = w)
theorem deedOf_wd {d : Deed} (h : d.ok 4) : deedOf (wd d) = some d := by
  unfold deedOf
  cases e : (allD 4).find? fun x => decide (wd x = wd d) with
  | none =>
    have z := List.find?_eq_none.mp e d ((allD_mem d).mpr h)
    simp at z
  | some x =>
    have z := List.find?_some e
    rw [wd_inj (of_decide_eq_true z)]
theorem deedOf_ok {w : List Nat} {d : Deed} (h : deedOf w = some d) : d.ok 4 ∧ wd d = w := by
  have z := List.find?_some h
  exact ⟨(allD_mem d).mp (List.mem_of_find?_eq_some h), of_decide_eq_true z⟩
theorem DW.none {K : PySem.W.Frag} {H : Hp} {kvs : List (Key × V)} (q : DW K H kvs fun d => d.ok 4) {w : List Nat} (h : deedOf w = none) : valV kvs (.inr (tS w)) = none := by
  cases e : valV kvs (.inr (tS w)) with
  | none => rfl
  | some v =>
    obtain ⟨d, hd, hk⟩ := q.only _ _ e
    have e2 : w = wd d := tS_inj (Sum.inr.inj hk)
    rw [e2, deedOf_wd hd] at h
    cases h
/-- a row's words -/
def wordsOf (c : Nat) (l : List Nat) : List (List Nat) := (Txt.split (tS l) ⟨#[c]⟩).map fun s => s.cps.toList
theorem split_words (c : Nat) (l : List Nat) : Txt.split (tS l) ⟨#[c]⟩ = (wordsOf c l).map tS := by
  unfold wordsOf
  rw [map_tS]
/-- the deeds of words from a place on, or the place of the first that is none -/
def scan : Nat → List (List Nat) → Except Nat (List Deed)
  | _, [] => .ok []
  | i, w :: r => if i = 40 then .error i else match deedOf w with
    | none => .error i
    | some d => match scan (i + 1) r with
      | .ok ds => .ok (d :: ds)
      | .error j => .error j
def progD (l : List Nat) : Except Nat (List Deed) := if l = [] then .ok [] else scan 0 (wordsOf 32 l)
theorem scan_bad : ∀ (ws : List (List Nat)) (i j : Nat), i ≤ 40 → scan i ws = .error j → j ≤ 40
  | [], _, _, _, h => by cases h
  | w :: r, i, j, hi, h => by
    rw [scan] at h
    split at h
    · cases h; omega
    · split at h
      · cases h; omega
      · split at h
        · cases h
        · rename_i z
          cases h
          exact scan_bad r (i + 1) j (by omega) z
theorem scan_ok : ∀ (ws : List (List Nat)) (i : Nat) (ds : List Deed), i ≤ 40 → scan i ws = .ok ds → i + ds.length ≤ 40 ∧ ∀ d ∈ ds, d.ok 4
  | [], i, ds, hi, h => by cases h; exact ⟨by simpa using hi, fun _ z => nomatch z⟩
  | w :: r, i, ds, hi, h => by
    rw [scan] at h
    split at h
    · cases h
    · split at h
      · cases h
      · rename_i d hd
        split at h
        · rename_i es z
          cases h
          obtain ⟨h1, h2⟩ := scan_ok r (i + 1) es (by omega) z
          refine ⟨by rw [List.length_cons]; omega, fun e he => ?_⟩
          rcases List.mem_cons.mp he with rfl | he
          · exact (deedOf_ok hd).1
          · exact h2 e he
        · cases h
/-- two rows, or the row and place of what is none -/
def readD (l : List Nat) : Except (Nat × Nat) (List Deed × List Deed) := match wordsOf 10 l with
  | [] => .error (0, 0)
  | r0 :: rest => match progD r0 with
    | .error p => .error (0, p)
    | .ok ds => match rest with
      | [] => .error (1, 0)
      | r1 :: more => match progD r1 with
        | .error p => .error (1, p)
        | .ok es => match more with
          | [] => .ok (ds, es)
          | _ => .error (2, 0)
/-- the refusal's own values -/
def xfs (f1 f2 : Str) (r p : Nat) : List (Str × V) := [(f2, .int p), (f1, .int r)]
section
variable {X : Cx}
theorem pe_dnS {x : Str} {ps : List Str} {k j : Nat} {sp : Sp} {E : L2.St → XK} {e : Expr} {es : List Expr} {t : TA} {p pos : Pos} (h : Dn X.prog X.w X.K X.mg X.base (L2.CX X.prog X.w) x ps k sp) (hr : Room j X.A) (hk : k ≤ j) (hx : ∀ σ, PassesAt (L2.CX X.prog X.w) X σ (E σ))
    (ha : PA X (e :: es) t) (hg : Gl X x := by rfl) (hdb : (x == ("__debug__" : Str)) = false := by decide) (he : starEach (e :: es) X.env = (false, eval e X.env) :: starEach es X.env := by rfl)
    (hpl : (backTo pos (starEach es X.env)).any (·.1) = false := by rfl) : PE X (.Call (.Name x p) (e :: es) [] pos) (tCallS sp E t) := by
  obtain ⟨f, fd, F, hm, kp, b⟩ := h.ex
  exact pe_callS F (hr.mono hk) hg hm kp b hx ha hdb he hpl
end
theorem exd_init {H : Hp} {d a : Addr} {o u : HO} {fs : List (Str × V)} (ha : H a = none) (hd : d ≠ a) : upd (del (upd (upd (upd H a o) d u) a u) a) d (.xd fs) = upd H d (.xd fs) := by
  funext b
  unfold upd del
  by_cases h1 : b = d
  · simp [h1]
  · by_cases h2 : b = a
    · subst h2
      simp [h1, ha]
    · simp [h1, h2]
theorem exd_init2 {H : Hp} {d a : Addr} {o u v : HO} {fs : List (Str × V)} (ha : H a = none) (hd : d ≠ a) : upd (del (upd (upd (upd H a o) d u) a v) a) d (.xd fs) = upd H d (.xd fs) := by
  funext b
  unfold upd del
  by_cases h1 : b = d
  · simp [h1]
  · by_cases h2 : b = a
    · subst h2
      simp [h1, ha]
    · simp [h1, h2]
def preE (ds : List Deed) : Except Nat (List Deed) → Except Nat (List Deed)
  | .ok es => .ok (ds ++ es)
  | .error j => .error j
theorem preE_nil (x : Except Nat (List Deed)) : preE [] x = x := by cases x <;> rfl
theorem scan_step {i : Nat} {w : List Nat} {r : List (List Nat)} {d : Deed} {ds : List Deed} (h40 : i ≠ 40) (hd : deedOf w = some d) : preE ds (scan i (w :: r)) = preE (ds ++ [d]) (scan (i + 1) r) := by
  rw [scan, if_neg h40, hd]
  cases scan (i + 1) r with
  | ok es => simp [preE]
  | error j => rfl
theorem scan_stop {i : Nat} {w : List Nat} {r : List (List Nat)} {ds : List Deed} (h : i = 40 ∨ deedOf w = none) : preE ds (scan i (w :: r)) = .error i := by
  rw [scan]
  by_cases h40 : i = 40
  · rw [if_pos h40]; rfl
  · rw [if_neg h40]
    rcases h with h | h
    · exact absurd h h40
    · rw [h]; rfl
theorem DW.putIn {K : PySem.W.Frag} {H : Hp} {D : Addr} {kvs : List (Key × V)} {l : List Deed} {v : V} {d : Deed} (h : H D = some (.dK kvs)) (q : DW K H kvs fun e => e ∈ l) (hv : DV K H v d) :
    DW K (upd H D (.dK (putK kvs (.inr (tS (wd d))) v))) (putK kvs (.inr (tS (wd d))) v) fun e => e ∈ l ++ [d] :=
  (DW.put h q hv).iff fun e => by simp
theorem sum2 {a b c d : Nat} (h : a = c) (g : b = d) : a + b = c + d := by rw [h, g]
theorem strI' {c : Nat} (h : c < 4) : (toString (c : Int) : Str) = tS [48 + c] := strI h
end Db

namespace Db
open PySem L2 Evl StX
/-! ### isinstance of a caught exception of an own class, with or without a dict -/
structure IsC (K : PySem.W.Frag) (C : Addr) : Prop where
  x : XfC K C
  ha : PySem.W.findIn K (.ref C) "__class__" = some (some (.builtin "object.__class__"))
  hn : PySem.W.specialIn K (.builtin "object.__class__") "__get__" = some (some (.builtin "getset_descriptor.__get__"))
  ht : PySem.W.takesIn K (.builtin "object.__class__") = some true
  hm : PySem.W.mroIn K C (.type "object") = some true
def DctOk (d : Option Addr) (H : Hp) : Prop := match d with
  | none => True
  | some dd => ∃ fs, H dd = some (.xd fs)
theorem inst_exc {X : Cx} {a C : Addr} {oe : Obj} {cls : Value} {d : Option Addr} {pn : List (Addr × Obj)} {pins : List (Addr × Obj)} {σ : L2.St} {H : Hp} {s : Shared} (hz : Zc cls d oe) (hf : ∃ vs, oe.data = .fields vs) (I : Inv (X.suite a ((a, oe) :: pn)) pins σ H s)
    (hc : cls = .ref C) (hd : DctOk d H) : ∃ od, PySem.W.InstAt s.heap a oe C od := by
  obtain ⟨ha, _⟩ := I.pin (a, oe) (List.mem_append_left _ List.mem_cons_self)
  obtain ⟨vs, hv⟩ := hf
  subst hc
  cases d with
  | none => exact ⟨none, ha, hz.1, by unfold PySem.W.notCls; rw [hv] <;> rfl, by rw [hz.2]; trivial⟩
  | some dd =>
    obtain ⟨fs, ea⟩ := hd
    have hx : ObjOk X.prog X.w H s.heap dd (.xd fs) := I.hok dd _ ea
    obtain ⟨mA, hns, hr⟩ := hx
    obtain ⟨od, ho, hl⟩ := lookIn_ns hns
    exact ⟨some od, ha, hz.1, by unfold PySem.W.notCls; rw [hv] <;> rfl, by rw [hz.2]; exact ho⟩
theorem IsC.kit {K : PySem.W.Frag} {C x : Addr} {ox : Obj} {od : Option Obj} (T : IsC K C) : PySem.W.KitX K (.ref x) (.ref C) (fun h => PySem.W.InstAt h x ox C od) := by
  refine PySem.W.kitx_exc ?_ T.x.ga T.x.gg T.x.exC T.ha T.hn T.ht T.hm
  obtain ⟨cd, hc, _⟩ := PySem.W.any_some T.x.hdC
  rw [hc]; rfl
def rIsD (K : PySem.W.Frag) (a : Addr) (cls : Value) (d : Option Addr) : List V → Hp → VK → Prop := fun xs H Q => ∃ (C : Addr) (c : V) (u : Value) (b : Bool), xs = [.ref a, c] ∧ cls = .ref C ∧ IsC K C ∧ DctOk d H ∧ ClsV c u ∧ PySem.W.kitOne K (.ref C) u = some b ∧ Q (.bl b) H
def rIsDT (K : PySem.W.Frag) (a : Addr) (cls : Value) (d : Option Addr) : List V → Hp → VK → Prop := fun xs H Q => ∃ (C tp : Addr) (cs : List V) (us : List Value) (b : Bool), xs = [.ref a, .ref tp] ∧ cls = .ref C ∧ IsC K C ∧ DctOk d H ∧ H tp = some (.tup cs) ∧ Paired ClsV cs us ∧ PySem.W.kitAny K (.ref C) us = some b ∧ Q (.bl b) H
section
variable {X : Cx} {a : Addr} {oe : Obj} {cls : Value} {d : Option Addr} {pn : List (Addr × Obj)}
theorem call_isD (hz : Zc cls d oe) (hf : ∃ vs, oe.data = .fields vs) : CallR (X.suite a ((a, oe) :: pn)) (.builtin "isinstance") (rIsD X.K a cls d) := by
  intro pins s σ H xs us Q I r h
  obtain ⟨C, c, u, b, rfl, hc, T, hd, k, e, q⟩ := h
  obtain ⟨u1, u2, rfl, r1, r2⟩ := vals2 r
  have e2 := k.eq r2
  subst e2
  cases (show u1 = Value.ref a from r1)
  obtain ⟨od, J⟩ := inst_exc hz hf I hc hd
  exact PySem.W.kia_one T.kit I.kIn J e (fun z => nomatch z) fun tk => ⟨.bl b, H, I.tok tk, rfl, q⟩
theorem call_isDT (hz : Zc cls d oe) (hf : ∃ vs, oe.data = .fields vs) : CallR (X.suite a ((a, oe) :: pn)) (.builtin "isinstance") (rIsDT X.K a cls d) := by
  intro pins s σ H xs us Q I r h
  obtain ⟨C, tp, cs, ws, b, rfl, hc, T, hd, hT, k, e, q⟩ := h
  obtain ⟨u1, u2, rfl, r1, r2⟩ := vals2 r
  cases (show u2 = Value.ref tp from r2)
  cases (show u1 = Value.ref a from r1)
  obtain ⟨od, J⟩ := inst_exc hz hf I hc hd
  obtain ⟨_, its, rv, o, h1, h2, n, h3⟩ := (show ObjOk X.prog X.w H s.heap tp (.tup cs) from I.hok tp _ hT)
  have e3 := ClsV.all k rv
  subst e3
  obtain ⟨oc, od2, dt, sl⟩ := o
  simp only at h2 h3
  subst h2 h3
  exact PySem.W.kia_tup T.kit I.kIn J h1 e (fun z => nomatch z) fun tk => ⟨.bl b, H, I.tok tk, rfl, q⟩
end
end Db
namespace Db
open PySem L2 Evl StX
/-- what the law names: the classes -/
structure ClsG (K : PySem.W.Frag) (mg : Str → Option Value) (aDoorError aBadMemory aBadOrder aBadProgram aBadRule aTooMany aBadText : Addr) : Prop where
  g_DoorError : mg "DoorError" = some (.ref aDoorError)
  g_BadMemory : mg "BadMemory" = some (.ref aBadMemory)
  g_BadOrder : mg "BadOrder" = some (.ref aBadOrder)
  g_BadProgram : mg "BadProgram" = some (.ref aBadProgram)
  g_BadRule : mg "BadRule" = some (.ref aBadRule)
  g_TooMany : mg "TooMany" = some (.ref aTooMany)
  g_BadText : mg "BadText" = some (.ref aBadText)
  n_VE : mg "ValueError" = none
/-- isinstance(e, x) for the law's classes -/
structure TxtE (K : PySem.W.Frag) (aBadMemory aBadOrder aBadProgram aBadRule aTooMany aBadText : Addr) : Prop where
  ic : IsC K aBadText
  k1 : PySem.W.kitOne K (.ref aBadText) (.ref aBadMemory) = some false
  k2 : PySem.W.kitOne K (.ref aBadText) (.ref aBadOrder) = some false
  k3 : PySem.W.kitOne K (.ref aBadText) (.ref aBadProgram) = some false
  k4 : PySem.W.kitOne K (.ref aBadText) (.ref aBadRule) = some false
  k5 : PySem.W.kitOne K (.ref aBadText) (.ref aTooMany) = some false
  k6 : PySem.W.kitOne K (.ref aBadText) (.ref aBadText) = some true
  k7 : PySem.W.kitOne K (.ref aBadText) (.type "ValueError") = some true
def datDs (ds : List Deed) : PyData := .list (ds.map fun d => .tuple d.dat)
def datR : Except (Nat × Nat) (List Deed × List Deed) → PyData
  | .ok (ds, es) => .tuple [datDs ds, datDs es]
  | .error (r, j) => .tuple [.str "BadText", .int (r : Int), .int (j : Int)]
/-! ### the first bad place -/
theorem scan_err : ∀ (ws : List (List Nat)) (i j : Nat), i ≤ 40 → scan i ws = .error j → i ≤ j ∧ j - i < ws.length ∧ (j = 40 ∨ (ws[j - i]?.bind deedOf) = none) ∧ ∀ p, p < j - i → p + i ≠ 40 ∧ (ws[p]?.bind deedOf) ≠ none
  | [], _, _, _, h => by cases h
  | w :: r, i, j, hi, h => by
    rw [scan] at h
    split at h
    · rename_i h40
      cases h
      exact ⟨Nat.le_refl _, by simp, .inl h40, fun p hp => by omega⟩
    · rename_i h40
      split at h
      · rename_i hd
        cases h
        exact ⟨Nat.le_refl _, by simp, .inr (by simp [hd]), fun p hp => by omega⟩
      · rename_i d hd
        split at h
        · cases h
        · rename_i z
          cases h
          obtain ⟨h1, h2, h3, h4⟩ := scan_err r (i + 1) j (by omega) z
          obtain ⟨m, hm⟩ : ∃ m, j - i = m + 1 := ⟨j - i - 1, by omega⟩
          have hm' : j - (i + 1) = m := by omega
          rw [hm'] at h2 h3 h4
          rw [hm]
          refine ⟨by omega, by simp; omega, by simpa using h3, fun p hp => ?_⟩
          cases p with
          | zero => exact ⟨by omega, by simp [hd]⟩
          | succ p =>
            obtain ⟨z1, z2⟩ := h4 p (by omega)
            exact ⟨by omega, by simpa using z2⟩
theorem scan_good : ∀ (ws : List (List Nat)) (i : Nat) (ds : List Deed), i ≤ 40 → scan i ws = .ok ds → ws.map deedOf = ds.map some
  | [], i, ds, hi, h => by cases h; rfl
  | w :: r, i, ds, hi, h => by
    rw [scan] at h
    split at h
    · cases h
    · split at h
      · cases h
      · rename_i d hd
        split at h
        · rename_i es z
          cases h
          simp [hd, scan_good r (i + 1) es (by omega) z]
        · cases h
theorem filter_first {f : Nat → Bool} : ∀ {n j : Nat}, j < n → f j = true → (∀ p, p < j → f p = false) → ∃ r, (List.range n).filter f = j :: r := by
  intro n j hj hf hp
  have e : List.range n = List.range j ++ (j :: List.range' (j + 1) (n - j - 1)) := by
    rw [List.range_eq_range', List.range_eq_range', ← List.range'_succ]
    have := List.range'_append (s := 0) (m := j) (n := n - j - 1 + 1) (step := 1)
    rw [Nat.one_mul, Nat.zero_add] at this
    rw [this]
    congr 1
    omega
  rw [e, List.filter_append, List.filter_cons, if_pos hf]
  have e0 : (List.range j).filter f = [] := List.filter_eq_nil_iff.mpr fun p h => by rw [hp p (List.mem_range.mp h)]; exact Bool.false_ne_true
  rw [e0]
  exact ⟨_, rfl⟩
end Db

namespace Db
open PySem L2 Evl StX
/-! ### weights of texts -/
def wt (f : Nat → Nat) (l : List Nat) : Nat := (l.map f).sum
def gw (f : Nat → Nat) (c : Nat) (ws : List (List Nat)) : Nat := (ws.map fun w => wt f w + f c).sum
theorem wt_app (f : Nat → Nat) (a b : List Nat) : wt f (a ++ b) = wt f a + wt f b := by unfold wt; rw [List.map_append, List.sum_append]
theorem wt_cons (f : Nat → Nat) (x : Nat) (b : List Nat) : wt f (x :: b) = f x + wt f b := by unfold wt; rw [List.map_cons, List.sum_cons]
theorem gw_app (f : Nat → Nat) (c : Nat) (a b : List (List Nat)) : gw f c (a ++ b) = gw f c a + gw f c b := by unfold gw; rw [List.map_append, List.sum_append]
theorem gw_cons (f : Nat → Nat) (c : Nat) (x : List Nat) (b : List (List Nat)) : gw f c (x :: b) = wt f x + f c + gw f c b := by unfold gw; rw [List.map_cons, List.sum_cons]
theorem gw_nil (f : Nat → Nat) (c : Nat) : gw f c [] = 0 := rfl
theorem wt_jn (f : Nat → Nat) (c : Nat) : ∀ {ws : List (List Nat)}, ws ≠ [] → wt f (jn c ws) + f c = gw f c ws
  | [], h => absurd rfl h
  | [x], _ => by rw [gw_cons, gw_nil]; rfl
  | x :: y :: r, _ => by
    have ih := wt_jn f c (ws := y :: r) (by simp)
    rw [jn_cons (by simp), wt_app, wt_cons, gw_cons, ← ih]
    omega
theorem wt_jn_le (f : Nat → Nat) (c : Nat) (ws : List (List Nat)) : wt f (jn c ws) + f c ≤ gw f c ws + f c := by
  cases ws with
  | nil => show 0 + _ ≤ 0 + _; omega
  | cons x r => rw [wt_jn f c (by simp)]; omega
theorem jn_words (c : Nat) (l : List Nat) : jn c (wordsOf c l) = l := by
  have h1 := StrLaws.join_split (tS l) ⟨#[c]⟩
  rw [split_words, join_tS] at h1
  exact tS_inj h1
theorem words_free {c : Nat} {l w : List Nat} (h : w ∈ wordsOf c l) : c ∉ w := by
  obtain ⟨s, hs, rfl⟩ := List.mem_map.mp h
  exact StrLaws.split_free (tS l) c s hs
theorem words_ne (c : Nat) (l : List Nat) : wordsOf c l ≠ [] := fun z => by
  have h2 : 1 ≤ (Txt.split (tS l) ⟨#[c]⟩).length := PyProof.Rows.split_pos _ _
  rw [split_words, z] at h2
  simp at h2
theorem gw_words (f : Nat → Nat) (c : Nat) (l : List Nat) : gw f c (wordsOf c l) = wt f l + f c := by
  rw [← wt_jn f c (words_ne c l), jn_words]
theorem gw_at {f : Nat → Nat} {c : Nat} : ∀ {ws : List (List Nat)} {k : Nat} {w : List Nat}, ws[k]? = some w → gw f c ws = gw f c (ws.take k) + (wt f w + f c) + gw f c (ws.drop (k + 1))
  | x :: r, 0, w, h => by
    cases h
    rw [gw_cons]
    simp [gw_nil]
  | x :: r, k + 1, w, h => by
    rw [gw_cons, gw_at (k := k) (by simpa using h), List.take_succ_cons, gw_cons, List.drop_succ_cons]
    omega
theorem gw_parts (f : Nat → Nat) (c : Nat) (ws : List (List Nat)) (k : Nat) : gw f c ws = gw f c (ws.take k) + gw f c (ws.drop k) := by
  rw [← gw_app, List.take_append_drop]
theorem wt_parts (f : Nat → Nat) (l : List Nat) (k : Nat) : wt f l = wt f (l.take k) + wt f (l.drop k) := by
  rw [← wt_app, List.take_append_drop]
theorem wt_word {f : Nat → Nat} {c : Nat} {l w : List Nat} (h : w ∈ wordsOf c l) : wt f w ≤ wt f l := by
  obtain ⟨k, hk, e⟩ := List.getElem_of_mem h
  have z := gw_at (f := f) (c := c) (k := k) (w := w) (by rw [List.getElem?_eq_getElem hk, e])
  rw [gw_words] at z
  omega
theorem gw_rep (f : Nat → Nat) (c : Nat) (w : List Nat) : ∀ n, gw f c (List.replicate n w) = n * (wt f w + f c)
  | 0 => by simp [gw_nil]
  | n + 1 => by rw [List.replicate_succ, gw_cons, gw_rep f c w n, Nat.succ_mul]; omega
theorem wt_zero {f : Nat → Nat} {l : List Nat} (h : ∀ x ∈ l, f x = 0) : wt f l = 0 := by
  induction l with
  | nil => rfl
  | cons x r ih => rw [wt_cons, h x (by simp), ih fun y hy => h y (List.mem_cons_of_mem _ hy)]
theorem wt_le {f : Nat → Nat} {l : List Nat} (h : ∀ x, f x ≤ 1) : wt f l ≤ l.length := by
  induction l with
  | nil => exact Nat.le_refl _
  | cons x r ih => have := h x; rw [wt_cons, List.length_cons]; omega
def one1 (_ : Nat) : Nat := 1
def spc (x : Nat) : Nat := if x = 10 ∨ x = 32 then 1 else 0
theorem spc_le (x : Nat) : spc x ≤ 1 := by unfold spc; split <;> omega
theorem one_le (x : Nat) : one1 x ≤ 1 := Nat.le_refl _
theorem wt_one (l : List Nat) : wt one1 l = l.length := by
  induction l with
  | nil => rfl
  | cons x r ih => rw [wt_cons, ih, List.length_cons]; unfold one1; omega
theorem gw_ge {f : Nat → Nat} {c : Nat} (h : f c = 1) : ∀ ws : List (List Nat), ws.length ≤ gw f c ws
  | [] => Nat.le_refl _
  | x :: r => by have := gw_ge h r; rw [gw_cons, List.length_cons, h]; omega
theorem words_le10 (l : List Nat) : (wordsOf 10 l).length ≤ wt spc l + 1 := by
  have h := gw_ge (f := spc) (c := 10) rfl (wordsOf 10 l)
  rw [gw_words] at h
  exact h
theorem words_le32 (l : List Nat) : (wordsOf 32 l).length ≤ wt spc l + 1 := by
  have h := gw_ge (f := spc) (c := 32) rfl (wordsOf 32 l)
  rw [gw_words] at h
  exact h
theorem mem_jn {c : Nat} : ∀ {ws : List (List Nat)} {w : List Nat}, w ∈ ws → ∀ x ∈ w, x ∈ jn c ws
  | [y], w, h, x, hx => by
    rw [List.mem_singleton] at h
    subst h
    exact hx
  | y :: z :: r, w, h, x, hx => by
    rw [jn_cons (by simp)]
    rcases List.mem_cons.mp h with rfl | h
    · exact List.mem_append_left _ hx
    · exact List.mem_append_right _ (List.mem_cons_of_mem _ (mem_jn h x hx))
/-- a word of a row has no blank and no line end -/
theorem word_spc {l r w : List Nat} (hr : r ∈ wordsOf 10 l) (hw : w ∈ wordsOf 32 r) : wt spc w = 0 := wt_zero fun x hx => by
  have h1 : 32 ∉ w := words_free hw
  have h2 : 10 ∉ r := words_free hr
  have h3 : x ∈ r := by
    have z := mem_jn (c := 32) hw x hx
    rwa [jn_words] at z
  unfold spc
  rw [if_neg]
  rintro (rfl | rfl)
  · exact h2 h3
  · exact h1 hx
/-! changes of a text -/
structure Chg (l l' : List Nat) : Prop where
  len : l'.length ≤ 41 * l.length + 40
  sp : wt spc l' ≤ 2 * wt spc l + 40
theorem chg_of {l l' : List Nat} (h1 : wt one1 l' ≤ 41 * l.length + 40) (h2 : wt spc l' ≤ 2 * wt spc l + 40) : Chg l l' := ⟨by rwa [wt_one] at h1, h2⟩
theorem chg_sign {l s : List Nat} {a b : Nat} (hs : s.length ≤ 1) (h : a ≤ b) : Chg l (l.take a ++ s ++ l.drop b) := by
  have key : ∀ f : Nat → Nat, (∀ x, f x ≤ 1) → wt f (l.take a ++ s ++ l.drop b) ≤ wt f l + 1 := fun f hf => by
    have h1 := wt_parts f l a
    have h2 := wt_parts f (l.drop a) (b - a)
    have e : (l.drop a).drop (b - a) = l.drop b := by rw [List.drop_drop]; congr 1; omega
    rw [e] at h2
    have h3 := wt_le (l := s) hf
    rw [wt_app, wt_app]
    omega
  have k1 := key one1 one_le
  have k2 := key spc spc_le
  rw [wt_one l] at k1
  exact chg_of (by omega) (by omega)
theorem chg_rows {l r : List Nat} {k : Nat} {ws : List (List Nat)} (hr : (wordsOf 10 l)[k]? = some r)
    (h : ws = (wordsOf 10 l).take k ++ (wordsOf 10 l).drop (k + 1) ∨ ws = (wordsOf 10 l).take k ++ [r] ++ (wordsOf 10 l).drop k ∨ ws = (wordsOf 10 l).drop k ++ (wordsOf 10 l).take k) : Chg l (jn 10 ws) := by
  have key : ∀ f : Nat → Nat, f 10 = 1 → wt f (jn 10 ws) ≤ 2 * wt f l + 1 := fun f hf => by
    have h1 := gw_words f 10 l
    have h2 := gw_at (f := f) (c := 10) hr
    have h3 := gw_parts f 10 (wordsOf 10 l) k
    have h4 := wt_word (f := f) (List.mem_of_getElem? hr)
    by_cases hn : ws = []
    · rw [hn]; exact Nat.zero_le _
    have h5 := wt_jn f 10 hn
    rcases h with rfl | rfl | rfl
    · rw [gw_app] at h5; omega
    · rw [gw_app, gw_app, gw_cons, gw_nil] at h5; omega
    · rw [gw_app] at h5; omega
  have k1 := key one1 rfl
  have k2 := key spc rfl
  rw [wt_one l] at k1
  exact chg_of (by omega) (by omega)
theorem chg_words {l r w : List Nat} {k j : Nat} {mid : List (List Nat)} (hr : (wordsOf 10 l)[k]? = some r) (hw : (wordsOf 32 r)[j]? = some w)
    (h : mid = [] ∨ (∃ n, n ≤ 41 ∧ mid = List.replicate n w) ∨ ∃ o : List Nat, mid = [o] ∧ o.length ≤ 4 ∧ wt spc o = 0) :
    Chg l (jn 10 ((wordsOf 10 l).take k ++ [jn 32 ((wordsOf 32 r).take j ++ mid ++ (wordsOf 32 r).drop (j + 1))] ++ (wordsOf 10 l).drop (k + 1))) := by
  have hr' := List.mem_of_getElem? hr
  have hw' := List.mem_of_getElem? hw
  have w0 := word_spc hr' hw'
  generalize hnr : jn 32 ((wordsOf 32 r).take j ++ mid ++ (wordsOf 32 r).drop (j + 1)) = nr
  have key : ∀ f : Nat → Nat, f 10 = 1 → f 32 = 1 → wt f (jn 10 ((wordsOf 10 l).take k ++ [nr] ++ (wordsOf 10 l).drop (k + 1))) + wt f r = wt f l + wt f nr ∧ wt f nr ≤ wt f r + gw f 32 mid - (wt f w + 1) ∧ wt f r ≤ wt f l ∧ wt f w ≤ wt f r := fun f h10 h32 => by
    have h1 := gw_words f 10 l
    have h2 := gw_at (f := f) (c := 10) hr
    have h5 := wt_jn f 10 (ws := (wordsOf 10 l).take k ++ [nr] ++ (wordsOf 10 l).drop (k + 1)) (by simp)
    rw [gw_app, gw_app, gw_cons, gw_nil] at h5
    have g1 := gw_words f 32 r
    have g2 := gw_at (f := f) (c := 32) hw
    have g4 := wt_word (f := f) hw'
    refine ⟨by omega, ?_, wt_word hr', g4⟩
    by_cases hn : (wordsOf 32 r).take j ++ mid ++ (wordsOf 32 r).drop (j + 1) = []
    · have e : nr = [] := by rw [← hnr, hn]; rfl
      rw [e]; exact Nat.zero_le _
    have g5 := wt_jn f 32 hn
    rw [hnr, gw_app, gw_app] at g5
    omega
  obtain ⟨a1, a2, a3, a4⟩ := key one1 rfl rfl
  obtain ⟨b1, b2, b3, b4⟩ := key spc rfl rfl
  rw [wt_one l] at a1 a3
  have m1 : gw one1 32 mid ≤ 41 * (wt one1 w + 1) := by
    rcases h with rfl | ⟨n, hn, rfl⟩ | ⟨o, rfl, ho, _⟩
    · rw [gw_nil]; omega
    · rw [gw_rep]
      have := Nat.mul_le_mul_right (wt one1 w + one1 32) hn
      have e : one1 32 = 1 := rfl
      rw [e] at this ⊢
      omega
    · rw [gw_cons, gw_nil, wt_one o]
      have e : one1 32 = 1 := rfl
      omega
  have m2 : gw spc 32 mid ≤ 41 := by
    rcases h with rfl | ⟨n, hn, rfl⟩ | ⟨o, rfl, _, ho⟩
    · rw [gw_nil]; omega
    · rw [gw_rep, w0]
      have e : spc 32 = 1 := rfl
      rw [e]
      omega
    · rw [gw_cons, gw_nil, ho]
      have e : spc 32 = 1 := rfl
      omega
  refine chg_of ?_ (by omega)
  have : wt one1 nr ≤ wt one1 r + 40 * (wt one1 w + 1) := by omega
  omega

/-! ### what evaluates to what, some more -/
section
variable {K : PySem.W.Frag} {σ : L2.St} {H : Hp} {te to ta tb : TE}
theorem el_split {c : Nat} {s : Str} {l : List Nat} (e : s = ⟨#[c]⟩) (h1 : Ev to σ H (.str (tS l))) (h2 : Ev te σ H (.str s)) (hl : l.length ≤ 16000000) :
    EvL (tM1 (fun x xs H Q => ∃ a b, x = V.str a ∧ xs = [.str b] ∧ (b.length == 0) = false ∧ a.length + 2 ≤ sizeLine ∧ rNewStrs (Txt.split a b) H Q) to te) σ H (((wordsOf c l).map tS).map V.str) := fun H1 f Q q =>
  h1 H1 f _ fun H2 f2 => ⟨⟨_, rfl⟩, h2 H2 (f.trans f2) _ fun H3 f3 => ⟨tS l, s, rfl, rfl, by rw [e]; rfl, by rw [tS_len]; exact Nat.le_trans (by omega : _ ≤ 16777216) (by decide), fun p np => by
    rw [e, split_words]
    exact q p _ (fresh_back (f2.trans f3) np) ((f2.trans f3).trans (Ex.new np)) upd_same⟩⟩
theorem ev_catS {a b : List Nat} (h1 : Ev ta σ H (.str (tS a))) (h2 : Ev tb σ H (.str (tS b))) (hl : a.length + b.length ≤ 16777216) :
    Ev (tOp (fun x y H Q => ∃ i j, x = V.str i ∧ y = V.str j ∧ i.length + j.length ≤ sizeLine ∧ Q (.str (i ++ j)) H) ta tb) σ H (.str (tS (a ++ b))) :=
  ev_op h1 h2 fun H1 f Q q => ⟨_, _, rfl, rfl, by rw [tS_len, tS_len]; exact Nat.le_trans hl (by decide), by rw [tS_app]; exact q H1 (Ex.refl _)⟩
theorem sum_gw (c : Nat) (ws : List (List Nat)) : ((ws.map tS).map (·.length)).sum + ws.length * 1 = gw one1 c ws := by
  induction ws with
  | nil => rfl
  | cons w r ih =>
    rw [gw_cons, ← ih, List.map_cons, List.map_cons, List.sum_cons, tS_len, wt_one, List.length_cons]
    show _ = _ + one1 c + _
    have e : one1 c = 1 := rfl
    omega
theorem gw_jn (c : Nat) (ws : List (List Nat)) : gw one1 c ws ≤ (jn c ws).length + 1 := by
  cases ws with
  | nil => exact Nat.zero_le _
  | cons x r =>
    have h := wt_jn one1 c (ws := x :: r) (by simp)
    rw [← h, wt_one]
    exact Nat.le_refl _
theorem jn_mem_len {c : Nat} {ws : List (List Nat)} {w : List Nat} (h : w ∈ ws) : w.length ≤ (jn c ws).length := by
  obtain ⟨k, hk, e⟩ := List.getElem_of_mem h
  have z := gw_at (f := one1) (c := c) (k := k) (w := w) (by rw [List.getElem?_eq_getElem hk, e])
  have z2 := gw_jn c ws
  rw [wt_one] at z
  have e1 : one1 c = 1 := rfl
  omega
theorem ev_joinL {c : Nat} {s : Str} {ws : List (List Nat)} (e : s = ⟨#[c]⟩) (h1 : Ev to σ H (.str s)) (h2 : EvL te σ H ((ws.map tS).map V.str)) (hl : (jn c ws).length ≤ 16000000) :
    Ev (tM1 (fun x xs H Q => ∃ a p, ∃ ys : List Str, x = V.str a ∧ xs = [.ref p] ∧ (SqL K H p (ys.map V.str) ∨ SqT K H p (ys.map V.str)) ∧ (ys.map (·.length)).sum + ys.length * a.length ≤ 16777216 ∧ Q (.str (Txt.join a ys)) H) to te) σ H (.str (tS (jn c ws))) := fun H1 f Q q =>
  h1 H1 f _ fun H2 f2 => ⟨⟨_, rfl⟩, h2 H2 (f.trans f2) _ fun p H3 np f3 hp => ⟨s, p, ws.map tS, rfl, rfl, .inl (SqL.of hp), by
    have z := sum_gw c ws
    have z2 := gw_jn c ws
    have e1 : s.length = 1 := by rw [e]; rfl
    rw [e1, List.length_map]
    omega, by rw [txt_join e]; exact q H3 (f2.trans f3)⟩⟩
theorem ev_joinR {c : Nat} {s : Str} {ws : List (List Nat)} {p : Addr} (e : s = ⟨#[c]⟩) (h1 : Ev to σ H (.str s)) (h2 : Ev te σ H (.ref p)) (hp : SqL K H p ((ws.map tS).map V.str)) (hl : (jn c ws).length ≤ 16000000) :
    Ev (tM1 (fun x xs H Q => ∃ a p, ∃ ys : List Str, x = V.str a ∧ xs = [.ref p] ∧ (SqL K H p (ys.map V.str) ∨ SqT K H p (ys.map V.str)) ∧ (ys.map (·.length)).sum + ys.length * a.length ≤ 16777216 ∧ Q (.str (Txt.join a ys)) H) to te) σ H (.str (tS (jn c ws))) := fun H1 f Q q =>
  h1 H1 f _ fun H2 f2 => ⟨⟨_, rfl⟩, h2 H2 (f.trans f2) _ fun H3 f3 => ⟨s, p, ws.map tS, rfl, rfl, .inl (ex_l ((f.trans f2).trans f3) hp), by
    have z := sum_gw c ws
    have z2 := gw_jn c ws
    have e1 : s.length = 1 := by rw [e]; rfl
    rw [e1, List.length_map]
    omega, by rw [txt_join e]; exact q H3 (f2.trans f3)⟩⟩
theorem ev_slTo {tl th : TO} {l : List Nat} {a : Nat} (h : Ev te σ H (.str (tS l))) (h1 : EvO tl σ H none) (h2 : EvO th σ H (some (a : Int))) (hl : l.length ≤ 16000000) : Ev (tSl rSlS te tl th) σ H (.str (tS (l.take a))) := fun H1 f Q q =>
  h H1 f _ fun H2 f2 => h1 H2 (f.trans f2) _ fun H3 f3 => h2 H3 ((f.trans f2).trans f3) _ fun H4 f4 => ⟨_, rfl, by rw [tS_len]; exact Nat.le_trans (by omega : _ ≤ 16777216) (by decide), by
    have e : cutS (tS l) none (some (a : Int)) = tS (l.take a) := by
      unfold cutS
      rw [tS_list, tS_len]
      exact congrArg tS (cut_to l a (fun l a b => (l.drop (HT.sIx l.length 0 a)).take (HT.sIx l.length l.length b - HT.sIx l.length 0 a)) fun _ _ _ => rfl)
    rw [e]
    exact q H4 ((f2.trans f3).trans f4)⟩
theorem ev_slFrom {tl th : TO} {l : List Nat} {a : Nat} (h : Ev te σ H (.str (tS l))) (h1 : EvO tl σ H (some (a : Int))) (h2 : EvO th σ H none) (hl : l.length ≤ 16000000) : Ev (tSl rSlS te tl th) σ H (.str (tS (l.drop a))) := fun H1 f Q q =>
  h H1 f _ fun H2 f2 => h1 H2 (f.trans f2) _ fun H3 f3 => h2 H3 ((f.trans f2).trans f3) _ fun H4 f4 => ⟨_, rfl, by rw [tS_len]; exact Nat.le_trans (by omega : _ ≤ 16777216) (by decide), by
    have e : cutS (tS l) (some (a : Int)) none = tS (l.drop a) := by
      unfold cutS
      rw [tS_list, tS_len]
      exact congrArg tS (cut_from l a (fun l a b => (l.drop (HT.sIx l.length 0 a)).take (HT.sIx l.length l.length b - HT.sIx l.length 0 a)) fun _ _ _ => rfl)
    rw [e]
    exact q H4 ((f2.trans f3).trans f4)⟩
theorem ev_slL {tl th : TO} {p : Addr} {xs ys : List V} {lo hi : Option Int} (h : Ev te σ H (.ref p)) (h1 : EvO tl σ H lo) (h2 : EvO th σ H hi) (hp : SqL K H p xs) (e : cutV xs lo hi = ys) : EvL (tSl (rSlL K) te tl th) σ H ys := by
  rw [← e]
  exact el_sl h h1 h2 hp
theorem rc_int9 {b : Bool} : RC (fun xs H Q => (∃ i, xs = [V.int i] ∧ Q (.int i) H) ∨ ∃ k, xs = [V.bl k] ∧ Q (.int (if k then 1 else 0)) H) [.bl b] H (.int (if b then 1 else 0)) := fun H1 _ _ q => .inr ⟨b, rfl, q H1 (Ex.refl H1)⟩
theorem rc_lenT9 {l : List Nat} (h : l.length ≤ 16000000) : RC (fun xs H Q => ∃ x n, xs = [x] ∧ LenV K x H n ∧ Q (.int n) H) [.str (tS l)] H (.int l.length) := fun H1 _ Q q => ⟨_, l.length, rfl, ⟨by rw [tS_len]; exact Nat.le_trans (by omega : _ ≤ 16777216) (by decide), (tS_len l).symm⟩, q H1 (Ex.refl H1)⟩
end
/-! ### deeds or None -/
def OD (K : PySem.W.Frag) (H : Hp) (v : V) : Option Deed → Prop
  | none => v = .non
  | some d => DV K H v d
theorem OD.mono {K : PySem.W.Frag} {H H' : Hp} {v : V} {o : Option Deed} (e : Ex H H') (h : OD K H v o) : OD K H' v o := by
  cases o with
  | none => exact h
  | some d => exact DV.mono e h
theorem OD.buts {K : PySem.W.Frag} {H H' : Hp} {S : List Addr} {v : V} {o : Option Deed} (b : Bt S H H') (hp : ∀ p ∈ S, ∃ us, H p = some (.lst us)) (h : OD K H v o) : OD K H' v o := by
  cases o with
  | none => exact h
  | some d => exact dv_buts b hp h
theorem OD.isn {K : PySem.W.Frag} {H : Hp} {v : V} {o : Option Deed} (h : OD K H v o) : decide (v = .non) = decide (o = none) := by
  cases o with
  | none => rw [show v = .non from h]; rfl
  | some d =>
    obtain ⟨a, rfl, _⟩ := h
    rfl
theorem paired_take {α β : Type} {F : α → β → Prop} : ∀ {l : List α} {m : List β} (n : Nat), Paired F l m → Paired F (l.take n) (m.take n)
  | _, _, 0, _ => .nil
  | _, _, n + 1, .nil => .nil
  | _, _, n + 1, .cons a t => .cons a (paired_take n t)
theorem paired_get {α β : Type} {F : α → β → Prop} : ∀ {l : List α} {m : List β} {i : Nat} {v : α}, Paired F l m → l[i]? = some v → ∃ u, m[i]? = some u ∧ F v u
  | _, _, _, _, .nil, e => by simp at e
  | _, _, 0, _, .cons r _, e => by simp at e; subst e; exact ⟨_, rfl, r⟩
  | _, _, i + 1, v, .cons _ t, e => by
    obtain ⟨u, h1, h2⟩ := paired_get (i := i) (v := v) t (by simpa using e)
    exact ⟨u, by simpa using h1, h2⟩
theorem paired_app {α β : Type} {F : α → β → Prop} : ∀ {l l' : List α} {m m' : List β}, Paired F l m → Paired F l' m' → Paired F (l ++ l') (m ++ m')
  | _, _, _, _, .nil, h => h
  | _, _, _, _, .cons a t, h => .cons a (paired_app t h)
theorem paired_good {K : PySem.W.Frag} {H : Hp} : ∀ {vs : List V} {ds : List Deed}, Paired (OD K H) vs (ds.map some) → PV K H vs ds
  | _, [], .nil => .nil
  | _, _ :: _, .cons a t => .cons a (paired_good t)
/-- a list of deeds, apart from fl -/
def PL (K : PySem.W.Frag) (fl : Addr) (H : Hp) (v : V) (ds : List Deed) : Prop := ∃ p us, v = .ref p ∧ p ≠ fl ∧ H p = some (.lst us) ∧ PV K H us ds
theorem PL.mono {K : PySem.W.Frag} {fl : Addr} {H H' : Hp} {v : V} {ds : List Deed} (e : Ex H H') (h : PL K fl H v ds) : PL K fl H' v ds := by
  obtain ⟨p, us, h1, h2, h3, h4⟩ := h
  exact ⟨p, us, h1, h2, e _ _ h3, h4.mono e⟩
theorem PL.set {K : PySem.W.Frag} {fl : Addr} {H : Hp} {v : V} {ds : List Deed} {bs cs : List V} (hD : H fl = some (.lst bs)) (h : PL K fl H v ds) : PL K fl (upd H fl (.lst cs)) v ds := by
  obtain ⟨p, us, h1, h2, h3, h4⟩ := h
  exact ⟨p, us, h1, h2, by rw [upd_ne h2]; exact h3, pv_buts ((Bt.refl H).set (by simp) : Bt [fl] H (upd H fl (.lst cs))) (by simp [hD]) h4⟩
theorem PL.dp {K : PySem.W.Frag} {fl : Addr} {H : Hp} {v : V} {ds : List Deed} (h : PL K fl H v ds) : Dp K H v (datDs ds) := by
  obtain ⟨p, us, rfl, _, h3, h4⟩ := h
  exact PV.dp (SqL.of h3) h4
/-- a row's words, none of an empty one -/
def wsk (r : List Nat) : List (List Nat) := if r = [] then [] else wordsOf 32 r
theorem progD_wsk (r : List Nat) : progD r = scan 0 (wsk r) := by
  unfold progD wsk
  by_cases h : r = []
  · rw [if_pos h, if_pos h]; rfl
  · rw [if_neg h, if_neg h]
def badAt (ws : List (List Nat)) (i : Nat) : Bool := decide (((ws.map deedOf).take 41).getD i none = none) || decide (i = 40)
def bads (ws : List (List Nat)) : List Nat := (List.range (min 41 ws.length)).filter (badAt ws)
theorem opt_at {ws : List (List Nat)} {i : Nat} (h : i < 41) : ((ws.map deedOf).take 41).getD i none = ws[i]?.bind deedOf := by
  rw [List.getD_eq_getElem?_getD, List.getElem?_take, if_pos h, List.getElem?_map]
  cases ws[i]? <;> rfl
theorem bads_err {ws : List (List Nat)} {j : Nat} (h : scan 0 ws = .error j) : ∃ r, bads ws = j :: r := by
  obtain ⟨_, h2, h3, h4⟩ := scan_err ws 0 j (by omega) h
  have h0 := scan_bad ws 0 j (by omega) h
  simp only [Nat.sub_zero] at h2 h3 h4
  refine filter_first (by omega) ?_ fun p hp => ?_
  · unfold badAt
    rw [opt_at (by omega)]
    rcases h3 with rfl | h3
    · simp
    · rw [h3]; simp
  · obtain ⟨z1, z2⟩ := h4 p hp
    unfold badAt
    rw [opt_at (by omega)]
    simp only [Bool.or_eq_false_iff, decide_eq_false_iff_not]
    exact ⟨z2, by omega⟩
theorem bads_ok {ws : List (List Nat)} {ds : List Deed} (h : scan 0 ws = .ok ds) : bads ws = [] ∧ (ws.map deedOf).take 41 = ds.map some := by
  have h1 := scan_good ws 0 ds (by omega) h
  obtain ⟨h2, _⟩ := scan_ok ws 0 ds (by omega) h
  have hl : ws.length = ds.length := by simpa using congrArg List.length h1
  refine ⟨List.filter_eq_nil_iff.mpr fun i hi => ?_, ?_⟩
  · have hi := List.mem_range.mp hi
    unfold badAt
    rw [h1, List.take_of_length_le (by simp; omega), List.getD_eq_getElem?_getD, List.getElem?_map, List.getElem?_eq_getElem (by omega : i < ds.length)]
    simp
    omega
  · rw [h1, List.take_of_length_le (by simp; omega)]
/-- rows so far -/
theorem readD_bad {l : List Nat} {k j : Nat} {r : List Nat} {dss : List (List Deed)} (hr : (wordsOf 10 l)[k]? = some r) (hk : k < 2) (h : ((wordsOf 10 l).take k).map progD = dss.map .ok) (he : progD r = .error j) : readD l = .error (k, j) := by
  unfold readD
  generalize wordsOf 10 l = ws at hr h
  match k, hk with
  | 0, _ =>
    match ws, hr with
    | r0 :: rest, hr =>
      cases hr
      simp only [he]
  | 1, _ =>
    match ws, hr with
    | r0 :: r1 :: more, hr =>
      cases hr
      match dss, h with
      | d :: _, h =>
        have h0 : progD r0 = .ok d := (List.cons.inj h).1
        simp only [h0, he]
theorem readD_end {l : List Nat} {dss : List (List Deed)} (h : ((wordsOf 10 l).take (min 2 (wordsOf 10 l).length)).map progD = dss.map .ok) :
    ((wordsOf 10 l).length = 1 ∧ readD l = .error (1, 0)) ∨ (2 < (wordsOf 10 l).length ∧ readD l = .error (2, 0)) ∨ ∃ ds es, (wordsOf 10 l).length = 2 ∧ dss = [ds, es] ∧ readD l = .ok (ds, es) := by
  have hn := words_ne 10 l
  unfold readD
  generalize wordsOf 10 l = ws at hn h
  match ws, hn with
  | [r0], _ =>
    match dss, h with
    | d :: _, h =>
      have h0 : progD r0 = .ok d := (List.cons.inj h).1
      refine .inl ⟨rfl, ?_⟩
      simp only [h0]
  | [r0, r1], _ =>
    have hl2 : dss.length = 2 := by simpa using (congrArg List.length h).symm
    match dss, hl2, h with
    | [d, e], _, h =>
      have h0 : progD r0 = .ok d := (List.cons.inj h).1
      have h1 : progD r1 = .ok e := (List.cons.inj (List.cons.inj h).2).1
      refine .inr (.inr ⟨d, e, rfl, rfl, ?_⟩)
      simp only [h0, h1]
  | r0 :: r1 :: r2 :: more, _ =>
    have em : min 2 (r0 :: r1 :: r2 :: more).length = 2 := by simp
    rw [em] at h
    have hl2 : dss.length = 2 := by simpa using (congrArg List.length h).symm
    match dss, hl2, h with
    | [d, e], _, h =>
      have h0 : progD r0 = .ok d := (List.cons.inj h).1
      have h1 : progD r1 = .ok e := (List.cons.inj (List.cons.inj h).2).1
      refine .inr (.inl ⟨by simp, ?_⟩)
      simp only [h0, h1]
section
variable {K : PySem.W.Frag} {σ : L2.St} {H : Hp} {te tb : TE} {tz : TS} {D : Ends} {i : Nat} {r : R2} {Q : VK}
theorem op_bindL {xs : List V} (h : EvL te σ H xs) (k : ∀ p H1, H p = none → Ex H H1 → H1 p = some (.lst xs) → tb σ H1 (fun y H2 => r (.ref p) y H2 Q)) : tOp r te tb σ H Q := h H (Ex.refl H) _ k
theorem q_set_bind (h : te σ H (fun v H1 => tz D (σ.set i (some v)) H1)) : tSeq (tAsg te (gName i)) tz D σ H := h
theorem cons_bind {tr : TA} {Q : List V → Hp → Prop} (h : te σ H (fun v H1 => tr σ H1 (fun vs H2 => Q (v :: vs) H2))) : tCons te tr σ H Q := h
theorem op_bind (h : te σ H (fun x H1 => tb σ H1 (fun y H2 => r x y H2 Q))) : tOp r te tb σ H Q := h
end
theorem s_forXL {K : PySem.W.Frag} {σ : L2.St} {H : Hp} {te : TE} {tu : TS} {D : Ends} {j : Nat} {R : Addr → Hp → Prop} (h : ∀ Q : VK, (∀ l H2, R l H2 → Q (.ref l) H2) → te σ H Q) (k : ∀ l H2, R l H2 → tFor (iList K (tC (.ref l))) (gName j) tu D σ H2) : tFor (iList K te) (gName j) tu D σ H := h _ fun l H2 r => k l H2 r
theorem q_forRX9 {σ : L2.St} {H : Hp} {tu tz : TS} {D : Ends} {ta : TA} {j : Nat} {R : Int → Hp → Prop} (h : ∀ Q : List V → Hp → Prop, (∀ n H1, R n H1 → Q [.int n] H1) → ta σ H Q) (k : ∀ n H1, R n H1 → tSeq (tFor (iRng1 (tCons (tC (.int n)) tNil)) (gName j) tu) tz D σ H1) : tSeq (tFor (iRng1 ta) (gName j) tu) tz D σ H := h _ fun n H1 r => k n H1 r
theorem reps_len (c : Array Nat) : ∀ (k : Nat) (acc : Array Nat), ((List.replicate k c).foldl (· ++ ·) acc).size = acc.size + k * c.size
  | 0, acc => by simp
  | k + 1, acc => by
    rw [List.replicate_succ, List.foldl_cons, reps_len c k, Array.size_append, Nat.succ_mul]
    omega
theorem op_mulT {X : Cx} : OpR X (binaryOp .Mult) (fun x y H Q => ∃ (w : Str) (n : Nat), x = .str w ∧ y = .int n ∧ 1 ≤ w.length ∧ w.length ≤ 1000 ∧ 2 ≤ n ∧ n ≤ 1000 ∧ Q (.str ⟨(List.replicate n w.cps).foldl (· ++ ·) #[]⟩) H) := by
  intro pins s σ H x y v u Q I rx ry h
  obtain ⟨w, n, rfl, rfl, hw, hw2, hn, hz, q⟩ := h
  obtain ⟨t, rfl⟩ := rx
  obtain ⟨t', rfl⟩ := ry
  obtain ⟨m1, m2, m3⟩ := PyProof.Rows.mulOk_of (x := w) (n := (n : Int)) 1000 1000 hw2 (by omega) (by omega) (by decide) (by decide)
  refine P.mul_str m1 m2 m3 ?_
  have h1 : ¬ (n : Int) < 1 := by omega
  have h2 : ¬ ((n : Int) == 1 || w.length == 0) = true := by
    rw [Bool.or_eq_true, beq_iff_eq, beq_iff_eq]
    omega
  rw [if_neg h1, if_neg h2, Int.toNat_natCast]
  refine ⟨?_, ⟨.str ⟨(List.replicate n w.cps).foldl (· ++ ·) #[]⟩, H, I.tok _, ⟨_, rfl⟩, q⟩⟩
  show ((List.replicate n w.cps).foldl (· ++ ·) #[]).size ≤ sizeLine
  rw [reps_len]
  have e : w.cps.size ≤ 1000 := hw2
  have := Nat.mul_le_mul hz e
  exact Nat.le_trans (by simp; omega : _ ≤ 1000000) (by decide)
/-! the texts that are drawn -/
def bL : Nat → Nat
  | 0 => 209
  | i + 1 => 41 * bL i + 40
def bW : Nat → Nat
  | 0 => 53
  | i + 1 => 2 * bW i + 40
structure TB (i : Nat) (l : List Nat) : Prop where
  len : l.length ≤ bL i
  sp : wt spc l ≤ bW i
theorem TB.next {i : Nat} {l l' : List Nat} (h : TB i l) (c : Chg l l') : TB (i + 1) l' := by
  have h1 := h.len
  have h2 := h.sp
  have h3 := c.len
  have h4 := c.sp
  refine ⟨?_, ?_⟩
  · show _ ≤ 41 * bL i + 40; omega
  · show _ ≤ 2 * bW i + 40; omega
theorem TB.two {i : Nat} {l : List Nat} (h : TB i l) (hi : i < 3) : l.length ≤ 353009 ∧ wt spc l ≤ 400 := by
  have h1 := h.len
  have h2 := h.sp
  have e : bL i ≤ 353009 ∧ bW i ≤ 400 := by
    match i, hi with
    | 0, _ => decide
    | 1, _ => decide
    | 2, _ => decide
  omega
theorem TB.end' {i : Nat} {l : List Nat} (h : TB i l) (hi : i ≤ 3) : l.length ≤ 16000000 ∧ wt spc l ≤ 1000 := by
  have h1 := h.len
  have h2 := h.sp
  have e : bL i ≤ 16000000 ∧ bW i ≤ 1000 := by
    match i, hi with
    | 0, _ => decide
    | 1, _ => decide
    | 2, _ => decide
    | 3, _ => decide
  omega
theorem wt_row (ds : List Deed) : wt spc (rowS ds) ≤ ds.length := by
  have h := wt_jn_le spc 32 (ds.map wd)
  have e : gw spc 32 (ds.map wd) = ds.length := by
    induction ds with
    | nil => rfl
    | cons d r ih =>
      rw [List.map_cons, gw_cons, ih (wt_jn_le spc 32 _), List.length_cons, wt_zero fun x hx => by
        have := wd_ge d x hx
        unfold spc
        rw [if_neg (by omega)]]
      show 0 + spc 32 + _ = _
      have e : spc 32 = 1 := rfl
      omega
  show wt spc (jn 32 (ds.map wd)) ≤ _
  omega
theorem tb_text {ds es : List Deed} (h1 : ds.length ≤ 40) (h2 : es.length ≤ 12) : TB 0 (textS ds es) := by
  have a1 := row_len ds
  have a2 := row_len es
  have b1 := wt_row ds
  have b2 := wt_row es
  have e : textS ds es = rowS ds ++ 10 :: rowS es := rfl
  refine ⟨?_, ?_⟩
  · rw [e, List.length_append, List.length_cons]; show _ ≤ 209; omega
  · rw [e, wt_app, wt_cons]
    have e2 : spc 10 = 1 := rfl
    show _ ≤ 53; omega
def odd11 : List Str := ["", "\n", "\n\n", "-", "-\n-", "r0 \n", "\nr9", "r0\n\n", " \n", "r0  r1\n", "x\n\nx"]
def odd12 : Str := ("\n" : Str) ++ ⟨(List.replicate 40 ("- " : Str).cps).foldl (· ++ ·) #[]⟩ ++ ("-" : Str)
theorem odd_ok : ∀ x ∈ odd11 ++ [odd12], x.cps.toList.length ≤ 16000000 ∧ wt spc x.cps.toList ≤ 1000 := by decide +kernel
theorem nice_R (l : List Nat) : Nice 3 (datR (readD l)) := by
  have hp : ∀ r ds, progD r = .ok ds → ds.length ≤ 40 := fun r ds h => by
    rw [progD_wsk] at h
    have := (scan_ok _ 0 ds (by omega) h).1
    omega
  have key : ∀ ds es, readD l = .ok (ds, es) → ds.length ≤ 40 ∧ es.length ≤ 40 := fun ds es h => by
    unfold readD at h
    split at h
    · cases h
    · split at h
      · cases h
      · rename_i h1
        split at h
        · cases h
        · split at h
          · cases h
          · rename_i h2
            split at h
            · cases h
              exact ⟨hp _ _ h1, hp _ _ h2⟩
            · cases h
  cases h : readD l with
  | error e =>
    obtain ⟨r, j⟩ := e
    refine .tup (by simp) fun d hd => ?_
    simp only [List.mem_cons, List.not_mem_nil, or_false] at hd
    rcases hd with rfl | rfl | rfl
    · exact .str (by decide +kernel)
    · exact .int _
    · exact .int _
  | ok e =>
    obtain ⟨ds, es⟩ := e
    obtain ⟨h1, h2⟩ := key ds es h
    refine .tup (by simp) fun d hd => ?_
    simp only [List.mem_cons, List.not_mem_nil, or_false] at hd
    rcases hd with rfl | rfl
    · exact nice_ds2 (by omega)
    · exact nice_ds2 (by omega)
end Db

namespace Db
open PySem L2 Evl StX
/-! ### the classes of the written part -/
section
variable {K : PySem.W.Frag}
theorem kit_self {a : Addr} : PySem.W.kitOne K (.ref a) (.ref a) = some true := by
  unfold PySem.W.kitOne
  rw [if_pos (by simp)]
theorem kit_isC {t C : Addr} {r : Bool} (h1 : PySem.W.isClsIn K C = true) (h2 : PySem.W.typeIn K (.ref C) = some (.type "type")) (h3 : PySem.W.subIn K (.ref t) (.ref C) = some r) (ne : (t == C) = false) : PySem.W.kitOne K (.ref t) (.ref C) = some r := by
  have e2 : ((PySem.W.clsIn K C).isSome && PySem.W.typeIn K (.ref C) == some (.type "type")) = true := by
    have h2' : (PySem.W.clsIn K C).isSome = true := h1
    rw [h2', h2] <;> rfl
  have e0 : ¬ ((Value.ref t == Value.ref C) = true) := fun z => by
    have z2 : Value.ref t = Value.ref C := beq_iff_eq.mp z
    have z3 : t = C := Value.ref.inj z2
    rw [z3] at ne
    simp at ne
  unfold PySem.W.kitOne
  rw [if_neg e0]
  show (if ((PySem.W.clsIn K C).isSome && PySem.W.typeIn K (.ref C) == some (.type "type")) = true then PySem.W.subIn K (.ref t) (.ref C) else none) = some r
  rw [if_pos e2]
  exact h3
theorem kit_isT {t : Addr} {T : String} {r : Bool} (h : PySem.W.subIn K (.ref t) (.type T) = some r) (hm : PySem.W.kitMeta T = true) : PySem.W.kitOne K (.ref t) (.type T) = some r := by
  unfold PySem.W.kitOne
  rw [if_neg (fun z => by cases (beq_iff_eq.mp z : Value.ref t = Value.type T))]
  show (if PySem.W.kitMeta T = true then PySem.W.subIn K (.ref t) (.type T) else none) = some r
  rw [if_pos hm]
  exact h
theorem exm_of {t C : Addr} (h0 : PySem.W.subIn K (.ref C) (.type "BaseException") = some true) (h1 : PySem.W.isClsIn K C = true) (h2 : PySem.W.typeIn K (.ref C) = some (.type "type")) (h3 : PySem.W.subIn K (.ref t) (.ref C) = some true) : PySem.W.exmOne K (.ref t) (.ref C) = some true := by
  have e1 : (PySem.W.subIn K (.ref C) (.type "BaseException") == some true) = true := by rw [h0] <;> rfl
  have e2 : ((PySem.W.clsIn K C).isSome && PySem.W.typeIn K (.ref C) == some (.type "type")) = true := by
    have h2' : (PySem.W.clsIn K C).isSome = true := h1
    rw [h2', h2] <;> rfl
  show (if (PySem.W.subIn K (.ref C) (.type "BaseException") == some true) = true then (if ((PySem.W.clsIn K C).isSome && PySem.W.typeIn K (.ref C) == some (.type "type")) = true then PySem.W.subIn K (.ref t) (.ref C) else none) else none) = some true
  rw [if_pos e1, if_pos e2]
  exact h3
theorem clsG_mk {h : Heap} {mg : Str → Option Value} {a1 a2 a3 a4 a5 a6 a7 : Addr} (X : K.In h) (G : h.Ns mainGlobals mg)
    (h1 : PySem.W.nsIn K mainGlobals "DoorError" = some (some (.ref a1))) (h2 : PySem.W.nsIn K mainGlobals "BadMemory" = some (some (.ref a2))) (h3 : PySem.W.nsIn K mainGlobals "BadOrder" = some (some (.ref a3)))
    (h4 : PySem.W.nsIn K mainGlobals "BadProgram" = some (some (.ref a4))) (h5 : PySem.W.nsIn K mainGlobals "BadRule" = some (some (.ref a5))) (h6 : PySem.W.nsIn K mainGlobals "TooMany" = some (some (.ref a6)))
    (h7 : PySem.W.nsIn K mainGlobals "BadText" = some (some (.ref a7))) (h8 : PySem.W.nsIn K mainGlobals "ValueError" = some none) : ClsG K mg a1 a2 a3 a4 a5 a6 a7 :=
  ⟨PySem.W.mg_of X G h1, PySem.W.mg_of X G h2, PySem.W.mg_of X G h3, PySem.W.mg_of X G h4, PySem.W.mg_of X G h5, PySem.W.mg_of X G h6, PySem.W.mg_of X G h7, PySem.W.mg_none_of X G h8⟩
/-- a class that instances are told of -/
structure ClsI (K : PySem.W.Frag) (C : Addr) : Prop where
  c : PySem.W.isClsIn K C = true
  t : PySem.W.typeIn K (.ref C) = some (.type "type")
theorem xfC_mk {C : Addr} (h1 : PySem.W.findIn K (.ref C) "__getattribute__" = some (some (.builtin "BaseException.__getattribute__"))) (h2 : PySem.W.findIn K (.ref C) "__getattr__" = some none) (h3 : PySem.W.subIn K (.ref C) (.type "BaseException") = some true) (h4 : PySem.W.hasDictIn K C = true) : XfC K C := ⟨h1, h2, h3, h4⟩
theorem isC_mk {C : Addr} (x : XfC K C) (h1 : PySem.W.findIn K (.ref C) "__class__" = some (some (.builtin "object.__class__"))) (h2 : PySem.W.specialIn K (.builtin "object.__class__") "__get__" = some (some (.builtin "getset_descriptor.__get__")))
    (h3 : PySem.W.takesIn K (.builtin "object.__class__") = some true) (h4 : PySem.W.mroIn K C (.type "object") = some true) : IsC K C := ⟨x, h1, h2, h3, h4⟩
theorem oexC_mk {C : Addr} {nm q : Str} {N : Addr} {bs bm : List Value} {sn : List Str} {sub : List Value} {ab : Bool} {col : Option Bool} {dd : Option Addr} {m0 m1 m2 m3 m5 : Option Value}
    (l : K.lookup C = some (PySem.excClassObj nm q C N bs bm true sn sub ab col dd m0 m1 m2 m3 m5 "ValueError.__new__")) (r : PySem.HandSPX.refsVE bm = true)
    (sa : PySem.W.findIn K (.ref C) "__setattr__" = some (some (.builtin "object.__setattr__"))) (ex : PySem.W.subIn K (.ref C) (.type "BaseException") = some true) (ty : PySem.W.typeIn K (.ref C) = some (.type "type")) (kp : PySem.W.keepIn K (.ref C) = true) : OexC K C :=
  ⟨⟨nm, q, N, bs, bm, sn, sub, ab, col, dd, m0, m1, m2, m3, m5, l, r⟩, sa, ex, ty, kp⟩
theorem baseX_mk {mg : Str → Option Value} {D : Addr} (g : mg "DoorError" = some (.ref D)) (h1 : PySem.W.specialIn K (.ref D) "__getattribute__" = some (some (.builtin "type.__getattribute__"))) (h2 : PySem.W.readsIn K D (.type "type") = true)
    (h3 : PySem.W.findCls K (.ref D) (.type "type") "__init__" = some (.val (.builtin "ValueError.__init__"))) : BaseX K mg D := ⟨g, h1, h2, h3⟩
theorem ownX_mk {mg : Str → Option Value} {x : Str} {C D fI : Addr} {f1 f2 : Str} (g : mg x = some (.ref C)) (T : OexC K C) (Xf : XfC K C) (i : PySem.W.findIn K (.ref C) "__init__" = some (some (.ref fI))) (t : PySem.W.typeIn K (.ref fI) = some (.type "function"))
    (n1 : PySem.W.findIn K (.ref C) f1 = some none) (n2 : PySem.W.findIn K (.ref C) f2 = some none) (e : PySem.W.exmOne K (.ref C) (.ref D) = some true) : OwnX K mg x C D fI f1 f2 := ⟨g, T, Xf, i, t, n1, n2, e⟩
theorem txtE_mk {a1 a2 a3 a4 a5 a6 : Addr} (ic : IsC K a6) (c1 : ClsI K a1) (c2 : ClsI K a2) (c3 : ClsI K a3) (c4 : ClsI K a4) (c5 : ClsI K a5)
    (s1 : PySem.W.subIn K (.ref a6) (.ref a1) = some false) (s2 : PySem.W.subIn K (.ref a6) (.ref a2) = some false) (s3 : PySem.W.subIn K (.ref a6) (.ref a3) = some false) (s4 : PySem.W.subIn K (.ref a6) (.ref a4) = some false) (s5 : PySem.W.subIn K (.ref a6) (.ref a5) = some false)
    (n1 : (a6 == a1) = false) (n2 : (a6 == a2) = false) (n3 : (a6 == a3) = false) (n4 : (a6 == a4) = false) (n5 : (a6 == a5) = false) (s7 : PySem.W.subIn K (.ref a6) (.type "ValueError") = some true) : TxtE K a1 a2 a3 a4 a5 a6 :=
  ⟨ic, kit_isC c1.c c1.t s1 n1, kit_isC c2.c c2.t s2 n2, kit_isC c3.c c3.t s3 n3, kit_isC c4.c c4.t s4 n4, kit_isC c5.c c5.t s5 n5, kit_self, kit_isT s7 (by decide +kernel)⟩
end
end Db

namespace Db
open PySem L2 Evl StX LamX
/-! ### captured cells, tracked while no frame of theirs lives -/
def CellO (c : Addr) (o : Obj) : HO := .ext fun h => h.get? c = some o
theorem cellO_ok {P : Program} {w : World} {H : Hp} {h : Heap} {c : Addr} {o : Obj} (x : h.get? c = some o) : ObjOk P w H h c (CellO c o) := ⟨x, ⟨o, x⟩, fun h1 h2 z k => k _ z⟩
/-- a cell's object that holds v -/
def CellV (o : Obj) (v : V) : Prop := ∃ u, RelV v u ∧ o.data = .cell (some u)
def untr (cs : List Addr) (H : Hp) : Hp := fun b => if b ∈ cs then none else H b
def retr (cs : List Addr) (H H' : Hp) : Hp := fun b => if b ∈ cs then H b else H' b
theorem untr_in {cs : List Addr} {H : Hp} {b : Addr} (h : b ∈ cs) : untr cs H b = none := if_pos h
theorem untr_out {cs : List Addr} {H : Hp} {b : Addr} (h : ¬ b ∈ cs) : untr cs H b = H b := if_neg h
theorem retr_in {cs : List Addr} {H H' : Hp} {b : Addr} (h : b ∈ cs) : retr cs H H' b = H b := if_pos h
theorem retr_out {cs : List Addr} {H H' : Hp} {b : Addr} (h : ¬ b ∈ cs) : retr cs H H' b = H' b := if_neg h
/-- all of cs are such cells -/
def Cel (cs : List Addr) (H : Hp) : Prop := ∀ c ∈ cs, ∃ v, H c = some (CellO c v)
theorem untr_some {cs : List Addr} {H : Hp} {b : Addr} {o : HO} (h : untr cs H b = some o) : ¬ b ∈ cs ∧ H b = some o := by
  by_cases z : b ∈ cs
  · rw [untr_in z] at h
    cases h
  · exact ⟨z, by rw [untr_out z] at h; exact h⟩
theorem Cel.not {cs : List Addr} {H : Hp} (C : Cel cs H) {b : Addr} {o : HO} (h : H b = some o) (n : ∀ v, o ≠ CellO b v) : ¬ b ∈ cs := fun z => by
  obtain ⟨v, e⟩ := C b z
  rw [h] at e
  exact n v (Option.some.inj e)
theorem Cel.keep {cs : List Addr} {H : Hp} (C : Cel cs H) {b : Addr} {o : HO} (h : H b = some o) (n : ∀ v, o ≠ CellO b v) : untr cs H b = some o := by rw [untr_out (C.not h n)]; exact h
theorem cellO_net {c : Addr} {v : Obj} {xs : List V} : HO.tup xs ≠ CellO c v := fun z => by unfold CellO at z; cases z
theorem cellO_nel {c : Addr} {v : Obj} {xs : List V} : HO.lst xs ≠ CellO c v := fun z => by unfold CellO at z; cases z
theorem cellO_nef {c : Addr} {v : Obj} {o : Obj} {u : HO} : HO.frz o u ≠ CellO c v := fun z => by unfold CellO at z; cases z
theorem cellO_neo {c : Addr} {v : Obj} {a : Addr} : HO.own a ≠ CellO c v := fun z => by unfold CellO at z; cases z
theorem cellO_neb {c : Addr} {v : Obj} {ps : Array Value} : HO.tbl ps ≠ CellO c v := fun z => by unfold CellO at z; cases z
theorem env0_untr {P : Program} {w : World} {K : PySem.W.Frag} {mg : Str → Option Value} {base : Heap} {A : Around} {outer : List Env} {s : Shared} {H : Hp} {cs : List Addr} (e : Env0 P w K mg base A outer s H) (C : Cel cs H) : Env0 P w K mg base A outer s (untr cs H) := by
  have down : ∀ b, H b = none → untr cs H b = none := fun b h => by
    by_cases z : b ∈ cs
    · exact untr_in z
    · rw [untr_out z]; exact h
  refine ⟨e.frames, e.mod, fun b o q => ⟨(e.bs b o q).1, down b (e.bs b o q).2⟩, e.bsz, e.funs, fun b hb => down b (e.frf b hb), fun a o q => ?_, e.bare⟩
  obtain ⟨_, h⟩ := untr_some q
  exact (e.hok a o h).stay (fun b u _ q => q) (fun b q => C.keep q fun v => cellO_neo) fun b xs q => C.keep q fun v => cellO_net
/-- behind a call at the heap without the cells: they are tracked again -/
theorem un_retr {P : Program} {w : World} {fr : List Addr} {H H' : Hp} {h h' : Heap} {cs : List Addr} (C : Cel cs H) (ok : HOk P w H h) (nf : ∀ c ∈ cs, ¬ c ∈ fr) (u : Un fr [] (untr cs H) H' h h') (ok' : HOk P w H' h') :
    Un fr [] H (retr cs H H') h h' ∧ HOk P w (retr cs H H') h' := by
  have out : ∀ b, H b = none → ¬ b ∈ cs := fun b n z => by
    obtain ⟨v, e⟩ := C b z
    rw [n] at e
    cases e
  have dn : ∀ b, H b = none → untr cs H b = none := fun b n => by rw [untr_out (out b n)]; exact n
  have cellk : ∀ c ∈ cs, ∀ o, h.get? c = some o → h'.get? c = some o := fun c hc o e => u.keep c o e (untr_in hc) (nf c hc) (by simp)
  have freeC : ∀ c ∈ cs, H' c = none := fun c hc => by
    obtain ⟨v, e⟩ := C c hc
    obtain ⟨_, ⟨o, ho⟩, _⟩ := ok c _ e
    exact u.free c o ho (untr_in hc) (by simp)
  refine ⟨⟨fun b o e n => u.keep b o e (dn b n), fun b o e n => u.slot b o e (dn b n), fun b o e n x => ?_, u.there, fun b xs q => ?_, fun b o z q => ?_, fun b ps q => ?_⟩, fun a o q => ?_⟩
  · rw [retr_out (out b n)]
    exact u.free b o e (dn b n) x
  · have n := C.not q fun v => cellO_net
    rw [retr_out n]
    exact u.tups b xs (by rw [untr_out n]; exact q)
  · have n := C.not q fun v => cellO_nef
    rw [retr_out n]
    exact u.frzs b o z (by rw [untr_out n]; exact q)
  · have n := C.not q fun v => cellO_neb
    rw [retr_out n]
    exact u.tbls b ps (by rw [untr_out n]; exact q)
  · have up : ∀ b o, H' b = some o → retr cs H H' b = some o := fun b o e => by
      rw [retr_out fun z => by rw [freeC b z] at e; cases e]
      exact e
    by_cases z : a ∈ cs
    · rw [retr_in z] at q
      obtain ⟨v, e⟩ := C a z
      rw [e] at q
      cases q
      obtain ⟨x, _⟩ := ok a _ e
      exact cellO_ok (cellk a z v x)
    · rw [retr_out z] at q
      exact (ok' a o q).stay (fun b u _ q => q) (fun b q => up b _ q) fun b xs q => up b _ q
theorem ex_retr {cs : List Addr} {H H' : Hp} (e : Ex (untr cs H) H') : Ex H (retr cs H H') := fun b o h => by
  by_cases z : b ∈ cs
  · rw [retr_in z]; exact h
  · rw [retr_out z]; exact e b o (by rw [untr_out z]; exact h)
/-! ### lambdas, with defaults or without -/
structure LF where
  qual : Str
  params : Arguments
  body : Expr
  scope : Scope
  dV : Value
  cl : List (Str × Addr)
  c : Addr
abbrev LF.fd (F : LF) (doc pm ctv : Value) : FuncData := PySem.W.kdv_fn "<lambda>" F.qual F.params (.expr F.body) F.scope F.cl F.dV doc pm (.ref F.c) ctv
/-- the object at f is the lambda F -/
def LamO (f : Addr) (F : LF) : HO := .ext fun h => ∃ (od : Option Addr) (sl : Array (Option Value)) (doc pm ctv : Value), h.get? f = some (⟨.type "function", od, .func (F.fd doc pm ctv), sl⟩ : Obj)
theorem lamO_at {P : Program} {w : World} {H : Hp} {h : Heap} {f : Addr} {F : LF} (hok : HOk P w H h) (e : H f = some (LamO f F)) : ∃ (od : Option Addr) (sl : Array (Option Value)) (doc pm ctv : Value), h.get? f = some (⟨.type "function", od, .func (F.fd doc pm ctv), sl⟩ : Obj) := by
  obtain ⟨x, _⟩ := hok f _ e
  exact x
theorem lamO_ne {f : Addr} {F : LF} (ps : Array Value) : LamO f F ≠ .tbl ps := fun z => by
  unfold LamO at z
  cases z
section
variable {X : Cx} {pins : List (Addr × Obj)} {σ : L2.St} {H : Hp} {s : Shared}
theorem inv_lam {F : LF} {o : Obj} {t' : Nat} {doc pm ctv : Value} (I : Inv X pins σ H s) (ho : o = { cls := .type "function", data := .func (F.fd doc pm ctv) }) :
    Inv X pins σ (upd H s.heap.objs.size (LamO s.heap.objs.size F)) { s with heap := s.heap.push o, toks := t' } := by
  subst ho
  refine I.laid (a := s.heap.objs.size) (fun b u e => Heap.get?_push_of_some _ e) (Nat.le_refl _) ?_
  have e : (s.heap.push ({ cls := .type "function", data := .func (F.fd doc pm ctv) } : Obj)).get? s.heap.objs.size = some ({ cls := .type "function", data := .func (F.fd doc pm ctv) } : Obj) := Heap.get?_push_size _ rfl
  exact ⟨⟨_, _, doc, pm, ctv, e⟩, ⟨_, e⟩, fun h1 h2 ⟨od, sl, d, p, t, z⟩ st => ⟨od, sl, d, p, t, st _ z⟩⟩
/-- the object is made; its code object is new, or found in the table -/
theorem lam_tail {T : List (Addr × Str)} {c P : Addr} {qual : Str} {params : Arguments} {body : Expr} {scope : Scope} {dV : Value} {pos : Pos} {E : Value → Shared → Prop} {Q : Value → Shared → Prop} (I : Inv X pins σ H s) (TB : TabB X.base X.mg c P) (hcode : X.env.code = .ref c)
    (hm : (P, qual) ∈ T) (hu : ∀ p ∈ T, p.1 = P → p.2 = qual) (hT : Tabs T H) (hfree : ∀ y ∈ scope.names, y.2 = .free → ∃ c, X.env.cells.lookup y.1 = some c)
    (h : ∀ (f c' : Addr) (H1 : Hp) (s' : Shared), Inv X pins σ H1 s' → ExtN H H1 → (∀ b, H1 b = none → H b = none) → Tabs T H1 → H f = none → H1 f = some (LamO f ⟨qual, params, body, scope, dV, cloFrom X.env.cells scope.names [], c'⟩) → H1 c' = some (CodeO c' qual) → Q (.ref f) s') :
    wpAny (model X.prog X.w) X.A (makeTail "<lambda>" qual params (.expr body) scope X.env dV .none none pos pos.line) Q E s := by
  obtain ⟨ps, hP, ht, ha⟩ := (show TabS H P qual from hT _ hm)
  have bP : s.heap.BuiltinsAt X.mg P := TB.bm.keeps I.bk
  have hP' : s.heap.get? P = some { cls := .none, data := .fields ps } := I.hok P _ hP
  cases hc : codeAmong pos ps.toList with
  | none =>
    refine PySem.W.kdv_makeTail (mg := X.mg) (c := c) (P := P) (ps := ps) (closure_ok hfree) I.ok.glob (I.mod.glob.keeps I.bk) hcode (TB.code.keeps I.bk) hP' ht hc TB.gP bP fun c' ctv doc h' tk hx hge hlt hrec htb => ?_
    obtain ⟨c2, oc, vs, t, e2, hoc, hd, hv⟩ := hrec
    cases e2
    have nC : H c' = none := I.hok.fresh hge
    have I1 := inv_table (t' := tk) (more := #[rawInt pos.line, rawInt pos.col, .ref c']) (h' := h') I hP (fun b o hb e => hx b o hb e) htb hge ⟨oc, vs, t, hoc, hd, hv⟩
    have hE : ExtN H (upd (upd H P (.tbl (ps ++ #[rawInt pos.line, rawInt pos.col, .ref c']))) c' (CodeO c' qual)) := fun b o e n => by
      rw [upd_ne (ne_of_none e nC), upd_ne (fun z => n ps (Option.some.inj (e.symm.trans (by rw [z]; exact hP))))]
      exact e
    have eL : (ps ++ #[rawInt pos.line, rawInt pos.col, .ref c']).toList = ps.toList ++ [rawInt pos.line, rawInt pos.col, .ref c'] := by simp
    have T1 : Tabs T (upd (upd H P (.tbl (ps ++ #[rawInt pos.line, rawInt pos.col, .ref c']))) c' (CodeO c' qual)) := fun p hp => by
      by_cases hb : p.1 = P
      · rw [hu p hp hb, hb]
        refine ⟨_, by rw [upd_ne (ne_of_none hP nC), upd_same], by rw [eL]; exact PySem.TriplesOk_snoc _ _ _ _ ht, fun p' cv hcv => ?_⟩
        rw [eL] at hcv
        rcases among_app _ ht hcv with z | z
        · obtain ⟨c0, e1, e2⟩ := ha p' cv z
          exact ⟨c0, e1, hE _ _ e2 codeO_ne⟩
        · exact ⟨c', z, upd_same⟩
      · obtain ⟨ps', a1, a2, a3⟩ := hT p hp
        refine ⟨ps', by rw [upd_ne (ne_of_none a1 nC), upd_ne hb]; exact a1, a2, fun p' cv hcv => ?_⟩
        obtain ⟨c0, e1, e2⟩ := a3 p' cv hcv
        exact ⟨c0, e1, hE _ _ e2 codeO_ne⟩
    have nF := I1.hok.fresh (Nat.le_refl _)
    have I2 := inv_lam (F := ⟨qual, params, body, scope, dV, cloFrom X.env.cells scope.names [], c'⟩) (t' := tk) (doc := doc) (pm := (X.mg "__name__").getD .none) (ctv := ctv) I1 rfl
    refine h h'.objs.size c' _ _ I2 (fun b o e n => ?_) (fun b e => NdefX.upd_none (NdefX.upd_none (NdefX.upd_none e))) (T1.ext fun b o e => ?_) (I.hok.fresh (Nat.le_trans hge (Nat.le_of_lt hlt))) upd_same ?_
    · exact (upd_ne (ne_of_none (hE b o e n) nF)).trans (hE b o e n)
    · exact (upd_ne (ne_of_none e nF)).trans e
    · exact (upd_ne (Nat.ne_of_lt hlt)).trans upd_same
  | some cv =>
    obtain ⟨c', e, hco⟩ := ha pos cv hc
    subst e
    refine PySem.W.kdv_makeTailHit (mg := X.mg) (c := c) (P := P) (ps := ps) (closure_ok hfree) I.ok.glob (I.mod.glob.keeps I.bk) hcode (TB.code.keeps I.bk) hP' ht hc bP fun ctv doc h' tk hx hsz => ?_
    have I1 : Inv X pins σ H { s with heap := h', toks := tk } := I.kept hx
    have nF : H h'.objs.size = none := I1.hok.fresh (Nat.le_refl _)
    have I2 := inv_lam (F := ⟨qual, params, body, scope, dV, cloFrom X.env.cells scope.names [], c'⟩) (t' := tk) (doc := doc) (pm := (X.mg "__name__").getD .none) (ctv := ctv) I1 rfl
    refine h h'.objs.size c' _ _ I2 (fun b o e n => ?_) (fun b e => NdefX.upd_none e) (hT.ext fun b o e => ?_) nF upd_same ?_
    · exact (upd_ne (ne_of_none e nF)).trans e
    · exact (upd_ne (ne_of_none e nF)).trans e
    · exact (upd_ne (ne_of_none hco nF)).trans hco
/-- the reading of a lambda: it is made -/
def tLamN (T : List (Addr × Str)) (mk : Value → Addr → LF) : TE := fun _ H Q => Tabs T H ∧ ∀ (f c' : Addr) (H1 : Hp), ExtN H H1 → Tabs T H1 → H f = none → H1 f = some (LamO f (mk .none c')) → H1 c' = some (CodeO c' (mk .none c').qual) → Q (.ref f) H1
theorem pe_lam {T : List (Addr × Str)} {c P : Addr} {params : Arguments} {body : Expr} {scope : Scope} {pos : Pos} (TB : TabB X.base X.mg c P) (hcode : X.env.code = .ref c) (hm : (P, X.env.qual ++ "<lambda>") ∈ T) (hu : ∀ p ∈ T, p.1 = P → p.2 = X.env.qual ++ "<lambda>") (hd : params.defaults = []) (hk0 : params.kw_defaults = [])
    (hfree : ∀ y ∈ scope.names, y.2 = .free → X.env.scope.names.lookup y.1 = some .cell ∨ X.env.scope.names.lookup y.1 = some .free) :
    PE X (.Lambda params body scope pos) (tLamN T fun dV c' => ⟨X.env.qual ++ "<lambda>", params, body, scope, dV, cloFrom X.env.cells scope.names [], c'⟩) := by
  refine ⟨fun pins s σ H Q I h => ?_⟩
  obtain ⟨hT, h⟩ := h
  refine PySem.W.kla_eval (by rw [defaultsOf_eq, hd, hk0]; rfl) ?_
  rw [makeFunction_eq]
  simp only [List.zip_nil_right, List.filterMap_nil, List.isEmpty_nil, if_true, pure_bind]
  refine lam_tail I TB hcode hm hu hT (fun y hy e => (hfree y hy e).elim (fun z => I.ok.has _ (.inl z)) fun z => I.ok.has _ (.inr z)) fun f c' H1 s' I1 e1 _ T1 nf hf hc => ⟨.ref f, H1, I1, rfl, h f c' H1 e1 T1 nf hf hc⟩
/-- .. with one default, a whole number -/
def tLamD (T : List (Addr × Str)) (i : Int) (mk : Value → Addr → LF) : TE := fun _ H Q => Tabs T H ∧ ∀ (dt f c' : Addr) (H1 : Hp), ExtN H H1 → Tabs T H1 → H dt = none → H f = none → H1 dt = some (.tup [.int i]) → H1 f = some (LamO f (mk (.ref dt) c')) → H1 c' = some (CodeO c' (mk (.ref dt) c').qual) → Q (.ref f) H1
theorem pe_lamD {T : List (Addr × Str)} {c P : Addr} {params : Arguments} {body : Expr} {scope : Scope} {pos : Pos} {i : Int} (TB : TabB X.base X.mg c P) (hcode : X.env.code = .ref c) (hm : (P, X.env.qual ++ "<lambda>") ∈ T) (hu : ∀ p ∈ T, p.1 = P → p.2 = X.env.qual ++ "<lambda>") (hd : ∃ e, params.defaults = [e] ∧ PE X e (tC (.int i))) (hk0 : params.kw_defaults = [])
    (hfree : ∀ y ∈ scope.names, y.2 = .free → X.env.scope.names.lookup y.1 = some .cell ∨ X.env.scope.names.lookup y.1 = some .free) :
    PE X (.Lambda params body scope pos) (tLamD T i fun dV c' => ⟨X.env.qual ++ "<lambda>", params, body, scope, dV, cloFrom X.env.cells scope.names [], c'⟩) := by
  refine ⟨fun pins s σ H Q I h => ?_⟩
  obtain ⟨hT, h⟩ := h
  obtain ⟨e, hd, he⟩ := hd
  refine PySem.W.kdv_lam (by rw [hd]; rfl) hk0 ?_
  rw [hd]
  refine PySem.W.kdv_all1 (thn (he.run pins s σ H (fun v H1 => v = .int i ∧ H1 = H) I ⟨rfl, rfl⟩) fun u s1 ⟨v, H1, I1, r1, ev, eH⟩ => PySem.W.kdv_all0 ?_)
  subst ev eH
  rw [makeFunction_eq]
  simp only [List.zip_nil_right, List.filterMap_nil, List.isEmpty_nil, List.isEmpty_cons, Bool.false_eq_true, if_false, if_true, pure_bind]
  refine wpAny_bind (wpAny_newTextTuple ?_)
  have nD : H1 s1.heap.objs.size = none := I1.hok.fresh (Nat.le_refl _)
  have I2 : Inv X pins σ (upd H1 s1.heap.objs.size (.tup [.int i])) { s1 with heap := s1.heap.push { cls := .type "tuple", data := .seq [u].toArray } } := I1.laid (t' := s1.toks) (fun b u e => Heap.get?_push_of_some _ e) (Nat.le_refl _) ⟨by show 1 ≤ sizeLine; decide, [u], .cons r1 .nil, PyProof.Rows.IsTup.new _ _⟩
  have x1 : ∀ b o, H1 b = some o → upd H1 s1.heap.objs.size (.tup [.int i]) b = some o := fun b o e => (upd_ne (ne_of_none e nD)).trans e
  refine lam_tail I2 TB hcode hm hu (hT.ext x1) (fun y hy e => (hfree y hy e).elim (fun z => I1.ok.has _ (.inl z)) fun z => I1.ok.has _ (.inr z)) fun f c' H3 s' I3 e3 _ T3 nf hf hc => ⟨.ref f, H3, I3, rfl, h s1.heap.objs.size f c' H3 ((ExtN.of x1).trans e3) T3 nD (NdefX.upd_none nf) (e3 _ _ upd_same (fun ps z => by cases z)) hf hc⟩
end
/-! ### a lambda called -/
theorem cx_retr {P : Program} {w : World} {outer : List Env} {H : Hp} {s s' : Shared} {E : XK} {u : Value} {cs : List Addr} (C : Cel cs H) (ok : HOk P w H s.heap) (nf : ∀ c ∈ cs, ¬ c ∈ frs outer)
    (h : L2.CX P w outer (untr cs H) s (fun cls d H' => (∀ c ∈ cs, H' c = none) → E cls d (retr cs H H')) u s') : L2.CX P w outer H s E u s' := by
  obtain ⟨a, B, H', cls, d, rfl, fl, hok, ub, na, os, ag, hE⟩ := h
  have out : ∀ b, H b = none → ¬ b ∈ cs := fun b n z => by
    obtain ⟨v, e⟩ := C b z
    rw [n] at e
    cases e
  have dn : ∀ b, H b = none → untr cs H b = none := fun b n => by rw [untr_out (out b n)]; exact n
  have cellk : ∀ c ∈ cs, ∀ o, s.heap.get? c = some o → B.get? c = some o := fun c hc o e => ub.keep c o e (untr_in hc) (nf c hc)
  have atc : ∀ c ∈ cs, ∃ o, s.heap.get? c = some o ∧ H c = some (CellO c o) := fun c hc => by
    obtain ⟨v, e⟩ := C c hc
    obtain ⟨x, _⟩ := ok c _ e
    exact ⟨v, x, e⟩
  have freeC : ∀ c ∈ cs, H' c = none := fun c hc => by
    obtain ⟨o, ho, _⟩ := atc c hc
    exact ub.free c o ho (untr_in hc)
  have up : ∀ b o, H' b = some o → retr cs H H' b = some o := fun b o e => by
    rw [retr_out fun z => by rw [freeC b z] at e; cases e]
    exact e
  refine ⟨a, B, retr cs H H', cls, d, rfl, fl, fun b o q => ?_, ⟨fun b o e n => ub.keep b o e (dn b n), ub.slot, fun b o e n => ?_, ub.there, fun b xs q => ?_, fun b o z q => ?_, fun b ps q => ?_⟩, ?_, os, ag, hE freeC⟩
  · by_cases z : b ∈ cs
    · rw [retr_in z] at q
      obtain ⟨ob, h1, e⟩ := atc b z
      rw [e] at q
      cases q
      exact cellO_ok (cellk b z ob h1)
    · rw [retr_out z] at q
      exact (hok b o q).stay (fun b u _ q => q) (fun b q => up b _ q) fun b xs q => up b _ q
  · rw [retr_out (out b n)]
    exact ub.free b o e (dn b n)
  · have n := C.not q fun v => cellO_net
    rw [retr_out n]
    exact ub.tups b xs (by rw [untr_out n]; exact q)
  · have n := C.not q fun v => cellO_nef
    rw [retr_out n]
    exact ub.frzs b o z (by rw [untr_out n]; exact q)
  · have n := C.not q fun v => cellO_neb
    rw [retr_out n]
    exact ub.tbls b ps (by rw [untr_out n]; exact q)
  · by_cases z : a ∈ cs
    · obtain ⟨o, h1, _⟩ := atc a z
      have e := cellk a z o h1
      rw [fl.2.1] at e
      cases e
    · rw [retr_out z]
      exact na
def LF.nf (F : LF) : NdefX.NF := ⟨"<lambda>", F.qual, F.params, [], F.scope, F.cl, F.c⟩
/-- what stands at a lambda that is called from anywhere: its code object, its cells and what they hold -/
structure ClosAt (H : Hp) (f : Addr) (F : LF) (fr : List Str) (ws : List V) : Prop where
  fn : H f = some (LamO f F)
  code : H F.c = some (CodeO F.c F.qual)
  len : ws.length = fr.length
  cel : ∀ p ∈ F.cl, ∃ o u, H p.2 = some (CellO p.2 o) ∧ o.data = .cell u
  inj : ∀ x y c, F.cl.lookup x = some c → F.cl.lookup y = some c → x = y
  has : ∀ (i : Nat) (y : Str), fr[i]? = some y → ∃ c o v, F.cl.lookup y = some c ∧ H c = some (CellO c o) ∧ ws[i]? = some v ∧ CellV o v
def LF.cs (F : LF) : List Addr := F.cl.map (·.2)
theorem ClosAt.mono {H H' : Hp} {f : Addr} {F : LF} {fr : List Str} {ws : List V} (C : ClosAt H f F fr ws) (e : Ex H H') : ClosAt H' f F fr ws :=
  ⟨e _ _ C.fn, e _ _ C.code, C.len, fun p hp => by
    obtain ⟨o, u, h1, h2⟩ := C.cel p hp
    exact ⟨o, u, e _ _ h1, h2⟩, C.inj, fun i y hy => by
    obtain ⟨c, o, v, h1, h2, h3, h4⟩ := C.has i y hy
    exact ⟨c, o, v, h1, e _ _ h2, h3, h4⟩⟩
theorem ClosAt.monoN {H H' : Hp} {f : Addr} {F : LF} {fr : List Str} {ws : List V} (C : ClosAt H f F fr ws) (e : ExtN H H') : ClosAt H' f F fr ws :=
  ⟨e _ _ C.fn lamO_ne, e _ _ C.code codeO_ne, C.len, fun p hp => by
    obtain ⟨o, u, h1, h2⟩ := C.cel p hp
    exact ⟨o, u, e _ _ h1 (fun ps z => cellO_neb z.symm), h2⟩, C.inj, fun i y hy => by
    obtain ⟨c, o, v, h1, h2, h3, h4⟩ := C.has i y hy
    exact ⟨c, o, v, h1, e _ _ h2 (fun ps z => cellO_neb z.symm), h3, h4⟩⟩
theorem ClosAt.cels {H : Hp} {f : Addr} {F : LF} {fr : List Str} {ws : List V} (C : ClosAt H f F fr ws) : Cel F.cs H := fun c hc => by
  obtain ⟨p, hp, e⟩ := List.mem_map.mp hc
  obtain ⟨o, u, h1, _⟩ := C.cel p hp
  exact ⟨o, by rw [← e]; exact h1⟩
theorem lam_run {P : Program} {w : World} {K : PySem.W.Frag} {mg : Str → Option Value} {base : Heap} {N ps fr : List Str} {F : LF} {f : Addr} {k : Nat} {A : Around} {outer : List Env} {s : Shared} {H : Hp} {vs ws : List V} {us : List Value} {Q : VK} {E : XK}
    (S : NdefX.NScope N ps fr F.scope) (hl : vs.length = ps.length) (rv : Vals vs us) (hb : ∀ doc pm ctv : Value, BindsTo s (F.fd doc pm ctv) ⟨[], []⟩ (ps.zip us)) (hr : Room (k + 1) A) (e0 : Env0 P w K mg base A outer s H) (C : ClosAt H f F fr ws)
    (hbody : Room k (A.deeper (NdefX.envF F.nf f s.heap.objs.size)) → ∃ t, PE (NdefX.ncx (L2.CX P w) P w K mg base N F.nf f A outer s (untr F.cs H) (fun cls d H' => (∀ c ∈ F.cs, H' c = none) → E cls d (retr F.cs H H'))) F.body t ∧ t (NdefX.startF N vs (ws.map some)) (untr F.cs H) (fun v H' => (∀ c ∈ F.cs, H' c = none) → Q v (retr F.cs H H'))) :
    codeAny (model P w) A (.call (.ref f) ⟨[], []⟩) (CR (L2.CX P w) outer P w H s Q E) s := by
  have lim : s.heap.NoLimit := e0.mod.nolimit.keeps fun b o e => (e0.bs b o e).1
  obtain ⟨od, sl, doc, pm, ctv, ho⟩ := lamO_at e0.hok C.fn
  have cels := C.cels
  have nf : ∀ c ∈ F.cs, ¬ c ∈ frs outer := fun c hc z => by
    obtain ⟨v, e⟩ := cels c hc
    rw [e0.frf c z] at e
    cases e
  have E1 := env0_untr e0 cels
  have cellAt : ∀ p ∈ F.cl, ∃ o u, s.heap.get? p.2 = some o ∧ o.data = .cell u := fun p hp => by
    obtain ⟨o, u, h1, h2⟩ := C.cel p hp
    obtain ⟨x, _⟩ := e0.hok _ _ h1
    exact ⟨o, u, x, h2⟩
  have CA : NdefX.CellsAt F.nf.cl fr (ws.map some) s.heap (untr F.cs H) := by
    refine ⟨by rw [List.length_map]; exact C.len, fun y c e => ?_, C.inj, fun i y hy => ?_⟩
    · have hm : (y, c) ∈ F.cl := PySem.mem_of_lookup e
      obtain ⟨o, u, h1, h2⟩ := cellAt _ hm
      exact ⟨untr_in (List.mem_map.mpr ⟨_, hm, rfl⟩), u, o, h1, h2⟩
    · obtain ⟨c, o, v, h1, h2, h3, u, r, hd⟩ := C.has i y hy
      obtain ⟨x, _⟩ := e0.hok _ _ h2
      refine ⟨c, h1, fun v' hv => ?_⟩
      rw [List.getElem?_map, h3] at hv
      cases hv
      exact ⟨u, r, o, x, hd⟩
  have hc := (show s.heap.CodeRec (.ref F.c) F.qual from by
    obtain ⟨⟨oc, vs', t, h1, h2, h3⟩, _⟩ := e0.hok _ _ C.code
    exact ⟨F.c, oc, vs', t, rfl, h1, h2, h3⟩)
  refine PySem.W.kla_callFunE hr.depth ho rfl S.co S.gen rfl hc ?_
  refine hb doc pm ctv _ _ _ _ ?_
  refine wpAny_newFunctionEnv S.nocell (fun ⟨n, _⟩ hy => S.par n (List.of_mem_zip hy).1) (fun h₁ hns hsb => ⟨lim.fresh _ hsb, ?_⟩) S.kind
  have kp : ∀ b o, s.heap.get? b = some o → h₁.get? b = some o := fun b o e => hsb.extBut b o (Nat.ne_of_lt (Heap.lt_size e)) (Heap.get?_push_of_some _ e)
  obtain ⟨t, ht, hq⟩ := hbody (hr.deeper _)
  have I := NdefX.inv_startN (CX := L2.CX P w) (F := F.nf) (f := f) (E := fun cls d H' => (∀ c ∈ F.cs, H' c = none) → E cls d (retr F.cs H H')) (tk := s.toks + (ps.zip us).length) S hr.hd E1 hl rv CA hns kp
  show codeAny _ _ (.expr F.body (NdefX.envF F.nf f s.heap.objs.size)) _ _
  refine PySem.W.kla_codeExpr ?_
  refine wpAny_mono (ht.run [] _ _ _ _ I hq) (fun u s' hs => ?_) fun e s' hs => ?_
  · obtain ⟨v, H', J, r, q⟩ := hs
    obtain ⟨un, hok⟩ := un_retr cels e0.hok nf J.base J.hok
    refine ⟨v, _, J.os, J.bare, un, hok, r, q fun c hc => ?_⟩
    obtain ⟨o, e⟩ := cels c hc
    obtain ⟨x, _⟩ := e0.hok _ _ e
    exact J.base.free c o x (untr_in hc) (fun z => by cases z)
  · exact wpAny_mono hs (fun _ s'' z => cx_retr cels e0.hok nf z) fun _ s'' z => cx_retr cels e0.hok nf z
end Db

namespace Db
open PySem L2 Evl StX LamX
/-! ### what a call may end in -/
inductive Rf where
  | mem | prog (d p : Nat) | rule | order | many
  deriving DecidableEq
structure Cls where
  mem : Addr
  prog : Addr
  rule : Addr
  order : Addr
  many : Addr
def Ends (Z : Cls) (H : Hp) (r : Option Rf) (Q : VK) (E : XK) : Prop := match r with
  | none => ∀ v H', Ex H H' → Q v H'
  | some .mem => ∀ H', Ex H H' → E (.ref Z.mem) none H'
  | some .rule => ∀ H', Ex H H' → E (.ref Z.rule) none H'
  | some .order => ∀ H', Ex H H' → E (.ref Z.order) none H'
  | some .many => ∀ H', Ex H H' → E (.ref Z.many) none H'
  | some (.prog a b) => ∀ d H', H d = none → Ex H H' → H' d = some (.xd (xfs "door" "place" a b)) → E (.ref Z.prog) (some d) H'
theorem Ends.back {Z : Cls} {H H1 : Hp} {r : Option Rf} {Q : VK} {E : XK} (e : Ex H H1) (h : Ends Z H r Q E) : Ends Z H1 r Q E := by
  match r, h with
  | none, h => exact fun v H' f => h v H' (e.trans f)
  | some .mem, h => exact fun H' f => h H' (e.trans f)
  | some .rule, h => exact fun H' f => h H' (e.trans f)
  | some .order, h => exact fun H' f => h H' (e.trans f)
  | some .many, h => exact fun H' f => h H' (e.trans f)
  | some (.prog a b), h => exact fun d H' n f hd => h d H' (fresh_back e n) (e.trans f) hd
theorem Ends.imp {Z : Cls} {H : Hp} {r : Option Rf} {Q Q' : VK} {E E' : XK} (h : Ends Z H r Q E) (q : ∀ v H', Ex H H' → Q v H' → Q' v H') (x : ∀ c d H', Ex H H' → E c d H' → E' c d H') : Ends Z H r Q' E' := by
  match r, h with
  | none, h => exact fun v H' f => q _ _ f (h v H' f)
  | some .mem, h => exact fun H' f => x _ _ _ f (h H' f)
  | some .rule, h => exact fun H' f => x _ _ _ f (h H' f)
  | some .order, h => exact fun H' f => x _ _ _ f (h H' f)
  | some .many, h => exact fun H' f => x _ _ _ f (h H' f)
  | some (.prog a b), h => exact fun d H' n f hd => x _ _ _ f (h d H' n f hd)
/-- v, called without arguments from anywhere, ends as r says -/
def Work (P : Program) (w : World) (K : PySem.W.Frag) (mg : Str → Option Value) (base : Heap) (Z : Cls) (k : Nat) (H : Hp) (v : V) (r : Option Rf) : Prop := ∃ f, v = .ref f ∧ ∀ H1, ExtN H H1 → (∃ F, H1 f = some (LamO f F)) ∧
  ∀ (A : Around) (outer : List Env) (s : Shared) (Q : VK) (E : XK), Room k A → Env0 P w K mg base A outer s H1 → Ends Z H1 r Q E → codeAny (model P w) A (.call (.ref f) ⟨[], []⟩) (CR (L2.CX P w) outer P w H1 s Q E) s
theorem Work.mono {P : Program} {w : World} {K : PySem.W.Frag} {mg : Str → Option Value} {base : Heap} {Z : Cls} {k : Nat} {H H' : Hp} {v : V} {r : Option Rf} (e : Ex H H') (h : Work P w K mg base Z k H v r) : Work P w K mg base Z k H' v r := by
  obtain ⟨f, e1, h⟩ := h
  exact ⟨f, e1, fun H1 f1 => h H1 ((ExtN.of e).trans f1)⟩
theorem Work.monoN {P : Program} {w : World} {K : PySem.W.Frag} {mg : Str → Option Value} {base : Heap} {Z : Cls} {k : Nat} {H H' : Hp} {v : V} {r : Option Rf} (e : ExtN H H') (h : Work P w K mg base Z k H v r) : Work P w K mg base Z k H' v r := by
  obtain ⟨f, e1, h⟩ := h
  exact ⟨f, e1, fun H1 f1 => h H1 (e.trans f1)⟩
/-- x(), x a name that holds such a thing -/
def tWork (P : Program) (w : World) (K : PySem.W.Frag) (mg : Str → Option Value) (base : Heap) (Z : Cls) (k i : Nat) (W : L2.St → XK) : TE := fun σ H Q => ∃ v r, σ[i]? = some (some v) ∧ Work P w K mg base Z k H v r ∧ Ends Z H r Q (W σ)
theorem pe_work {X : Cx} {Z : Cls} {i j k : Nat} {x : Str} {p pos : Pos} {W : L2.St → XK} (hr : Room j X.A) (hk : k ≤ j) (hx : ∀ σ, PassesAt (L2.CX X.prog X.w) X σ (W σ)) (hN : X.N[i]? = some x) (hv : Vis X.env.scope x)
    (hd : (x == ("__debug__" : Str)) = false := by decide) (hcd : (x == ("__classdict__" : Str)) = false := by decide) : PE X (.Call (.Name x p) [] [] pos) (tWork X.prog X.w X.K X.mg X.base Z k i W) := by
  refine ⟨fun pins s σ H Q I h => ?_⟩
  obtain ⟨v, r, hs, ⟨f, rfl, hw⟩, hq⟩ := h
  obtain ⟨⟨F, hf⟩, hc⟩ := hw H (ExtN.refl H)
  refine wpAny_Call_Name_kw (thn ((pe_var (pos := p) hN hv hd hcd).run pins s σ H (fun v H1 => v = .ref f ∧ H1 = H) I ⟨.ref f, hs, rfl, rfl⟩) fun u s1 ⟨v, H1, I1, r1, ev, eH⟩ => ?_)
  subst ev eH
  obtain rfl : u = Value.ref f := r1
  obtain ⟨od, sl, doc, pm, ctv, ho⟩ := lamO_at I1.hok hf
  refine PySem.W.callWith_F0 (first := []) ⟨_, od, _, sl, ho⟩ ?_
  show wpAny _ _ (call (.ref f) []) _ _ _
  refine wpAny_call (codeAny_mono (hc X.A X.stack s1 Q (W σ) (hr.mono hk) I1.env0 hq) fun r s' hq => ?_)
  cases r with
  | error e => exact hx σ pins _ s1 e s' I1 hq
  | ok fl =>
    cases fl with
    | ret u => exact I1.after hq
    | next => exact False.elim hq
    | brk => exact False.elim hq
    | cont => exact False.elim hq
/-- the lambda's body, at any heap that goes on from H, ends as r says -/
def BodyOk (P : Program) (w : World) (K : PySem.W.Frag) (mg : Str → Option Value) (base : Heap) (Z : Cls) (k : Nat) (N : List Str) (qual : Str) (params : Arguments) (body : Expr) (scope : Scope) (vs ws : List V) (H : Hp) (r : Option Rf) : Prop :=
  ∀ (F : LF) (f : Addr) (A : Around) (outer : List Env) (s : Shared) (H1 : Hp) (Q : VK) (E : XK), F.qual = qual → F.scope = scope → Room k (A.deeper (NdefX.envF F.nf f s.heap.objs.size)) → ExtN H H1 → Ends Z H1 r Q E →
    ∃ t, PE (NdefX.ncx (L2.CX P w) P w K mg base N F.nf f A outer s H1 E) body t ∧ t (NdefX.startF N vs (ws.map some)) H1 Q
theorem ends_untr {Z : Cls} {cs : List Addr} {H : Hp} {r : Option Rf} {Q : VK} {E : XK} (h : Ends Z H r Q E) : Ends Z (untr cs H) r (fun v H' => (∀ c ∈ cs, H' c = none) → Q v (retr cs H H')) (fun c d H' => (∀ c ∈ cs, H' c = none) → E c d (retr cs H H')) := by
  match r, h with
  | none, h => exact fun v H' f _ => h v _ (ex_retr f)
  | some .mem, h => exact fun H' f _ => h _ (ex_retr f)
  | some .rule, h => exact fun H' f _ => h _ (ex_retr f)
  | some .order, h => exact fun H' f _ => h _ (ex_retr f)
  | some .many, h => exact fun H' f _ => h _ (ex_retr f)
  | some (.prog a b), h =>
    intro d H' n f hd fc
    have nd : ¬ d ∈ cs := fun z => by
      rw [fc d z] at hd
      cases hd
    exact h d _ (by rw [untr_out nd] at n; exact n) (ex_retr f) (by rw [retr_out nd]; exact hd)
/-- what stands behind a maker's end is such a thing -/
theorem work_of {P : Program} {w : World} {K : PySem.W.Frag} {mg : Str → Option Value} {base : Heap} {Z : Cls} {k : Nat} {N ps fr : List Str} {F : LF} {f : Addr} {H H2 : Hp} {vs ws : List V} {r : Option Rf} (S : NdefX.NScope N ps fr F.scope) (hl : vs.length = ps.length)
    (hb : ∀ (H1 : Hp) (s : Shared), ExtN H2 H1 → HOk P w H1 s.heap → ∃ us, Vals vs us ∧ ∀ doc pm ctv : Value, BindsTo s (F.fd doc pm ctv) ⟨[], []⟩ (ps.zip us)) (C : ClosAt H2 f F fr ws) (hH : ∀ b o, H b = some o → (∀ ps, o ≠ .tbl ps) → H2 b = some o ∧ ¬ b ∈ F.cs)
    (hB : BodyOk P w K mg base Z k N F.qual F.params F.body F.scope vs ws H r) : Work P w K mg base Z (k + 1) H2 (.ref f) r := by
  refine ⟨f, rfl, fun H1 e => ⟨⟨F, e _ _ C.fn lamO_ne⟩, fun A outer s Q E hr e0 hE => ?_⟩⟩
  obtain ⟨us, rv, hbn⟩ := hb H1 s e e0.hok
  refine lam_run S hl rv hbn hr e0 (C.monoN e) fun hroom => ?_
  refine hB F f A outer s (untr F.cs H1) _ _ rfl rfl hroom (fun b o h n => ?_) (ends_untr hE)
  obtain ⟨h1, h2⟩ := hH b o h n
  rw [untr_out h2]
  exact e _ _ h1 n
/-! ### cells of the running frame, tracked while a call runs -/
def trk (cs : List Addr) (ob : Addr → Obj) (H : Hp) : Hp := fun b => if b ∈ cs then some (CellO b (ob b)) else H b
theorem trk_in {cs : List Addr} {ob : Addr → Obj} {H : Hp} {b : Addr} (h : b ∈ cs) : trk cs ob H b = some (CellO b (ob b)) := if_pos h
theorem trk_out {cs : List Addr} {ob : Addr → Obj} {H : Hp} {b : Addr} (h : ¬ b ∈ cs) : trk cs ob H b = H b := if_neg h
section
variable {X : Cx} {pins : List (Addr × Obj)} {σ : L2.St} {H : Hp} {s s' : Shared} {cs : List Addr} {ob : Addr → Obj}
theorem trk_up (fr : ∀ c ∈ cs, H c = none) {b : Addr} {o : HO} (h : H b = some o) : trk cs ob H b = some o := by
  rw [trk_out fun z => by rw [fr b z] at h; cases h]
  exact h
theorem trk_hok {P : Program} {w : World} {hp : Heap} (ok : HOk P w H hp) (fr : ∀ c ∈ cs, H c = none) (at_ : ∀ c ∈ cs, hp.get? c = some (ob c)) : HOk P w (trk cs ob H) hp := fun b o q => by
  by_cases z : b ∈ cs
  · rw [trk_in z] at q
    cases q
    exact cellO_ok (at_ b z)
  · rw [trk_out z] at q
    exact (ok b o q).stay (fun b u _ q => q) (fun b q => trk_up fr q) fun b xs q => trk_up fr q
theorem trk_env0 (I : Inv X pins σ H s) (fr : ∀ c ∈ cs, H c = none) (at_ : ∀ c ∈ cs, s.heap.get? c = some (ob c)) (isC : ∀ c ∈ cs, ∃ u, (ob c).data = .cell u) (new : ∀ c ∈ cs, X.s_0.heap.objs.size ≤ c) :
    Env0 X.prog X.w X.K X.mg X.base X.A X.stack s (trk cs ob H) ∧ ∀ c ∈ cs, ¬ c ∈ frs X.stack := by
  have e0 := I.env0
  have nb : ∀ b o, X.base.get? b = some o → ¬ b ∈ cs := fun b o e z => by
    exact absurd (Nat.lt_of_lt_of_le (Heap.lt_size e) (Nat.le_trans I.ok.bsz (new b z))) (Nat.lt_irrefl _)
  have nf : ∀ c ∈ cs, ¬ c ∈ frs X.stack := fun c hc z => by
    rcases List.mem_cons.mp (I.stkSub _ z) with e | e
    · obtain ⟨m, ⟨o, es, ep, h1, h2, _⟩, _⟩ := I.loc
      obtain ⟨u, h3⟩ := isC c hc
      rw [← e, at_ c hc] at h1
      cases h1
      rw [h2] at h3
      cases h3
    · have h1 := (I.ok.funs.mem e).2
      obtain ⟨o, ho, _⟩ := h1
      exact absurd (Nat.lt_of_lt_of_le (Heap.lt_size ho) (new c hc)) (Nat.lt_irrefl _)
  refine ⟨⟨e0.frames, e0.mod, fun b o e => ⟨(e0.bs b o e).1, by rw [trk_out (nb b o e)]; exact (e0.bs b o e).2⟩, e0.bsz, e0.funs, fun b hb => ?_, trk_hok e0.hok fr at_, e0.bare⟩, nf⟩
  rw [trk_out fun z => nf b z hb]
  exact e0.frf b hb
/-- behind the call: they are the frame's again -/
theorem trk_end {P : Program} {w : World} {H' : Hp} {h h' : Heap} {fr' : List Addr} (fr : ∀ c ∈ cs, H c = none) (at_ : ∀ c ∈ cs, h.get? c = some (ob c)) (nf : ∀ c ∈ cs, ¬ c ∈ fr') (u : Un fr' [] (trk cs ob H) H' h h') (ok' : HOk P w H' h') (e : Ex (trk cs ob H) H') :
    Un fr' [] H (untr cs H') h h' ∧ HOk P w (untr cs H') h' := by
  have cel : ∀ c ∈ cs, H' c = some (CellO c (ob c)) := fun c hc => e _ _ (trk_in hc)
  have out : ∀ b o, H b = some o → ¬ b ∈ cs := fun b o h z => by rw [fr b z] at h; cases h
  refine ⟨⟨fun b o ho n hf hx => ?_, fun b o ho n hf hx => ?_, fun b o ho n hx => ?_, u.there, fun b xs q => ?_, fun b o z q => ?_, fun b ps q => ?_⟩, fun b o q => ?_⟩
  · by_cases z : b ∈ cs
    · rw [at_ b z] at ho
      cases ho
      exact (ok' b _ (cel b z)).1
    · exact u.keep b o ho (by rw [trk_out z]; exact n) hf hx
  · exact u.slot b o ho (by rw [trk_out fun z => nf b z hf]; exact n) hf hx
  · by_cases z : b ∈ cs
    · exact untr_in z
    · rw [untr_out z]
      exact u.free b o ho (by rw [trk_out z]; exact n) hx
  · rw [untr_out (out b _ q)]
    exact u.tups b xs (trk_up fr q)
  · rw [untr_out (out b _ q)]
    exact u.frzs b o z (trk_up fr q)
  · rw [untr_out (out b _ q)]
    exact u.tbls b ps (trk_up fr q)
  · obtain ⟨nz, q'⟩ := untr_some q
    refine (ok' b o q').stay (fun b u _ q => q) (fun d q => ?_) fun d xs q => ?_
    · rw [untr_out fun z => by rw [cel d z] at q; exact absurd (Option.some.inj q).symm cellO_neo]
      exact q
    · rw [untr_out fun z => by rw [cel d z] at q; exact absurd (Option.some.inj q).symm cellO_net]
      exact q
end
end Db

namespace Db
open PySem L2 Evl StX LamX
/-- the word of a refusal, with its values, as data -/
def datK : Option Rf → PyData
  | none => .str ""
  | some .mem => .str "BadMemory"
  | some .rule => .str "BadRule"
  | some .order => .str "BadOrder"
  | some .many => .str "TooMany"
  | some (.prog d p) => .tuple [.str "BadProgram", .int d, .int p]
def sp_law_kind (P : Program) (w : World) (K : PySem.W.Frag) (mg : Str → Option Value) (base : Heap) (Z : Cls) (k : Nat) : Sp := fun vs H Q _ => ∃ (v : V) (r : Option Rf), vs = [v] ∧ Work P w K mg base Z k H v r ∧ (∀ a b, r = some (.prog a b) → a < 1000 ∧ b < 1000) ∧ ∀ (u : V) (H' : Hp), Ex H H' → Dp K H' u (datK r) → Q u H'
theorem dpa_flat {K : PySem.W.Frag} {H H' : Hp} : ∀ {vs : List V} {ds : List PyData}, (∀ d ∈ ds, (∃ i, d = .int i) ∨ ∃ x, d = .str x) → DpAll K H vs ds → DpAll K H' vs ds
  | _, _, _, .nil => .nil
  | _, _, h, .cons a t => by
    refine .cons ?_ (dpa_flat (fun d hd => h d (List.mem_cons_of_mem _ hd)) t)
    rcases h _ List.mem_cons_self with ⟨i, rfl⟩ | ⟨x, rfl⟩
    · cases a; exact .int _
    · cases a; exact .str _
theorem sqt_kept {K : PySem.W.Frag} {H H' : Hp} (k : ∀ b o, (∀ v, o ≠ CellO b v) → H b = some o → H' b = some o) {a : Addr} {xs : List V} (h : SqT K H a xs) : SqT K H' a xs := by
  rcases h with (h | ⟨o, h⟩) | h
  · exact .inl (.inl (k _ _ (fun v => cellO_net) h))
  · exact .inl (.inr ⟨o, k _ _ (fun v => cellO_nef) h⟩)
  · exact .inr h
theorem datK_kept {K : PySem.W.Frag} {H H' : Hp} (k : ∀ b o, (∀ v, o ≠ CellO b v) → H b = some o → H' b = some o) {v : V} {r : Option Rf} (h : Dp K H v (datK r)) : Dp K H' v (datK r) := by
  match r, h with
  | none, h => cases h; exact .str _
  | some .mem, h => cases h; exact .str _
  | some .rule, h => cases h; exact .str _
  | some .order, h => cases h; exact .str _
  | some .many, h => cases h; exact .str _
  | some (.prog a b), h =>
    have h : Dp K H v (.tuple [.str "BadProgram", .int a, .int b]) := h
    cases h with
    | tup h1 h2 => exact .tup (sqt_kept k h1) (dpa_flat (by simp) h2)
/-- _law_kind(lambda: body), in the frame whose names the body captures -/
def tKindL (P : Program) (w : World) (K : PySem.W.Frag) (mg : Str → Option Value) (base : Heap) (Z : Cls) (k : Nat) (T : List (Addr × Str)) (js : List Nat) (N : List Str) (qual : Str) (params : Arguments) (body : Expr) (scope : Scope) : TE := fun σ H Q => Tabs T H ∧ ∃ (ws : List V) (r : Option Rf),
  js.map (NdefX.slotAt σ) = ws.map some ∧ BodyOk P w K mg base Z k N qual params body scope [] ws H r ∧ (∀ a b, r = some (.prog a b) → a < 1000 ∧ b < 1000) ∧ ∀ (u : V) (H' : Hp), ExtN H H' → Tabs T H' → Dp K H' u (datK r) → Q u H'
theorem pe_kindL {X : Cx} {Z : Cls} {T : List (Addr × Str)} {c P : Addr} {k k2 j : Nat} {js : List Nat} {N fr : List Str} {params : Arguments} {body : Expr} {scope : Scope} {pos lpos p : Pos} (D : Dn X.prog X.w X.K X.mg X.base CX0 "_law_kind" ["_law_work"] k2 (sp_law_kind X.prog X.w X.K X.mg X.base Z (k + 1)))
    (hr : Room j X.A) (hk : k2 ≤ j) (hk1 : k + 1 ≤ j) (TB : TabB X.base X.mg c P) (hcode : X.env.code = .ref c) (hm : (P, X.env.qual ++ "<lambda>") ∈ T) (hu : ∀ p ∈ T, p.1 = P → p.2 = X.env.qual ++ "<lambda>") (hd : params.defaults = []) (hk0 : params.kw_defaults = [])
    (hbind : ∀ F : LF, F.params = params → F.dV = .none → ∀ doc pm ctv : Value, bindArgs (F.fd doc pm ctv) ⟨[], []⟩ = pure []) (S : NdefX.NScope N [] fr scope) (hcell : ∀ y ∈ scope.names, y.2 = .free → X.env.scope.names.lookup y.1 = some .cell ∧ X.fn y.1 = true)
    (hjs : js.map (fun j => X.N[j]?) = fr.map some) (hg : Gl X "_law_kind") (hs : starEach [.Lambda params body scope lpos] X.env = (false, eval (.Lambda params body scope lpos) X.env) :: starEach [] X.env := by rfl) :
    PE X (.Call (.Name "_law_kind" p) [.Lambda params body scope lpos] [] pos) (tKindL X.prog X.w X.K X.mg X.base Z k T js N (X.env.qual ++ "<lambda>") params body scope) := by
  refine ⟨fun pins s σ H Q I h => ?_⟩
  obtain ⟨hT, ws, r, hws, hB, hsm, hQ⟩ := h
  obtain ⟨g, fd, Fn, hmg, kp, b⟩ := D.ex
  have hfree : ∀ y ∈ scope.names, y.2 = .free → X.env.scope.names.lookup y.1 = some .cell ∨ X.env.scope.names.lookup y.1 = some .free := fun y hy e => .inl (hcell y hy e).1
  refine wpAny_Call_Name_kw (ld_glob I hg hmg ?_ (by decide))
  refine PySem.W.callWith_K (h₀ := X.base) I.ok.mod.kin kp ?_ hs (by rfl)
  rw [hs]
  show wpAny _ _ (spliced ((false, eval (.Lambda params body scope lpos) X.env) :: backTo pos (starEach [] X.env))) _ _ _
  refine Calls.spliced_cons (PySem.W.kla_eval (by rw [defaultsOf_eq, hd, hk0]; rfl) ?_)
  rw [makeFunction_eq]
  simp only [List.zip_nil_right, List.filterMap_nil, List.isEmpty_nil, if_true, pure_bind]
  refine lam_tail (I.tok _) TB hcode hm hu hT (fun y hy e => (hfree y hy e).elim (fun z => I.ok.has _ (.inl z)) fun z => I.ok.has _ (.inr z)) fun f c' H1 s1 I1 e1 dn1 T1 nf hf hc => ?_
  refine Calls.spliced_nil ⟨I1.kIn, ?_⟩
  show wpAny _ _ (call (.ref g) [.ref f]) _ _ _
  -- its cells
  have cap := NdefX.Caps.made (fr := fr) I1.ok hfree (fun y hy => PySem.mem_of_lookup (S.frk y hy)) hjs
  have CA := NdefX.cells_of I1 cap
  generalize hF : (⟨X.env.qual ++ "<lambda>", params, body, scope, .none, cloFrom X.env.cells scope.names [], c'⟩ : LF) = F at hf
  have Fcl : F.cl = cloFrom X.env.cells scope.names [] := by rw [← hF]
  have mcl : ∀ q ∈ F.cl, q.2 ∈ F.cs := fun q hq => List.mem_map.mpr ⟨q, hq, rfl⟩
  have clq : ∀ q ∈ F.cl, X.env.cells.lookup q.1 = some q.2 ∧ (q.1, NameKind.free) ∈ scope.names := fun q hq => by
    rw [Fcl] at hq
    rcases cloFrom_mem hq with z | ⟨z1, z2⟩
    · cases z
    · obtain ⟨c1, hc1⟩ := (hfree _ z1 rfl).elim (fun z => I1.ok.has _ (.inl z)) fun z => I1.ok.has _ (.inr z)
      have hc1 : X.env.cells.lookup q.1 = some c1 := hc1
      rw [hc1] at z2
      refine ⟨?_, z1⟩
      rw [hc1]
      exact congrArg some z2.symm
  have csq : ∀ c0 ∈ F.cs, ∃ x, X.env.cells.lookup x = some c0 ∧ (x, NameKind.free) ∈ scope.names := fun c0 h0 => by
    obtain ⟨q, hq, e⟩ := List.mem_map.mp h0
    obtain ⟨a1, a2⟩ := clq q hq
    exact ⟨q.1, by rw [a1, e], a2⟩
  have fr1 : ∀ c0 ∈ F.cs, H1 c0 = none := fun c0 h0 => by
    obtain ⟨x, hx, _⟩ := csq c0 h0
    exact I1.freeC x c0 hx
  obtain ⟨ob, hob⟩ : ∃ ob : Addr → Obj, ∀ c0 ∈ F.cs, s1.heap.get? c0 = some (ob c0) ∧ ∃ u, (ob c0).data = .cell u := by
    refine ⟨fun c0 => (s1.heap.get? c0).getD { cls := .none, data := .plain }, fun c0 h0 => ?_⟩
    obtain ⟨x, hx, _⟩ := csq c0 h0
    obtain ⟨u, o, ho, hd⟩ := I1.cell x c0 hx
    dsimp only
    rw [ho]
    exact ⟨rfl, u, hd⟩
  have new : ∀ c0 ∈ F.cs, X.s_0.heap.objs.size ≤ c0 := fun c0 h0 => by
    obtain ⟨x, hx, hn⟩ := csq c0 h0
    exact I1.ok.cab x c0 (hcell _ hn rfl).2 hx
  obtain ⟨E1, nfr⟩ := trk_env0 (cs := F.cs) (ob := ob) I1 fr1 (fun c0 h0 => (hob c0 h0).1) (fun c0 h0 => (hob c0 h0).2) new
  have up : ∀ b o, H1 b = some o → trk F.cs ob H1 b = some o := fun b o e => trk_up fr1 e
  have lookF : ∀ y c0, F.cl.lookup y = some c0 → X.env.cells.lookup y = some c0 := fun y c0 e => cap.sub y c0 (by rw [← Fcl]; exact e)
  have C : ClosAt (trk F.cs ob H1) f F fr ws := by
    refine ⟨up _ _ hf, up _ _ (by rw [← hF]; exact hc), by have z := congrArg List.length hws; have z2 := congrArg List.length hjs; simp only [List.length_map] at z z2; omega, fun q hq => ⟨ob q.2, (hob _ (mcl q hq)).2.choose, trk_in (mcl q hq), (hob _ (mcl q hq)).2.choose_spec⟩, fun x y c0 a b => I1.ok.inj x y c0 (lookF x c0 a) (lookF y c0 b), fun i y hy => ?_⟩
    obtain ⟨c0, h1, h2⟩ := CA.has i y hy
    rw [← Fcl] at h1
    have hi : i < ws.length := by
      have z := congrArg List.length hws
      have z2 := congrArg List.length hjs
      have z3 := (List.getElem?_eq_some_iff.mp hy).1
      simp only [List.length_map] at z z2
      omega
    have hw : ws[i]? = some ws[i] := List.getElem?_eq_getElem hi
    obtain ⟨u, ru, o, ho, hdt⟩ := h2 ws[i] (by rw [hws, List.getElem?_map, hw]; rfl)
    have hc0 : c0 ∈ F.cs := List.mem_map.mpr ⟨_, PySem.mem_of_lookup h1, rfl⟩
    have eo : o = ob c0 := by
      have z := (hob c0 hc0).1
      rw [ho] at z
      exact Option.some.inj z
    exact ⟨c0, ob c0, ws[i], h1, trk_in hc0, hw, u, ru, by rw [← eo]; exact hdt⟩
  have Fs : F.scope = scope := by rw [← hF]
  have Wk : Work X.prog X.w X.K X.mg X.base Z (k + 1) (trk F.cs ob H1) (.ref f) r := by
    refine work_of (H := H) (N := N) (ps := []) (vs := []) (by rw [Fs]; exact S) rfl (fun H2 s2 _ _ => ⟨[], .nil, fun doc pm ctv => .of_eq (hbind F (by rw [← hF]) (by rw [← hF]) doc pm ctv)⟩) C (fun b o e n => ?_) (by rw [← hF]; exact hB)
    have e2 := e1 b o e n
    exact ⟨up _ _ e2, fun z => by rw [fr1 b z] at e2; cases e2⟩
  have bn := b s1 [.ref f] I1.kIn rfl
  rw [List.append_nil] at bn
  refine wpAny_call (codeAny_mono (Fn.run X.A X.stack s1 (trk F.cs ob H1) ⟨[.ref f], []⟩ [.ref f] [.ref f] (fun u H' => Ex (trk F.cs ob H1) H' ∧ Dp X.K H' u (datK r)) E0 (hr.mono hk) E1 bn (.cons rfl .nil) ⟨.ref f, r, rfl, Wk, hsm, fun u H' e d => ⟨e, d⟩⟩) fun rr s' hq => ?_)
  cases rr with
  | error e => exact hq.elim
  | ok fl =>
    cases fl with
    | ret u =>
      obtain ⟨v, H', os, bare, un, hok, rv, ex, dp⟩ := hq
      obtain ⟨un2, hok2⟩ := trk_end fr1 (fun c0 h0 => (hob c0 h0).1) nfr un hok ex
      have ext : ∀ b o, H1 b = some o → untr F.cs H' b = some o := fun b o e => by
        rw [untr_out fun z => by rw [fr1 b z] at e; cases e]
        exact ex _ _ (up b o e)
      refine I1.after ⟨v, untr F.cs H', os, bare, un2, hok2, rv, hQ v _ (fun b o e n => ext b o (e1 b o e n)) (T1.ext ext) ?_⟩
      have down : ∀ b o, (∀ v, o ≠ CellO b v) → H' b = some o → untr F.cs H' b = some o := fun b o n e => by
        rw [untr_out fun z => by rw [ex _ _ (trk_in z)] at e; exact n _ (Option.some.inj e).symm]
        exact e
      exact datK_kept down dp
    | next => exact False.elim hq
    | brk => exact False.elim hq
    | cont => exact False.elim hq
end Db

namespace Db
open PySem L2 Evl StX LamX PyProof.Rows
/-! ### a def that returns closures -/
/-- statements that end by a return; told too: the names at the end -/
structure PSk (X : Cx) (st : List Stmt) (t : L2.St → Hp → (V → L2.St → Hp → Prop) → Prop) : Prop where
  run : ∀ (pins : List (Addr × Obj)) (s : Shared) (σ : L2.St) (H : Hp) (D : V → L2.St → Hp → Prop), Inv X pins σ H s → t σ H D → wpAny (model X.prog X.w) X.A (execs st X.env) (fun f s' => match f with
    | .ret u => ∃ v σ' H', Inv X pins σ' H' s' ∧ RelV v u ∧ D v σ' H'
    | _ => False) X.xe s
theorem psk_ret {X : Cx} {e : Expr} {te : TE} {pos : Pos} (he : PE X e te) : PSk X [.Return (some e) pos] (fun σ H D => te σ H fun v H1 => D v σ H1) := by
  refine ⟨fun pins s σ H D I h => ?_⟩
  refine wpAny_execs_cons (wpAny_Return_some (thn (he.run pins s σ H _ I h) fun v s1 ⟨x, H1, I1, r1, q1⟩ => ⟨x, σ, H1, I1, r1, q1⟩))
theorem psk_cons {X : Cx} {st : Stmt} {rest : List Stmt} {t : TS} {u : L2.St → Hp → (V → L2.St → Hp → Prop) → Prop} (h1 : PS X st t) (h2 : PSk X rest u) : PSk X (st :: rest) (fun σ H D => t { nx := fun σ' H' => u σ' H' D, rt := fun _ _ => False } σ H) := by
  refine ⟨fun pins s σ H D I h => ?_⟩
  refine wpAny_execs_cons (thn (h1.run pins s σ H _ I h) fun f s1 q => ?_)
  cases f with
  | next =>
    obtain ⟨σ', H', I', q⟩ := q
    exact h2.run pins s1 σ' H' D I' q
  | ret v =>
    obtain ⟨_, _, _, _, _, q⟩ := q
    exact q.elim
  | brk =>
    obtain ⟨_, _, _, q⟩ := q
    exact False.elim q
  | cont =>
    obtain ⟨_, _, _, q⟩ := q
    exact False.elim q
/-- what is known behind the end: the cells are tracked, and hold what the names held -/
structure Tracked (X : Cx) (σ : L2.St) (H H2 : Hp) : Prop where
  up : ∀ b o, H b = some o → H2 b = some o ∧ ∀ y, X.env.cells.lookup y ≠ some b
  cel : ∀ y c, X.env.scope.names.lookup y = some .cell → X.env.cells.lookup y = some c → ∃ o u, H2 c = some (CellO c o) ∧ o.data = .cell u
  inj : ∀ x y c, X.env.cells.lookup x = some c → X.env.cells.lookup y = some c → x = y
  has : ∀ y, X.env.scope.names.lookup y = some .cell → ∃ c, X.env.cells.lookup y = some c
  at_ : ∀ (i : Nat) (y : Str) (v : V), X.N[i]? = some y → X.env.scope.names.lookup y = some .cell → σ[i]? = some (some v) → ∃ c o, X.env.cells.lookup y = some c ∧ H2 c = some (CellO c o) ∧ CellV o v
theorem maker_ok {P : Program} {w : World} {K : PySem.W.Frag} {mg : Str → Option Value} {base : Heap} {x qual : Str} {st : Stmt} {f : Addr} {fd : FuncData} {N ps : List Str} {k : Nat} {sp : Sp} (F : Fun K x qual st f fd) (S : FnScope N ps (defScope st)) (nofree : ∀ y ∈ (defScope st).names, y.2 ≠ .free)
    (len : ∀ vs H Q E, sp vs H Q E → vs.length = ps.length)
    {cc : Addr} (hcc : fd.code = .ref cc) (hbody : ∀ (A : Around) (outer : List Env) (s : Shared) (H : Hp) (vs : List V) (Q : VK) (E : XK), Room k (A.deeper (envOfC qual (defScope st) s.heap.objs.size f (.ref cc))) → sp vs H Q E →
      ∃ t, PSk (cxOf CX0 P w K mg base N qual (defScope st) f (.ref cc) A outer s H E) (defBody st) t ∧ t (start N vs) H (fun v σ' H' => ∀ H2, Tracked (cxOf CX0 P w K mg base N qual (defScope st) f (.ref cc) A outer s H E) σ' H' H2 → Q v H2)) :
    FnOk P w K mg base CX0 (k + 1) f fd ps sp := by
  obtain ⟨oc, od, kV, doc, pm, an, cdv, ct, osl, rfl, lk, hcd⟩ := F.ex
  obtain rfl : cdv = .ref cc := hcc
  refine ⟨len, fun A outer s H args us vs Q E hr e0 hb r hsp => ?_⟩
  have hl := len _ _ _ _ hsp
  have KX : K.In s.heap := e0.mod.kin.keeps fun b o e => (e0.bs b o e).1
  have lim : s.heap.NoLimit := e0.mod.nolimit.keeps fun b o e => (e0.bs b o e).1
  have hkind : ∀ y ∈ ps.zip us, (defScope st).names.lookup y.1 = some .local ∨ ((defScope st).names.lookup y.1 = some .cell ∧ ((cellsFrom (s.heap.objs.size + 1) (defScope st).names []).lookup y.1).isSome = true) := fun ⟨n, v⟩ hy => by
    rcases S.par n (List.of_mem_zip hy).1 with q | q
    · exact .inl q
    · exact .inr ⟨q, PySem.W.cellsFrom_some _ _ _ (.inl q)⟩
  refine codeAny_call_function hr.depth (KX _ _ lk) rfl S.co S.gen rfl (PySem.W.codeRec_of KX hcd) (hb _ _ _ _ ?_)
  refine wpAny_newFunctionEnv_cells S.kind hkind fun env he s1 x => ?_
  subst he
  refine ⟨lim.keeps x.toInCall.keep, codeAny_func ?_⟩
  obtain ⟨t, ht, hq⟩ := hbody A outer s H vs Q E (hr.deeper _) hsp
  have I : Inv (cxOf CX0 P w K mg base N qual (defScope st) f (.ref cc) A outer s H E) [] (start N vs) H s1 := inv_start S hr.hd e0 hl r x
  refine wpAny_mono (ht.run [] s1 (start N vs) H _ I hq) (fun fl s' hs => ?_) fun e s' hs => hs
  cases fl with
  | ret u =>
    obtain ⟨v, σ', H', J, rv, q⟩ := hs
    -- the cells
    generalize hX : cxOf CX0 P w K mg base N qual (defScope st) f (.ref cc) A outer s H E = X at J q
    have hs0 : X.s_0 = s := by rw [← hX]; rfl
    have hH0 : X.H_0 = H := by rw [← hX]; rfl
    have hfs : X.fs = frs outer := by rw [← hX]; rfl
    have hex : X.ex = [] := by rw [← hX]; rfl
    have hP : X.prog = P := by rw [← hX]; rfl
    have hw : X.w = w := by rw [← hX]; rfl
    have hfn : ∀ y, X.env.scope.names.lookup y = some .cell → X.fn y = true := fun y hy => by
      rw [← hX]
      rfl
    obtain ⟨cs, hcs⟩ : ∃ cs : List Addr, ∀ c, c ∈ cs ↔ ∃ y, X.env.scope.names.lookup y = some .cell ∧ X.env.cells.lookup y = some c := by
      refine ⟨X.env.scope.names.filterMap fun y => if X.env.scope.names.lookup y.1 = some .cell then X.env.cells.lookup y.1 else none, fun c => ?_⟩
      rw [List.mem_filterMap]
      constructor
      · rintro ⟨y, _, e⟩
        by_cases z : X.env.scope.names.lookup y.1 = some .cell
        · rw [if_pos z] at e
          exact ⟨y.1, z, e⟩
        · rw [if_neg z] at e
          cases e
      · rintro ⟨y, h1, h2⟩
        exact ⟨(y, .cell), PySem.mem_of_lookup h1, by rw [if_pos h1]; exact h2⟩
    have fr : ∀ c ∈ cs, H' c = none := fun c hc => by
      obtain ⟨y, _, h2⟩ := (hcs c).mp hc
      exact J.freeC y c h2
    have new : ∀ c ∈ cs, s.heap.objs.size ≤ c := fun c hc => by
      obtain ⟨y, h1, h2⟩ := (hcs c).mp hc
      have z := J.ok.cab y c (hfn y h1) h2
      rwa [hs0] at z
    obtain ⟨ob, hob⟩ : ∃ ob : Addr → Obj, ∀ c ∈ cs, s'.heap.get? c = some (ob c) ∧ ∃ u, (ob c).data = .cell u := by
      refine ⟨fun c0 => (s'.heap.get? c0).getD { cls := .none, data := .plain }, fun c0 h0 => ?_⟩
      obtain ⟨y, _, h2⟩ := (hcs c0).mp h0
      obtain ⟨u, o, ho, hd⟩ := J.cell y c0 h2
      dsimp only
      rw [ho]
      exact ⟨rfl, u, hd⟩
    have tr : Tracked X σ' H' (trk cs ob H') := by
      refine ⟨fun b o e => ⟨trk_up fr e, fun y z => by rw [J.freeC y b z] at e; cases e⟩, fun y c h1 h2 => ?_, fun x y c a b => J.ok.inj x y c a b, fun y h => J.ok.has y (.inl h), fun i y v h1 h2 h3 => ?_⟩
      · have hc := (hcs c).mpr ⟨y, h1, h2⟩
        obtain ⟨h4, u, h5⟩ := hob c hc
        exact ⟨ob c, u, trk_in hc, h5⟩
      · obtain ⟨m, _, hl⟩ := J.loc
        obtain ⟨u, ru, l⟩ := hl i y v h1 h3 (.inr (.inl h2))
        rcases l with ⟨z, _⟩ | ⟨_, c, h4, o, ho, hd⟩
        · have z : X.env.scope.names.lookup y = some .local := z
          rw [h2] at z
          cases z
        · have hc := (hcs c).mpr ⟨y, h2, h4⟩
          have e := (hob c hc).1
          rw [ho] at e
          exact ⟨c, ob c, h4, trk_in hc, u, ru, by rw [← Option.some.inj e]; exact hd⟩
    have un := J.base
    rw [hs0, hH0, hfs, hex] at un
    have hok := trk_hok J.hok fr fun c hc => (hob c hc).1
    rw [hP, hw] at hok
    have out : ∀ b o, s.heap.get? b = some o → ¬ b ∈ cs := fun b o e z => absurd (Nat.lt_of_lt_of_le (Heap.lt_size e) (new b z)) (Nat.lt_irrefl _)
    have os := J.os
    rw [hs0] at os
    exact ⟨v, trk cs ob H', os, J.bare, ⟨un.keep, un.slot, fun b o e n hx => by rw [trk_out (out b o e)]; exact un.free b o e n hx, un.there, fun b xs q => trk_up fr (un.tups b xs q), fun b o z q => trk_up fr (un.frzs b o z q), fun b ps q => by
      obtain ⟨more, e⟩ := un.tbls b ps q
      exact ⟨more, trk_up fr e⟩⟩, hok, rv, q _ tr⟩
  | next => exact hs.elim
  | brk => exact hs.elim
  | cont => exact hs.elim
end Db

namespace Db
open PySem L2 Evl StX LamX
/-! ### deeds, good or odd; memories, good or odd -/
abbrev Raw := Option (Str × List Int)
def Raw.vals : Raw → List V
  | none => []
  | some (t, is) => .str t :: is.map V.int
def Raw.dat : Raw → List PyData
  | none => []
  | some (t, is) => .str t :: is.map PyData.int
def Raw.ok : Raw → Prop
  | none => True
  | some (t, _) => PyData.strOk t = true
def RV (K : PySem.W.Frag) (H : Hp) (v : V) (d : Raw) : Prop := ∃ a, v = .ref a ∧ SqT K H a d.vals
def RVs (K : PySem.W.Frag) (H : Hp) (vs : List V) (ds : List Raw) : Prop := Paired (RV K H) vs ds
theorem RVs.mono {K : PySem.W.Frag} {H H' : Hp} {vs : List V} {ds : List Raw} (e : Ex H H') (q : RVs K H vs ds) : RVs K H' vs ds := Paired.mapP q fun _ _ ⟨a, h, s⟩ => ⟨a, h, ex_t e s⟩
theorem RVs.length {K : PySem.W.Frag} {H : Hp} {vs : List V} {ds : List Raw} (q : RVs K H vs ds) : vs.length = ds.length := Paired.length q
theorem RVs.get {K : PySem.W.Frag} {H : Hp} : ∀ {vs : List V} {ds : List Raw} {i : Nat} {v : V}, RVs K H vs ds → vs[i]? = some v → ∃ m, ds[i]? = some m ∧ RV K H v m
  | _, _, _, _, .nil, e => by simp at e
  | _, _, 0, _, .cons r _, e => by simp at e; subst e; exact ⟨_, rfl, r⟩
  | _, _, i + 1, x, .cons _ t, e => by
    obtain ⟨u, h1, h2⟩ := RVs.get (i := i) (v := x) t (by simpa using e)
    exact ⟨u, by simpa using h1, h2⟩
def isRd (n : Int) : List Int → Bool
  | [c] => decide (0 ≤ c ∧ c < n)
  | _ => false
def isWr (n : Int) : List Int → Bool
  | [c, w] => decide (0 ≤ c ∧ c < n) && decide (0 ≤ w ∧ w < 3)
  | _ => false
theorem isRd_no {n : Int} : ∀ {is : List Int}, ¬ is.length = 1 → isRd n is = false
  | [], _ => rfl
  | [_], h => absurd rfl h
  | _ :: _ :: _, _ => rfl
theorem isWr_no {n : Int} : ∀ {is : List Int}, ¬ is.length = 2 → isWr n is = false
  | [], _ => rfl
  | [_], _ => rfl
  | [_, _], h => absurd rfl h
  | _ :: _ :: _ :: _, _ => rfl
/-- is it a deed of so many cells -/
def isD (n : Int) : Raw → Bool
  | none => false
  | some (t, is) => if t = "read" then isRd n is else if t = "write" then isWr n is else decide (t = "rest" ∧ is = [])
def firstBad (n : Int) (most : Nat) (ds : List Raw) : Option Nat := (List.range ds.length).find? fun i => decide (i = most) || !isD n (ds.getD i none)
def memBad (is : List Int) : Bool := !(decide (1 ≤ is.length ∧ is.length ≤ 4) && is.all fun i => decide (0 ≤ i ∧ i < 3))
theorem dpa_raw {K : PySem.W.Frag} {H : Hp} : ∀ d : Raw, DpAll K H d.vals d.dat
  | none => .nil
  | some (t, is) => .cons (.str t) (dpa_ints is)
theorem sh_raw {d : Raw} (h : d.ok) : Sh 1 (.tuple d.dat) := sh_tup fun x hx => by
  match d, h, hx with
  | some (t, is), h, hx =>
    rcases List.mem_cons.mp hx with rfl | hx
    · exact sh_str h
    · obtain ⟨i, _, rfl⟩ := List.mem_map.mp hx
      exact sh_int
theorem eqv_raw (t : Str) (is : List Int) : PyData.eqv (.tuple (Raw.dat (some (t, is)))) (.tuple Deed.rs.dat) = decide (t = "rest" ∧ is = []) := by
  cases is with
  | nil =>
    simp [Raw.dat, Deed.dat, PyData.eqv, PyData.eqvAll]
    rw [Bool.eq_iff_iff, beq_iff_eq, decide_eq_true_eq]
  | cons a r => simp [Raw.dat, Deed.dat, PyData.eqv, PyData.eqvAll]
/-- a class of the program without an __init__ of its own -/
structure PlnX (K : PySem.W.Frag) (mg : Str → Option Value) (x : Str) (C : Addr) : Prop where
  gC : mg x = some (.ref C)
  q : PySem.W.excIn K C [.type "ValueError", .type "Exception", .type "BaseException", .type "object"] "ValueError.__new__" = true
  kp : PySem.W.keepIn K (.ref C) = true
  sub : PySem.W.subIn K (.ref C) (.type "BaseException") = some true
  ty : PySem.W.typeIn K (.ref C) = some (.type "type")
theorem pe_dqS {X : Cx} {x : Str} {ps : List Str} {dvs : List V} {k j : Nat} {sp : Sp} {E : L2.St → XK} {e : Expr} {es : List Expr} {t : TA} {p pos : Pos} (h : Dq X.prog X.w X.K X.mg X.base (L2.CX X.prog X.w) x ps dvs k sp) (hr : Room j X.A) (hk : k ≤ j) (hx : ∀ σ, PassesAt (L2.CX X.prog X.w) X σ (E σ))
    (ha : PA X (e :: es) t) (hg : Gl X x := by rfl) (hdb : (x == ("__debug__" : Str)) = false := by decide) (he : starEach (e :: es) X.env = (false, eval e X.env) :: starEach es X.env := by rfl)
    (hpl : (backTo pos (starEach es X.env)).any (·.1) = false := by rfl) : PE X (.Call (.Name x p) (e :: es) [] pos) (tCallSD sp dvs E t) := by
  obtain ⟨f, fd, ds, F, hm, kp, b, r⟩ := h.ex
  exact pe_callSD F (hr.mono hk) hg hm kp b r hx ha hdb he hpl
theorem memBad_len {is : List Int} (h : ¬ (1 ≤ is.length ∧ is.length ≤ 4)) : memBad is = true := by
  unfold memBad
  rw [decide_eq_false h]
  rfl
theorem memBad_at {is : List Int} {i : Int} (h : i ∈ is) (b : ¬ (0 ≤ i ∧ i < 3)) : memBad is = true := by
  unfold memBad
  have e : (is.all fun i => decide (0 ≤ i ∧ i < 3)) = false := List.all_eq_false.mpr ⟨i, h, by simpa using b⟩
  rw [e, Bool.and_false]
  rfl
theorem memBad_no {is : List Int} (h : 1 ≤ is.length ∧ is.length ≤ 4) (k : ∀ i ∈ is, 0 ≤ i ∧ i < 3) : memBad is = false := by
  unfold memBad
  have e : (is.all fun i => decide (0 ≤ i ∧ i < 3)) = true := List.all_eq_true.mpr fun i hi => decide_eq_true (k i hi)
  rw [decide_eq_true h, e]
  rfl
theorem firstBad_at {n : Int} {m i : Nat} {ds : List Raw} {d : Raw} (h : ds[i]? = some d) (b : (decide (i = m) || !isD n d) = true) (k : ∀ j d', j < i → ds[j]? = some d' → (decide (j = m) || !isD n d') = false) : firstBad n m ds = some i := by
  have hi : i < ds.length := (List.getElem?_eq_some_iff.mp h).1
  unfold firstBad
  refine find_at (j := i) (List.getElem?_range hi) ?_ fun j hj => ?_
  · rw [List.getD_eq_getElem?_getD, h]
    exact b
  · have hj2 : j < i := by
      rw [List.take_range] at hj
      have := List.mem_range.mp hj
      omega
    have e : ds[j]? = some ds[j] := List.getElem?_eq_getElem (by omega)
    rw [List.getD_eq_getElem?_getD, e]
    exact k j _ hj2 e
theorem firstBad_no {n : Int} {m : Nat} {ds : List Raw} (k : ∀ j d', ds[j]? = some d' → (decide (j = m) || !isD n d') = false) : firstBad n m ds = none := by
  unfold firstBad
  refine List.find?_eq_none.mpr fun j hj => ?_
  have hj2 : j < ds.length := List.mem_range.mp hj
  have e : ds[j]? = some ds[j] := List.getElem?_eq_getElem hj2
  rw [List.getD_eq_getElem?_getD, e]
  have z := k j _ e
  simp only [Option.getD_some]
  rw [z]
  exact Bool.false_ne_true
def refM (is : List Int) : Option Rf := if memBad is = true then some .mem else none
def refP (door : Nat) (n : Int) (m : Nat) (ds : List Raw) : Option Rf := (firstBad n m ds).map fun i => .prog door i
def refPP (n : Int) (m : Nat) (ds es : List Raw) : Option Rf := (refP 0 n m ds).or (refP 1 n m es)
end Db

namespace Db
open PySem L2 Evl
/-- l.count(x) of flat items -/
def rCntF (K : PySem.W.Frag) : V → List V → Hp → VK → Prop := fun x xs H Q => ∃ (a : Addr) (ys : List V) (y : V), x = V.ref a ∧ xs = [y] ∧ SqL K H a ys ∧ flatV y = true ∧ ys.all flatV = true ∧ Q (.int (ys.countP fun z => eqV z y : Nat)) H
theorem count_eqU {x : V} : ∀ {xs : List V} {us : List Value}, Vals xs us → xs.all flatV = true → us.countP (eqU x) = xs.countP fun y => eqV y x
  | _, _, .nil, _ => rfl
  | y :: xs, u :: us, .cons r t, f => by
    rw [List.all_cons, Bool.and_eq_true] at f
    rw [List.countP_cons, List.countP_cons, count_eqU t f.2, eqU_of r f.1]
section
variable {X : Cx}
theorem mt_countF : MtR X "list.count" (rCntF X.K) := by
  intro pins s σ H x xs v us Q I rx rxs h
  obtain ⟨a, ys, y, rfl, rfl, hs, fy, fys, q⟩ := h
  cases rx
  cases rxs with
  | cons ry rt =>
    rename_i uy ut
    cases rt
    obtain ⟨its, rv, ⟨⟨cls, dd, data, sl⟩, n, ho, hc, hdn, hd⟩, hlen⟩ := I.list hs
    simp only at hc hd
    subst hc hd
    refine call_meets PySem.F.slot_list_count ⟨_, ho, rfl⟩ PySem.F.entry_list_count (PySem.F.args_list_count_2 _ _)
      (SeqAt.list_countAt a its.toArray n dd sl uy (eqU y)) ⟨ho, fun u' hu' => mem_eqAt ry fy rv fys u' (by simpa using hu'), ?_⟩
    refine ⟨.int (ys.countP fun z => eqV z y : Nat), H, I.tok _, ⟨s.toks, ?_⟩, q⟩
    show Value.int ((its.toArray.toList.countP (eqU y) : Nat) : Int) s.toks = Value.int ((ys.countP fun z => eqV z y : Nat) : Int) s.toks
    rw [show its.toArray.toList.countP (eqU y) = _ from count_eqU rv fys]
theorem mt_countFK (K : PySem.W.Frag) (e : X.K = K := by rfl) : MtR X "list.count" (rCntF K) := by subst e; exact mt_countF
theorem mt_indexK (K : PySem.W.Frag) (e : X.K = K := by rfl) : MtR X "list.index" (rIndex K) := by subst e; exact mt_index
end
/-- a method of a list, with the objects named -/
theorem pe_bmL {X : Cx} {o e : Expr} {es : List Expr} {to : TE} {t : TA} {name : Str} {apos cpos : Pos} {T id : String} {r : V → List V → Hp → VK → Prop} (K : PySem.W.Frag) (pa : PlainAttrs T) (slot : Slot T name id) (hty : typeOf (.builtin id) = pure (.type "method_descriptor")) (hm : MtR X id r) (ho : PE X o to) (ha : PA X (e :: es) t) (eK : X.K = K := by rfl)
    (hbase : attributeBase o name X.env (eval o X.env) = eval o X.env := by rfl)
    (hfew : ((backTo cpos (starEach (e :: es) X.env)).all (fun x => !x.1) && (backToKw cpos (keywordEach [] X.env)).all (fun x => x.1.isSome)
      && decide ((e :: es).length + ([] : List Keyword).length + (if ([] : List Keyword).isEmpty then 0 else 1) < 30)) = true := by rfl)
    (hline : (apos.endLine == cpos.line) = true := by rfl) (hs : starEach (e :: es) X.env = (false, eval e X.env) :: starEach es X.env := by rfl) (hplain : (backTo cpos (starEach es X.env)).any (·.1) = false := by rfl) :
    PE X (.Call (.Attribute o name apos) (e :: es) [] cpos) (tBM K T r to t) := by
  subst eK
  exact pe_bm pa slot hty hm ho ha hbase hfew hline hs hplain
/-- x() of a closure, with all parts named -/
theorem pe_workK {X : Cx} (P : Program) (w : World) (K : PySem.W.Frag) (mg : Str → Option Value) (base : Heap) {Z : Cls} {i j k : Nat} {x : Str} {p pos : Pos} {W : L2.St → XK} (hr : Room j X.A) (hk : k ≤ j) (hx : ∀ σ, PassesAt (L2.CX P w) X σ (W σ)) (hN : X.N[i]? = some x) (hv : Vis X.env.scope x)
    (e1 : X.prog = P := by rfl) (e2 : X.w = w := by rfl) (e3 : X.K = K := by rfl) (e4 : X.mg = mg := by rfl) (e5 : X.base = base := by rfl)
    (hd : (x == ("__debug__" : Str)) = false := by decide) (hcd : (x == ("__classdict__" : Str)) = false := by decide) : PE X (.Call (.Name x p) [] [] pos) (tWork P w K mg base Z k i W) := by
  subst e1 e2 e3 e4 e5
  exact pe_work hr hk hx hN hv hd hcd
end Db

namespace Db
open PySem L2 Evl StX LamX
/-! ### what passes where a code table grows -/
theorem Ex.extN {H H' : Hp} (e : Ex H H') : ExtN H H' := ExtN.of e
theorem codeO_nel {c : Addr} {q : Str} {xs : List V} : CodeO c q ≠ HO.lst xs := fun z => by
  unfold CodeO at z
  cases z
theorem nb_lst {xs : List V} (ps : Array Value) : HO.lst xs ≠ .tbl ps := fun z => by cases z
theorem nb_tup {xs : List V} (ps : Array Value) : HO.tup xs ≠ .tbl ps := fun z => by cases z
theorem nb_frz {o : Obj} {u : HO} (ps : Array Value) : HO.frz o u ≠ .tbl ps := fun z => by cases z
section
variable {K : PySem.W.Frag} {H H' : Hp}
theorem sqt_N (e : ExtN H H') {a : Addr} {xs : List V} (h : SqT K H a xs) : SqT K H' a xs := by
  rcases h with (h | ⟨o, h⟩) | h
  · exact .inl (.inl (e _ _ h nb_tup))
  · exact .inl (.inr ⟨o, e _ _ h nb_frz⟩)
  · exact .inr h
theorem sql_N (e : ExtN H H') {a : Addr} {xs : List V} (h : SqL K H a xs) : SqL K H' a xs := by
  rcases h with (h | ⟨o, h⟩) | h
  · exact .inl (.inl (e _ _ h nb_lst))
  · exact .inl (.inr ⟨o, e _ _ h nb_frz⟩)
  · exact .inr h
theorem rv_N (e : ExtN H H') {v : V} {d : Raw} (h : RV K H v d) : RV K H' v d := by
  obtain ⟨a, e1, s⟩ := h
  exact ⟨a, e1, sqt_N e s⟩
theorem rvs_N (e : ExtN H H') {vs : List V} {ds : List Raw} (h : RVs K H vs ds) : RVs K H' vs ds := Paired.mapP h fun _ _ => rv_N e
theorem dv_N (e : ExtN H H') {v : V} {d : Deed} (h : DV K H v d) : DV K H' v d := by
  obtain ⟨a, e1, s⟩ := h
  exact ⟨a, e1, sqt_N e s⟩
theorem pv_N (e : ExtN H H') {vs : List V} {ds : List Deed} (h : PV K H vs ds) : PV K H' vs ds := Paired.mapP h fun _ _ => dv_N e
theorem draw_N (e : ExtN H H') {h l : Addr} (D : Draw H h l) : Draw H' h l := by
  obtain ⟨a, p, ns, h1, h2, h3⟩ := D.st
  exact ⟨a, p, ns, e _ _ h1 nb_lst, e _ _ h2 nb_lst, h3⟩
theorem tabs_ex {T : List (Addr × Str)} (e : Ex H H') (t : Tabs T H) : Tabs T H' := t.ext e
/-- the tables stay through draws -/
theorem Draw.tabs {T : List (Addr × Str)} {h l : Addr} (D : Draw H h l) (e : Bt [h, l] H H') (t : Tabs T H) : Tabs T H' := fun p hp => by
  obtain ⟨_, _, _, h1, h2, _⟩ := D.st
  obtain ⟨ps, a1, a2, a3⟩ := t p hp
  refine ⟨ps, e _ _ ?_ a1, a2, fun pos cv hc => ?_⟩
  · simp only [List.mem_cons, List.not_mem_nil, or_false]
    rintro (z | z)
    · rw [z, h1] at a1; cases a1
    · rw [z, h2] at a1; cases a1
  · obtain ⟨c, e1, e2⟩ := a3 pos cv hc
    refine ⟨c, e1, e _ _ ?_ e2⟩
    simp only [List.mem_cons, List.not_mem_nil, or_false]
    rintro (z | z)
    · rw [z, h1] at e2; exact codeO_nel (Option.some.inj e2).symm
    · rw [z, h2] at e2; exact codeO_nel (Option.some.inj e2).symm
theorem dp_intN {i : Int} : Dp K H (.int i) (.int i) := .int i
end
/-! ### a lambda with one default, called without arguments -/
theorem binds_lamD {s : Shared} {fd : FuncData} {dt : Addr} {o : Obj} {u : Value} {n : Nat} {x : Str} (ho : s.heap.get? dt = some o) (hd : o.data = .seq #[u] n)
    (h : ∃ k, bindArgs fd ⟨[], []⟩ = seqItems? (.ref dt) >>= k ∧ k (some #[u]) = pure [(x, u)]) : BindsTo s fd ⟨[], []⟩ [(x, u)] := by
  obtain ⟨k, e1, e2⟩ := h
  refine BindsTo.of_looks fun M => ?_
  rw [e1]
  exact fun A Q E s kp q => wpAny_bind (wpAny_seqItems (kp _ _ ho) hd ((PySem.W.Looks.of_pure e2 : PySem.W.Looks M _ _ _) A Q E s kp q))
section
variable {X : Cx} {σ : L2.St} {H' H2 : Hp}
/-- behind a maker's end: its closure -/
theorem clos_of {N ps fr : List Str} {js : List Nat} {F : LF} {f : Addr} {ws : List V} (TR : Tracked X σ H' H2) (hcl : F.cl = cloFrom X.env.cells F.scope.names []) (S : NdefX.NScope N ps fr F.scope)
    (hcell : ∀ y ∈ F.scope.names, y.2 = .free → X.env.scope.names.lookup y.1 = some .cell) (hjs : js.map (fun j => X.N[j]?) = fr.map some) (hws : js.map (NdefX.slotAt σ) = ws.map some)
    (hf : H' f = some (LamO f F)) (hc : H' F.c = some (CodeO F.c F.qual)) : ClosAt H2 f F fr ws ∧ ∀ b o, H' b = some o → H2 b = some o ∧ ¬ b ∈ F.cs := by
  have hfree : ∀ y ∈ F.scope.names, y.2 = .free → ∃ c, X.env.cells.lookup y.1 = some c := fun y hy e => TR.has _ (hcell y hy e)
  have clq : ∀ q ∈ F.cl, X.env.cells.lookup q.1 = some q.2 ∧ (q.1, NameKind.free) ∈ F.scope.names := fun q hq => by
    rw [hcl] at hq
    rcases cloFrom_mem hq with z | ⟨z1, z2⟩
    · cases z
    · obtain ⟨c1, hc1⟩ := hfree _ z1 rfl
      have hc1 : X.env.cells.lookup q.1 = some c1 := hc1
      rw [hc1] at z2
      refine ⟨?_, z1⟩
      rw [hc1]
      exact congrArg some z2.symm
  have hl : ws.length = fr.length := by
    have z := congrArg List.length hws
    have z2 := congrArg List.length hjs
    simp only [List.length_map] at z z2
    omega
  refine ⟨⟨(TR.up _ _ hf).1, (TR.up _ _ hc).1, hl, fun q hq => ?_, fun x y c a b => ?_, fun i y hy => ?_⟩, fun b o e => ⟨(TR.up b o e).1, fun z => ?_⟩⟩
  · obtain ⟨a1, a2⟩ := clq q hq
    exact TR.cel _ _ (hcell _ a2 rfl) a1
  · exact TR.inj x y c (clq _ (PySem.mem_of_lookup a)).1 (clq _ (PySem.mem_of_lookup b)).1
  · have hi : i < ws.length := by
      rw [hl]
      exact (List.getElem?_eq_some_iff.mp hy).1
    have hw : ws[i]? = some ws[i] := List.getElem?_eq_getElem hi
    have hij : i < js.length := by
      have z := congrArg List.length hws
      simp only [List.length_map] at z
      omega
    have hj : js[i]? = some js[i] := List.getElem?_eq_getElem hij
    have e1 : X.N[js[i]]? = some y := by
      have z := congrArg (fun l => l[i]?) hjs
      simp only [List.getElem?_map, hj, hy, Option.map_some] at z
      exact Option.some.inj z
    have e2 : σ[js[i]]? = some (some ws[i]) := by
      have z := congrArg (fun l => l[i]?) hws
      simp only [List.getElem?_map, hj, hw, Option.map_some] at z
      exact NdefX.slotAt_some (Option.some.inj z)
    have hy2 := S.frk y (List.mem_of_getElem? hy)
    have hym : (y, NameKind.free) ∈ F.scope.names := PySem.mem_of_lookup hy2
    obtain ⟨c, o, h1, h2, h3⟩ := TR.at_ _ _ _ e1 (hcell _ hym rfl) e2
    refine ⟨c, o, ws[i], ?_, h2, hw, h3⟩
    rw [hcl]
    exact NdefX.clo_has hfree hym h1
  · obtain ⟨q, hq, eq⟩ := List.mem_map.mp z
    exact (TR.up b o e).2 _ (by rw [← eq]; exact (clq q hq).1)
def cellB (sc nsc : Scope) : Bool := nsc.names.all fun y => !decide (y.2 = .free) || decide (sc.names.lookup y.1 = some .cell)
theorem cell_by {sc nsc : Scope} (h : cellB sc nsc = true) : ∀ y ∈ nsc.names, y.2 = .free → sc.names.lookup y.1 = some .cell := fun y hy e => by
  unfold cellB at h
  rw [List.all_eq_true] at h
  have z := h y hy
  rw [e] at z
  simpa using z
/-- .. is what its body says -/
theorem work_lam {P : Program} {w : World} {K : PySem.W.Frag} {mg : Str → Option Value} {base : Heap} {Z : Cls} {k : Nat} (N fr : List Str) (js : List Nat) (ws : List V) (sc : Scope) {qual : Str} {params : Arguments} {body : Expr} {scope : Scope} {c f : Addr} {r : Option Rf} (TR : Tracked X σ H' H2)
    (hf : H' f = some (LamO f ⟨qual, params, body, scope, .none, cloFrom X.env.cells scope.names [], c⟩)) (hc : H' c = some (CodeO c qual)) (S : NdefX.nscB N [] fr scope = true) (hsc : X.env.scope = sc) (hcell : cellB sc scope = true) (hjs : js.map (fun j => X.N[j]?) = fr.map some) (hws : js.map (NdefX.slotAt σ) = ws.map some)
    (hbind : ∀ (cl : List (Str × Addr)) (c : Addr) (doc pm ctv : Value), bindArgs (LF.fd ⟨qual, params, body, scope, .none, cl, c⟩ doc pm ctv) ⟨[], []⟩ = pure []) (hB : BodyOk P w K mg base Z k N qual params body scope [] ws H' r) : Work P w K mg base Z (k + 1) H2 (.ref f) r := by
  obtain ⟨C, up⟩ := clos_of (F := ⟨qual, params, body, scope, .none, cloFrom X.env.cells scope.names [], c⟩) TR rfl (NdefX.nscope_by S) (fun y hy e => by rw [hsc]; exact cell_by hcell y hy e) hjs hws hf hc
  have hbn : ∀ (H1 : Hp) (s : Shared), ExtN H2 H1 → HOk P w H1 s.heap → ∃ us, Vals [] us ∧ ∀ doc pm ctv : Value, BindsTo s (LF.fd ⟨qual, params, body, scope, .none, cloFrom X.env.cells scope.names [], c⟩ doc pm ctv) ⟨[], []⟩ (([] : List Str).zip us) := fun _ _ _ _ => ⟨[], .nil, fun doc pm ctv => .of_eq (hbind _ _ doc pm ctv)⟩
  exact work_of (F := ⟨qual, params, body, scope, .none, cloFrom X.env.cells scope.names [], c⟩) (N := N) (ps := []) (fr := fr) (vs := []) (ws := ws) (H := H') (NdefX.nscope_by S) rfl hbn C (fun b o e _ => up b o e) hB
theorem work_lamD {P : Program} {w : World} {K : PySem.W.Frag} {mg : Str → Option Value} {base : Heap} {Z : Cls} {k : Nat} (N fr : List Str) (js : List Nat) (ws : List V) (sc : Scope) {qual : Str} {params : Arguments} {body : Expr} {scope : Scope} {c f dt : Addr} {x : Str} {i : Int} {r : Option Rf} (TR : Tracked X σ H' H2)
    (hf : H' f = some (LamO f ⟨qual, params, body, scope, .ref dt, cloFrom X.env.cells scope.names [], c⟩)) (hc : H' c = some (CodeO c qual)) (hdt : H' dt = some (.tup [.int i])) (S : NdefX.nscB N [x] fr scope = true) (hsc : X.env.scope = sc) (hcell : cellB sc scope = true) (hjs : js.map (fun j => X.N[j]?) = fr.map some) (hws : js.map (NdefX.slotAt σ) = ws.map some)
    (hbind : ∀ (cl : List (Str × Addr)) (c : Addr) (u doc pm ctv : Value), ∃ k, bindArgs (LF.fd ⟨qual, params, body, scope, .ref dt, cl, c⟩ doc pm ctv) ⟨[], []⟩ = seqItems? (.ref dt) >>= k ∧ k (some #[u]) = pure [(x, u)]) (hB : BodyOk P w K mg base Z k N qual params body scope [.int i] ws H' r) : Work P w K mg base Z (k + 1) H2 (.ref f) r := by
  obtain ⟨C, up⟩ := clos_of (F := ⟨qual, params, body, scope, .ref dt, cloFrom X.env.cells scope.names [], c⟩) TR rfl (NdefX.nscope_by S) (fun y hy e => by rw [hsc]; exact cell_by hcell y hy e) hjs hws hf hc
  refine work_of (F := ⟨qual, params, body, scope, .ref dt, cloFrom X.env.cells scope.names [], c⟩) (N := N) (ps := [x]) (fr := fr) (vs := [.int i]) (ws := ws) (H := H') (NdefX.nscope_by S) rfl (fun H1 s e ok => ?_) C (fun b o e _ => up b o e) hB
  obtain ⟨_, us, rv, it⟩ := ok dt _ (e _ _ (up _ _ hdt).1 nb_tup)
  cases rv with
  | cons ru rt =>
    cases rt
    obtain ⟨o, ho, hcl2, n, hd⟩ := it
    exact ⟨[_], .cons ru .nil, fun doc pm ctv => binds_lamD ho hd (hbind _ _ _ doc pm ctv)⟩
end
theorem Ends.some {Z : Cls} {H : Hp} {r : Rf} {Q Q' : VK} {E : XK} (h : Ends Z H (.some r) Q E) : Ends Z H (.some r) Q' E := by
  match r, h with
  | .mem, h => exact h
  | .rule, h => exact h
  | .order, h => exact h
  | .many, h => exact h
  | .prog _ _, h => exact h
/-! ### new lists of deeds, good or odd -/
section
variable {K : PySem.W.Frag} {σ : L2.St} {H : Hp} {ta : TA} {te tb : TE} {ds es : List Raw}
theorem RVs.append {K : PySem.W.Frag} {H : Hp} {us : List V} {es : List Raw} (b : RVs K H us es) : ∀ {vs : List V} {ds : List Raw}, RVs K H vs ds → RVs K H (vs ++ us) (ds ++ es)
  | _, _, .nil => b
  | _, _, .cons r t => .cons r (RVs.append b t)
def EvRs (K : PySem.W.Frag) (ta : TA) (σ : L2.St) (H : Hp) (ds : List Raw) : Prop := ∀ H1, Ex H H1 → ∀ Q : List V → Hp → Prop, (∀ vs H2, Ex H1 H2 → RVs K H2 vs ds → Q vs H2) → ta σ H1 Q
def EvRL (K : PySem.W.Frag) (te : TE) (σ : L2.St) (H : Hp) (ds : List Raw) : Prop := ∀ H1, Ex H H1 → ∀ Q : VK, (∀ p us H2, H1 p = none → Ex H1 H2 → H2 p = some (.lst us) → RVs K H2 us ds → Q (.ref p) H2) → te σ H1 Q
theorem er_nil : EvRs K tNil σ H [] := fun H1 _ _ q => q _ H1 (Ex.refl H1) .nil
theorem er_cons {ts : TA} {d : Raw} (h : EvA ts σ H d.vals) (k : EvRs K ta σ H ds) (hz : d.vals.length ≤ 100000 := by exact Nat.le_of_ble_eq_true rfl) : EvRs K (tCons (tTup ts) ta) σ H (d :: ds) := fun H1 e Q q =>
  h H1 e _ fun H2 e2 => ⟨sz_of hz, fun p hp => k _ ((e.trans e2).trans (Ex.new hp)) _ fun vs H3 e3 rv => q _ H3 ((e2.trans (Ex.new hp)).trans e3) (.cons ⟨p, rfl, ex_t e3 (SqT.of upd_same)⟩ rv)⟩
theorem erl_lst (h : EvRs K ta σ H ds) (hz : ds.length ≤ 100000 := by exact Nat.le_of_ble_eq_true rfl) : EvRL K (tLst ta) σ H ds := fun H1 e Q q =>
  h H1 e _ fun vs H2 e2 rv => ⟨sz_of (by rw [rv.length]; exact hz), fun p hp => q p _ _ (fresh_back e2 hp) (e2.trans (Ex.new hp)) upd_same (rv.mono (Ex.new hp))⟩
theorem erl_catV {a : Addr} {us : List V} (ha : Ev te σ H (.ref a)) (h1 : H a = some (.lst us)) (hr : RVs K H us ds) (hb : EvRL K tb σ H es) (hz : ds.length + es.length ≤ 100000) : EvRL K (tOp rCat te tb) σ H (ds ++ es) := fun H1 e Q q =>
  ha H1 e _ fun H2 e2 => hb H2 (e.trans e2) _ fun p xs H3 n e3 hp rx => ⟨_, _, _, _, rfl, rfl, ((e.trans e2).trans e3) _ _ h1, hp, sz_of (by rw [hr.length, rx.length]; exact hz), fun l hl =>
    q l _ _ (fresh_back (e2.trans e3) hl) ((e2.trans e3).trans (Ex.new hl)) upd_same (RVs.append (rx.mono (Ex.new hl)) (hr.mono (((e.trans e2).trans e3).trans (Ex.new hl))))⟩
theorem q_asgR {tz : TS} {D : L2.Ends} {i : Nat} (h : EvRL K te σ H ds) (k : ∀ p us H1, H p = none → Ex H H1 → H1 p = some (.lst us) → RVs K H1 us ds → tz D (σ.set i (some (.ref p))) H1) : tSeq (tAsg te (gName i)) tz D σ H := h H (Ex.refl H) _ k
end
theorem Draw.rv {K : PySem.W.Frag} {H H' : Hp} {h l : Addr} {v : V} {d : Raw} (D : Draw H h l) (e : Bt [h, l] H H') (q : RV K H v d) : RV K H' v d := by
  obtain ⟨a, h1, h2⟩ := q
  exact ⟨a, h1, D.t e h2⟩
theorem Draw.rvs {K : PySem.W.Frag} {H H' : Hp} {h l : Addr} {vs : List V} {ds : List Raw} (D : Draw H h l) (e : Bt [h, l] H H') (q : RVs K H vs ds) : RVs K H' vs ds := Paired.mapP q fun _ _ => D.rv e
theorem RVs.take {K : PySem.W.Frag} {H : Hp} : ∀ (n : Nat) {vs : List V} {ds : List Raw}, RVs K H vs ds → RVs K H (vs.take n) (ds.take n)
  | 0, _, _, _ => .nil
  | _ + 1, _, _, .nil => .nil
  | n + 1, _, _, .cons r t => .cons r (RVs.take n t)
theorem RVs.drop {K : PySem.W.Frag} {H : Hp} : ∀ (n : Nat) {vs : List V} {ds : List Raw}, RVs K H vs ds → RVs K H (vs.drop n) (ds.drop n)
  | 0, _, _, q => q
  | _ + 1, _, _, .nil => .nil
  | n + 1, _, _, .cons _ t => RVs.drop n t
theorem RVs.reps {K : PySem.W.Frag} {H : Hp} {v : V} {d : Raw} (r : RV K H v d) : ∀ n : Nat, RVs K H (List.replicate n v) (List.replicate n d)
  | 0 => .nil
  | n + 1 => .cons r (RVs.reps r n)
theorem repsW {α : Type} (v : α) : ∀ n : Nat, (List.replicate n [v]).flatten = List.replicate n v
  | 0 => rfl
  | n + 1 => by rw [List.replicate_succ, List.flatten_cons, repsW v n, List.replicate_succ]; rfl
def Deed.raw : Deed → Raw
  | .rd c => some ("read", [(c : Int)])
  | .wr c x => some ("write", [(c : Int), (x : Int)])
  | .rs => some ("rest", [])
theorem Deed.raw_vals : ∀ d : Deed, d.raw.vals = d.vals
  | .rd _ => rfl
  | .wr _ _ => rfl
  | .rs => rfl
theorem Deed.raw_ok : ∀ d : Deed, d.raw.ok
  | .rd _ => (by decide +kernel : PyData.strOk "read" = true)
  | .wr _ _ => (by decide +kernel : PyData.strOk "write" = true)
  | .rs => (by decide +kernel : PyData.strOk "rest" = true)
theorem Deed.raw_isD {n : Nat} : ∀ {d : Deed}, d.ok n → isD n d.raw = true
  | .rd c, h => by
    have h : c < n := h
    show (if ("read" : Str) = "read" then isRd n [(c : Int)] else if ("read" : Str) = "write" then isWr n [(c : Int)] else decide (("read" : Str) = "rest" ∧ [(c : Int)] = [])) = true
    rw [if_pos rfl]
    exact decide_eq_true ⟨by omega, by omega⟩
  | .wr c x, h => by
    have h : c < n ∧ x < 3 := h
    obtain ⟨h1, h2⟩ := h
    show (if ("write" : Str) = "read" then isRd n [(c : Int), (x : Int)] else if ("write" : Str) = "write" then isWr n [(c : Int), (x : Int)] else decide (("write" : Str) = "rest" ∧ [(c : Int), (x : Int)] = [])) = true
    rw [if_neg (by decide +kernel), if_pos rfl]
    show (decide (0 ≤ (c : Int) ∧ (c : Int) < n) && decide (0 ≤ (x : Int) ∧ (x : Int) < 3)) = true
    rw [decide_eq_true (⟨by omega, by omega⟩ : 0 ≤ (c : Int) ∧ (c : Int) < n), decide_eq_true (⟨by omega, by omega⟩ : 0 ≤ (x : Int) ∧ (x : Int) < 3)]
    rfl
  | .rs, _ => by
    show (if ("rest" : Str) = "read" then isRd n [] else if ("rest" : Str) = "write" then isWr n [] else decide (("rest" : Str) = "rest" ∧ ([] : List Int) = [])) = true
    rw [if_neg (by decide +kernel), if_neg (by decide +kernel)]
    exact decide_eq_true ⟨rfl, rfl⟩
theorem DV.raw {K : PySem.W.Frag} {H : Hp} {v : V} {d : Deed} (h : DV K H v d) : RV K H v d.raw := by
  obtain ⟨a, e, s⟩ := h
  exact ⟨a, e, by rw [Deed.raw_vals]; exact s⟩
theorem PV.raw {K : PySem.W.Frag} {H : Hp} : ∀ {vs : List V} {ds : List Deed}, PV K H vs ds → RVs K H vs (ds.map Deed.raw)
  | _, _, .nil => .nil
  | _, _, .cons a t => .cons a.raw (PV.raw t)
theorem raws_ok {ds : List Deed} : ∀ d ∈ ds.map Deed.raw, d.ok := fun d hd => by
  obtain ⟨x, _, rfl⟩ := List.mem_map.mp hd
  exact x.raw_ok
/-- good deeds are let by -/
theorem firstBad_good {n m : Nat} {ds : List Deed} (hl : ds.length ≤ m) (h : ∀ d ∈ ds, d.ok n) : firstBad n m (ds.map Deed.raw) = none := firstBad_no fun j d' e => by
  rw [List.getElem?_map] at e
  cases q : ds[j]? with
  | none => rw [q] at e; cases e
  | some d =>
    rw [q] at e
    cases e
    have hj := (List.getElem?_eq_some_iff.mp q).1
    rw [Deed.raw_isD (h d (List.mem_of_getElem? q)), decide_eq_false (by omega)]
    rfl
/-- an odd one behind them -/
theorem firstBad_odd {n : Nat} {m : Nat} {ds : List Deed} {d : Raw} {es : List Raw} (hl : ds.length ≤ m) (h : ∀ d ∈ ds, d.ok n) (hd : isD n d = false) : firstBad n m (ds.map Deed.raw ++ d :: es) = some ds.length := by
  refine firstBad_at (d := d) ?_ (by rw [hd, Bool.not_false, Bool.or_true]) fun j d' hj e => ?_
  · rw [List.getElem?_append_right (by rw [List.length_map]; exact Nat.le_refl _), List.length_map, Nat.sub_self]
    rfl
  · rw [List.getElem?_append_left (by rw [List.length_map]; exact hj), List.getElem?_map, List.getElem?_eq_getElem hj] at e
    cases e
    rw [Deed.raw_isD (h _ (List.getElem_mem hj)), decide_eq_false (by omega)]
    rfl
end Db

namespace Db
open PySem L2 Evl StX LamX
/-- a def by its body, its code object known -/
theorem okC {P : Program} {w : World} {K : PySem.W.Frag} {mg : Str → Option Value} {base : Heap} {x qual : Str} {st : Stmt} {f : Addr} {fd : FuncData} {N ps : List Str} {k : Nat} {sp : Sp} {cc : Addr} (F : Fun K x qual st f fd) (hcc : fd.code = .ref cc) (S : FnScope N ps (defScope st)) (len : ∀ vs H Q E, sp vs H Q E → vs.length = ps.length)
    (hbody : ∀ (A : Around) (outer : List Env) (s : Shared) (H : Hp) (vs : List V) (Q : VK) (E : XK), Room k (A.deeper (PyProof.Rows.envOfC qual (defScope st) s.heap.objs.size f (.ref cc))) → sp vs H Q E →
      ∃ t, PSs (cxOf CX0 P w K mg base N qual (defScope st) f (.ref cc) A outer s H E).nox (defBody st) t ∧ t { nx := fun _ H' => Q .non H', rt := Q } (start N vs) H) : FnOk P w K mg base CX0 (k + 1) f fd ps sp := by
  obtain ⟨oc, od, kV, doc, pm, an, cdv, ct, osl, rfl, lk, hcd⟩ := F.ex
  obtain rfl : cdv = .ref cc := hcc
  refine fn_of lk hcd S len fun A outer s H vs Q E hr hsp => ?_
  obtain ⟨t, h, q⟩ := hbody A outer s H vs Q E hr hsp
  exact ⟨t, h.nox, q⟩
/-! ### a statement behind which a token is out -/
section
variable {X : Cx} {e f : Expr} {te tf : TE} {pos : Pos} {st : Stmt} {rest : List Stmt} {t u : TS}
def PE1 (X : Cx) (e : Expr) (te : TE) : Prop := ∀ (pins : List (Addr × Obj)) (s : Shared) (σ : L2.St) (H : Hp) (Q : VK), Inv X pins σ H s → te σ H Q → wpAny (model X.prog X.w) X.A (eval e X.env) (fun v s1 => 1 ≤ s1.toks ∧ EP X pins σ Q v s1) X.xe s
theorem pe1_str {x : Str} {j : Nat} : PE1 X (.Constant (.str x) j pos) (tC (.str x)) := fun pins s σ H Q I h => Calls.Constant_str ⟨by show 1 ≤ s.toks + 1; omega, .str x, H, I.tok _, ⟨_, rfl⟩, h⟩
theorem pe1_op {op : Operator} {r : R2} (ho : OpR X (binaryOp op) r) (ha : PE1 X e te) (hb : PE X f tf) : PE1 X (.BinOp e op f pos) (tOp r te tf) := by
  intro pins s σ H Q I h
  refine wpAny_BinOp (wpAny_mono (ha pins s σ H _ I h) (fun v s1 q => ?_) fun _ _ z => z)
  obtain ⟨hk, x, H1, I1, r1, q1⟩ := q
  refine wpAny_mono (PySem.wpAny_toks_of hk (hb.run pins s1 σ H1 _ I1 q1)) (fun u s2 q => ?_) fun _ _ z => z.2
  obtain ⟨hk2, y, H2, I2, r2, q2⟩ := q
  exact wpAny_mono (PySem.wpAny_toks_of hk2 (ho pins s2 σ H2 x y v u Q I2 r1 r2 q2)) (fun _ _ z => z) fun _ _ z => z.2
theorem pss_set1 {i : Nat} {x : Str} {pos' : Pos} (hN : X.N.Nodup) (hi : X.N[i]? = some x) (hx : Loc X.env.scope x) (he : PE1 X e te) (h2 : PSsT X rest u) (hs : swapsWith e (some (.Name x pos')) pos.line X.env = pure false := by rfl)
    (hf : X.fn x = true ∨ X.env.scope.names.lookup x = some .local := by first | exact .inl rfl | exact .inr rfl | assumption) : PSs X (.Assign [.Name x pos'] e pos :: rest) (tSeq (tAsg te (gName i)) u) := by
  refine ⟨fun pins s σ H D I h => ?_⟩
  refine wpAny_execs_cons (wpAny_Assign_Name (wpAny_mono (he pins s σ H _ I h) (fun v s1 q => ?_) fun _ _ z => z) hs)
  obtain ⟨hk, y, H1, I1, r1, q1⟩ := q
  refine wpAny_mono (PySem.wpAny_toks_of hk (store_ok (Q := fun _ s2 => ∃ σ' H', Inv X pins σ' H' s2 ∧ u D σ' H') I1 hN hi hx r1 (fun s2 I2 => ⟨_, H1, I2, q1⟩) hf)) (fun _ s2 q => ?_) fun _ _ z => z.2
  obtain ⟨hk2, σ', H', I', q⟩ := q
  exact h2 pins s2 σ' H' D hk2 I' q
theorem pst_set {i : Nat} {x : Str} {pos' : Pos} (hN : X.N.Nodup) (hi : X.N[i]? = some x) (hx : Loc X.env.scope x) (he : PET X e te) (hs : swapsWith e (some (.Name x pos')) pos.line X.env = pure false := by rfl)
    (hf : X.fn x = true ∨ X.env.scope.names.lookup x = some .local := by first | exact .inl rfl | exact .inr rfl | assumption) : PST X (.Assign [.Name x pos'] e pos) (tAsg te (gName i)) := by
  intro pins s σ H D h0 I h
  refine wpAny_Assign_Name (thn (he pins s σ H _ h0 I h) fun v s1 ⟨y, H1, I1, r1, q1⟩ => ?_) hs
  exact store_ok I1 hN hi hx r1 (fun s2 I2 => ⟨_, H1, I2, q1⟩) hf
end
end Db

namespace Db
open PySem L2 Evl
def top (i : Nat) : Stmt := PySem.Challenge.pw_doorbeat_k01_programs_refused.main.body.getD i (.Pass ⟨0, 0, 0, 0⟩)
abbrev s_is_whole : Stmt := top 13
theorem sc_is_whole : FnScope ["value"] ["value"] (defScope s_is_whole) := ⟨rfl, rfl, rfl, by decide +kernel, rfl, by decide +kernel, by decide +kernel⟩
abbrev s_is_cell : Stmt := top 14
theorem sc_is_cell : FnScope ["value", "cells"] ["value", "cells"] (defScope s_is_cell) := ⟨rfl, rfl, rfl, by decide +kernel, rfl, by decide +kernel, by decide +kernel⟩
abbrev s_is_worth : Stmt := top 15
theorem sc_is_worth : FnScope ["value"] ["value"] (defScope s_is_worth) := ⟨rfl, rfl, rfl, by decide +kernel, rfl, by decide +kernel, by decide +kernel⟩
abbrev s_is_deed : Stmt := top 16
theorem sc_is_deed : FnScope ["deed", "cells"] ["deed", "cells"] (defScope s_is_deed) := ⟨rfl, rfl, rfl, by decide +kernel, rfl, by decide +kernel, by decide +kernel⟩
abbrev s_check_cells : Stmt := top 17
theorem sc_check_cells : FnScope ["cells"] ["cells"] (defScope s_check_cells) := ⟨rfl, rfl, rfl, by decide +kernel, rfl, by decide +kernel, by decide +kernel⟩
abbrev s_check_memory : Stmt := top 18
theorem sc_check_memory : FnScope ["memory", "worth"] ["memory"] (defScope s_check_memory) := ⟨rfl, rfl, rfl, by decide +kernel, rfl, by decide +kernel, by decide +kernel⟩
abbrev s_check_program : Stmt := top 19
theorem sc_check_program : FnScope ["door", "program", "cells", "most", "place", "deed"] ["door", "program", "cells", "most"] (defScope s_check_program) := ⟨rfl, rfl, rfl, by decide +kernel, rfl, by decide +kernel, by decide +kernel⟩
abbrev s_check_programs : Stmt := top 20
theorem sc_check_programs : FnScope ["left", "right", "cells", "most"] ["left", "right", "cells", "most"] (defScope s_check_programs) := ⟨rfl, rfl, rfl, by decide +kernel, rfl, by decide +kernel, by decide +kernel⟩
abbrev s_clash : Stmt := top 21
theorem sc_clash : FnScope ["deed", "other"] ["deed", "other"] (defScope s_clash) := ⟨rfl, rfl, rfl, by decide +kernel, rfl, by decide +kernel, by decide +kernel⟩
abbrev s_read_cell : Stmt := top 23
theorem sc_read_cell : FnScope ["worths", "deed", "seen"] ["worths", "deed", "seen"] (defScope s_read_cell) := ⟨rfl, rfl, rfl, by decide +kernel, rfl, by decide +kernel, by decide +kernel⟩
abbrev s_write_cell : Stmt := top 24
theorem sc_write_cell : FnScope ["worths", "deed"] ["worths", "deed"] (defScope s_write_cell) := ⟨rfl, rfl, rfl, by decide +kernel, rfl, by decide +kernel, by decide +kernel⟩
abbrev s_write_both : Stmt := top 25
theorem sc_write_both : FnScope ["worths", "deed", "other"] ["worths", "deed", "other"] (defScope s_write_both) := ⟨rfl, rfl, rfl, by decide +kernel, rfl, by decide +kernel, by decide +kernel⟩
abbrev s_step_old : Stmt := top 26
theorem sc_step_old : FnScope ["worths", "deed", "other", "seen", "others"] ["worths", "deed", "other", "seen", "others"] (defScope s_step_old) := ⟨rfl, rfl, rfl, by decide +kernel, rfl, by decide +kernel, by decide +kernel⟩
abbrev s_step_new : Stmt := top 27
theorem sc_step_new : FnScope ["worths", "deed", "other", "seen", "others"] ["worths", "deed", "other", "seen", "others"] (defScope s_step_new) := ⟨rfl, rfl, rfl, by decide +kernel, rfl, by decide +kernel, by decide +kernel⟩
abbrev s_step_left : Stmt := top 28
theorem sc_step_left : FnScope ["worths", "deed", "other", "seen", "others"] ["worths", "deed", "other", "seen", "others"] (defScope s_step_left) := ⟨rfl, rfl, rfl, by decide +kernel, rfl, by decide +kernel, by decide +kernel⟩
abbrev s_step_right : Stmt := top 29
theorem sc_step_right : FnScope ["worths", "deed", "other", "seen", "others"] ["worths", "deed", "other", "seen", "others"] (defScope s_step_right) := ⟨rfl, rfl, rfl, by decide +kernel, rfl, by decide +kernel, by decide +kernel⟩
abbrev s_check_rule : Stmt := top 32
theorem sc_check_rule : FnScope ["rule"] ["rule"] (defScope s_check_rule) := ⟨rfl, rfl, rfl, by decide +kernel, rfl, by decide +kernel, by decide +kernel⟩
abbrev s_due : Stmt := top 33
theorem sc_due : FnScope ["program", "place"] ["program", "place"] (defScope s_due) := ⟨rfl, rfl, rfl, by decide +kernel, rfl, by decide +kernel, by decide +kernel⟩
abbrev s_play : Stmt := top 34
theorem sc_play : FnScope ["rule", "memory", "left", "right", "step", "worths", "seen", "others", "beats", "place", "deed", "other"] ["rule", "memory", "left", "right"] (defScope s_play) := ⟨rfl, rfl, rfl, by decide +kernel, rfl, by decide +kernel, by decide +kernel⟩
abbrev s_run : Stmt := top 35
theorem sc_run : FnScope ["rule", "memory", "left", "right"] ["rule", "memory", "left", "right"] (defScope s_run) := ⟨rfl, rfl, rfl, by decide +kernel, rfl, by decide +kernel, by decide +kernel⟩
abbrev s_clashes : Stmt := top 36
theorem sc_clashes : FnScope ["left", "right", "beat", "deed", "other"] ["left", "right"] (defScope s_clashes) := ⟨rfl, rfl, rfl, by decide +kernel, rfl, by decide +kernel, by decide +kernel⟩
abbrev s_fitted : Stmt := top 39
theorem sc_fitted : FnScope ["left", "right", "program", "reason", "number", "deed"] ["left", "right"] (defScope s_fitted) := ⟨rfl, rfl, rfl, by decide +kernel, rfl, by decide +kernel, by decide +kernel⟩
abbrev s_shows : Stmt := top 40
theorem sc_shows : FnScope ["left", "right", "reason", "least", "ahead", "beat", "number"] ["left", "right", "reason"] (defScope s_shows) := ⟨rfl, rfl, rfl, by decide +kernel, rfl, by decide +kernel, by decide +kernel⟩
abbrev s_word_of : Stmt := top 42
theorem sc_word_of : FnScope ["deed"] ["deed"] (defScope s_word_of) := ⟨rfl, rfl, rfl, by decide +kernel, rfl, by decide +kernel, by decide +kernel⟩
abbrev s_row_of : Stmt := top 43
theorem sc_row_of : FnScope ["program", "deed"] ["program"] (defScope s_row_of) := ⟨rfl, rfl, rfl, by decide +kernel, rfl, by decide +kernel, by decide +kernel⟩
abbrev s_written : Stmt := top 44
theorem sc_written : FnScope ["left", "right"] ["left", "right"] (defScope s_written) := ⟨rfl, rfl, rfl, by decide +kernel, rfl, by decide +kernel, by decide +kernel⟩
abbrev s_check_order : Stmt := top 49
theorem sc_check_order : FnScope ["order", "left", "right"] ["order", "left", "right"] (defScope s_check_order) := ⟨rfl, rfl, rfl, by decide +kernel, rfl, by decide +kernel, by decide +kernel⟩
abbrev s_check_last : Stmt := top 50
theorem sc_check_last : FnScope ["last", "memory"] ["last", "memory"] (defScope s_check_last) := ⟨rfl, rfl, rfl, by decide +kernel, rfl, by decide +kernel, by decide +kernel⟩
abbrev s_check_few : Stmt := top 51
theorem sc_check_few : FnScope ["left", "right"] ["left", "right"] (defScope s_check_few) := ⟨rfl, rfl, rfl, by decide +kernel, rfl, by decide +kernel, by decide +kernel⟩
abbrev s_all_orders : Stmt := top 52
theorem sc_all_orders : FnScope ["left", "right", "many", "orders", "_", "order", "door"] ["left", "right"] (defScope s_all_orders) := ⟨rfl, rfl, rfl, by decide +kernel, rfl, by decide +kernel, by decide +kernel⟩
abbrev s_do_deed : Stmt := top 53
theorem sc_do_deed : FnScope ["worths", "deed", "seen"] ["worths", "deed", "seen"] (defScope s_do_deed) := ⟨rfl, rfl, rfl, by decide +kernel, rfl, by decide +kernel, by decide +kernel⟩
abbrev s_follow : Stmt := top 54
theorem sc_follow : FnScope ["memory", "left", "right", "order", "worths", "seen", "others", "place", "done", "door"] ["memory", "left", "right", "order"] (defScope s_follow) := ⟨rfl, rfl, rfl, by decide +kernel, rfl, by decide +kernel, by decide +kernel⟩
abbrev s_ordered : Stmt := top 55
theorem sc_ordered : FnScope ["memory", "left", "right", "order"] ["memory", "left", "right", "order"] (defScope s_ordered) := ⟨rfl, rfl, rfl, by decide +kernel, rfl, by decide +kernel, by decide +kernel⟩
abbrev s_explained : Stmt := top 56
theorem sc_explained : FnScope ["memory", "left", "right", "seen", "others", "last", "wanted", "order", "worth"] ["memory", "left", "right", "seen", "others", "last"] (defScope s_explained) := ⟨rfl, rfl, rfl, by decide +kernel, rfl, by decide +kernel, by decide +kernel⟩
abbrev s_outcomes : Stmt := top 57
theorem sc_outcomes : FnScope ["memory", "left", "right", "order"] ["memory", "left", "right"] (defScope s_outcomes) := ⟨rfl, rfl, rfl, by decide +kernel, rfl, by decide +kernel, by decide +kernel⟩
abbrev s_all_memories : Stmt := top 59
theorem sc_all_memories : FnScope ["cells", "memories", "_", "memory", "worth"] ["cells"] (defScope s_all_memories) := ⟨rfl, rfl, rfl, by decide +kernel, rfl, by decide +kernel, by decide +kernel⟩
abbrev s_outcome : Stmt := top 60
theorem sc_outcome : FnScope ["rule", "memory", "left", "right", "seen", "others", "last", "_"] ["rule", "memory", "left", "right"] (defScope s_outcome) := ⟨rfl, rfl, rfl, by decide +kernel, rfl, by decide +kernel, by decide +kernel⟩
abbrev s_parting : Stmt := top 61
theorem sc_parting : FnScope ["cells", "left", "right", "first", "memory", "usual", "other"] ["cells", "left", "right"] (defScope s_parting) := ⟨rfl, rfl, rfl, by decide +kernel, rfl, by decide +kernel, by decide +kernel⟩
abbrev s_law_mix : Stmt := top 63
theorem sc_law_mix : FnScope ["_law_script", "_law_seed", "_law_mixed", "_law_cell"] ["_law_script", "_law_seed"] (defScope s_law_mix) := ⟨rfl, rfl, rfl, by decide +kernel, rfl, by decide +kernel, by decide +kernel⟩
abbrev s_law_next : Stmt := top 64
theorem sc_law_next : FnScope ["_law_h", "_law_many", "_law_at", "_law_cell"] ["_law_h", "_law_many"] (defScope s_law_next) := ⟨rfl, rfl, rfl, by decide +kernel, rfl, by decide +kernel, by decide +kernel⟩
abbrev s_law_deed : Stmt := top 65
theorem sc_law_deed : FnScope ["_law_h", "_law_cells", "_law_cell"] ["_law_h", "_law_cells"] (defScope s_law_deed) := ⟨rfl, rfl, rfl, by decide +kernel, rfl, by decide +kernel, by decide +kernel⟩
abbrev s_law_program : Stmt := top 66
theorem sc_law_program : FnScope ["_law_h", "_law_cells", "_law_most", "_law_k"] ["_law_h", "_law_cells", "_law_most"] (defScope s_law_program) := ⟨rfl, rfl, rfl, by decide +kernel, rfl, by decide +kernel, by decide +kernel⟩
abbrev s_law_memory : Stmt := top 67
theorem sc_law_memory : FnScope ["_law_h", "_law_cells", "_law_k"] ["_law_h", "_law_cells"] (defScope s_law_memory) := ⟨rfl, rfl, rfl, by decide +kernel, rfl, by decide +kernel, by decide +kernel⟩
abbrev s_law_kind : Stmt := top 68
theorem sc_law_kind : FnScope ["_law_work", "e", "_law_kinds"] ["_law_work"] (defScope s_law_kind) := ⟨rfl, rfl, rfl, by decide +kernel, rfl, by decide +kernel, by decide +kernel⟩
abbrev s_law_odd : Stmt := top 69
theorem sc_law_odd : FnScope ["_law_h", "_law_cells", "_law_far", "_law_some"] ["_law_h", "_law_cells"] (defScope s_law_odd) := ⟨rfl, rfl, rfl, by decide +kernel, rfl, by decide +kernel, by decide +kernel⟩
abbrev s_law_bad : Stmt := top 70
theorem sc_law_bad : FnScope ["_law_h", "_law_cells", "_law_program_here", "_law_at"] ["_law_h", "_law_cells", "_law_program_here"] (defScope s_law_bad) := ⟨rfl, rfl, rfl, by decide +kernel, rfl, by decide +kernel, by decide +kernel⟩
abbrev s_law_small : Stmt := top 71
theorem sc_law_small : FnScope ["_law_memory_here", "_law_left", "_law_right", "_law_works"] ["_law_memory_here", "_law_left", "_law_right"] (defScope s_law_small) := ⟨rfl, rfl, rfl, by decide +kernel, rfl, by decide +kernel, by decide +kernel⟩
abbrev s_law_large : Stmt := top 72
theorem sc_law_large : FnScope ["_law_left", "_law_right", "_law_works"] ["_law_left", "_law_right"] (defScope s_law_large) := ⟨rfl, rfl, rfl, by decide +kernel, rfl, by decide +kernel, by decide +kernel⟩
abbrev s_law_are : Stmt := top 73
theorem sc_law_are : FnScope ["_law_works", "_law_word", "_law_work"] ["_law_works", "_law_word"] (defScope s_law_are) := ⟨rfl, rfl, rfl, by decide +kernel, rfl, by decide +kernel, by decide +kernel⟩
abbrev s_law_counts_right : Stmt := top 74
theorem sc_law_counts_right : FnScope ["_law_memory_here", "_law_far", "_law_few", "_law_words", "_law_odd_here", "_law_other", "_law_rests"] ["_law_memory_here", "_law_far"] (defScope s_law_counts_right) := ⟨rfl, rfl, rfl, by decide +kernel, rfl, by decide +kernel, by decide +kernel⟩
abbrev s_law_orders_right : Stmt := top 75
theorem sc_law_orders_right : FnScope ["_law_h", "_law_memory_here", "_law_left", "_law_right", "_law_order", "_law_some", "_law_odd_here", "_law_one"] ["_law_h", "_law_memory_here", "_law_left", "_law_right"] (defScope s_law_orders_right) := ⟨rfl, rfl, rfl, by decide +kernel, rfl, by decide +kernel, by decide +kernel⟩
abbrev s_law : Stmt := top 76
theorem sc_law : FnScope ["_law_script", "_law_h", "_law_turn", "_law_cells", "_law_memory_here", "_law_left", "_law_right", "_law_bad_here", "_law_at"] ["_law_script"] (defScope s_law) := ⟨rfl, rfl, rfl, by decide +kernel, rfl, by decide +kernel, by decide +kernel⟩
local macro_rules | `(tactic| walk_at "sq") => `(tactic| first | assumption | exact SqL.of (by assumption) | exact SqT.of (by assumption))
local macro_rules | `(tactic| walk_at "at") => `(tactic| first | assumption | exact rfl | exact atI_nat (by assumption))
local macro_rules | `(tactic| walk_at "ea") => `(tactic| first
  | (with_reducible exact ea_nil)
  | ((with_reducible apply ea_cons); (· walk_at "ev"); (· walk_at "ea"))
  | assumption)
local macro_rules | `(tactic| walk_at "rc") => `(tactic| first
  | assumption
  | ((apply rc_lenL); (· walk_at "sq"))
  | ((apply rc_lenT); (· walk_at "sq"))
  | ((with_reducible apply rc_isiB); (· first | exact tys_int | exact tys_str | exact tys_bl | exact tys_non | exact tys_tup (by walk_at "sq") | exact tys_lst (by walk_at "sq") | assumption); (· decide +kernel))
  | (exact rc_max))
local macro_rules | `(tactic| walk_at "rv") => `(tactic| first
  | assumption
  | (with_reducible exact rv_I0)
  | ((with_reducible apply rv_eq); (· exact rfl))
  | ((with_reducible apply rv_ne); (· exact rfl))
  | ((with_reducible apply rv_ixT); (· walk_at "sq"); (· walk_at "at"))
  | ((with_reducible apply rv_ixL); (· walk_at "sq"); (· walk_at "at"))
  | ((with_reducible apply rv_I); (· first | assumption | decide | omega | exact Or.inr ⟨by decide, by decide⟩ | exact Or.inl ⟨by decide, by decide⟩ | exact ⟨by decide, by decide, by decide⟩ | exact ⟨by omega, by omega⟩ | exact Or.inl ⟨by omega, by omega⟩ | exact Or.inr ⟨by omega, by omega⟩)))
local macro_rules | `(tactic| walk_at "ev") => `(tactic| first
  | (with_reducible exact ev_c)
  | ((with_reducible apply ev_var); (· exact rfl))
  | assumption
  | ((with_reducible apply ev_op); (· walk_at "ev"); (· walk_at "ev"); (· walk_at "rv"))
  | ((with_reducible apply ev_cb); (· walk_at "ea"); (· walk_at "rc"))
  | ((with_reducible apply ev_call); (· walk_at "ea"); (· assumption))
  | exact ev_c)

section
variable {P : Program} {w : World} {K : PySem.W.Frag} {mg : Str → Option Value} {base : Heap}
def sp_is_whole : Sp := spF 1 fun vs _ v => ∃ i : Int, vs = [.int i] ∧ v = .bl true
theorem sp_is_whole_v {H : Hp} {i : Int} : SpV sp_is_whole [.int i] H (.bl true) := spF_v rfl fun _ _ => ⟨i, rfl, rfl⟩
theorem d_is_whole (T : Nb mg) (h : Has K mg "is_whole" s_is_whole) : Dn P w K mg base CX0 "is_whole" ["value"] 1 sp_is_whole := by
  refine dn_of h (fun f fd F => F.binds fun _ _ _ _ _ _ us hl => match us, hl with | [_], _ => rfl) fun f fd F _ => F.ok sc_is_whole (fun vs H Q E h => h.1) (fun cdv A outer s H vs Q E hr h => ?_)
  obtain ⟨_, v, ⟨i, rfl, rfl⟩, k⟩ := h
  refine ⟨_, (pss_one (ps_ret (pe_and (pe_callB (call_isiK2 K) (by rfl) T.n_isinstance PyProof.Rows.boot_isinstance (pa_cons (pv 0) (pa_cons (pe_bltn (v := .ty "int") rfl T.n_int PyProof.Rows.boot_int rfl) pa_nil))) (pe_one (pe_not (pe_callB (call_isiK2 K) (by rfl) T.n_isinstance PyProof.Rows.boot_isinstance (pa_cons (pv 0) (pa_cons (pe_bltn (v := .ty "bool") rfl T.n_bool PyProof.Rows.boot_bool rfl) pa_nil)))))))), ?_⟩
  exact s_ret (v := .bl true) (ev_is (ev_andV (a := true) (b := true) (by walk_at "ev") (fun _ => ev_is (ev_notV (a := false) (by walk_at "ev")) rfl)) rfl) fun H1 f1 => k H1 f1

def sp_is_cell : Sp := spF 2 fun vs _ v => ∃ i n : Int, vs = [.int i, .int n] ∧ v = .bl (decide (0 ≤ i ∧ i < n))
theorem sp_is_cell_v {H : Hp} {i n : Int} : SpV sp_is_cell [.int i, .int n] H (.bl (decide (0 ≤ i ∧ i < n))) := spF_v rfl fun _ _ => ⟨i, n, rfl, rfl⟩
theorem d_is_cell (D_is_whole : Dn P w K mg base CX0 "is_whole" ["value"] 1 sp_is_whole) (h : Has K mg "is_cell" s_is_cell) : Dn P w K mg base CX0 "is_cell" ["value", "cells"] 2 sp_is_cell := by
  refine dn_of h (fun f fd F => F.binds fun _ _ _ _ _ _ us hl => match us, hl with | [_, _], _ => rfl) fun f fd F _ => F.ok sc_is_cell (fun vs H Q E h => h.1) (fun cdv A outer s H vs Q E hr h => ?_)
  obtain ⟨_, v, ⟨i, n, rfl, rfl⟩, k⟩ := h
  refine ⟨_, (pss_one (ps_ret (pe_and (pe_dn D_is_whole hr (by omega) pass0 (pa_cons (pv 0) pa_nil)) (pe_one (pe_chain op_le op_lt pe_int (pv 0) (pv 1)))))), ?_⟩
  have c := @sp_is_whole_v H i
  exact s_ret (v := .bl (decide (0 ≤ i ∧ i < n))) (ev_is (ev_andV (a := true) (b := decide (0 ≤ i) && decide (i < n)) (by walk_at "ev") (fun _ => ev_chain (by walk_at "ev") (by walk_at "ev") rv_I0 (fun _ => by walk_at "ev") (fun _ => rv_I0))) (by rw [Bool.true_and, ← Bool.decide_and])) fun H1 f1 => k H1 f1

def sp_is_worth : Sp := spF 1 fun vs _ v => ∃ i : Int, vs = [.int i] ∧ v = .bl (decide (0 ≤ i ∧ i < 3))
theorem sp_is_worth_v {H : Hp} {i : Int} : SpV sp_is_worth [.int i] H (.bl (decide (0 ≤ i ∧ i < 3))) := spF_v rfl fun _ _ => ⟨i, rfl, rfl⟩
theorem d_is_worth {aREST aWORTHS : Addr} {t4 t40 : Tok} (G : TxP K mg aREST aWORTHS t4 t40) (D_is_whole : Dn P w K mg base CX0 "is_whole" ["value"] 1 sp_is_whole) (h : Has K mg "is_worth" s_is_worth) : Dn P w K mg base CX0 "is_worth" ["value"] 2 sp_is_worth := by
  refine dn_of h (fun f fd F => F.binds fun _ _ _ _ _ _ us hl => match us, hl with | [_], _ => rfl) fun f fd F _ => F.ok sc_is_worth (fun vs H Q E h => h.1) (fun cdv A outer s H vs Q E hr h => ?_)
  obtain ⟨_, v, ⟨i, rfl, rfl⟩, k⟩ := h
  refine ⟨_, (pss_one (ps_ret (pe_and (pe_dn D_is_whole hr (by omega) pass0 (pa_cons (pv 0) pa_nil)) (pe_one (pe_cmpR (op_in_seqK K) (pv 0) (pe_glob (v := .ref aWORTHS) rfl G.g_WORTHS rfl) (by rfl)))))), ?_⟩
  have c := @sp_is_whole_v H i
  exact s_ret (v := .bl (decide (0 ≤ i ∧ i < 3))) (ev_is (ev_andV (a := true) (b := inV (.int i) [.int 0, .int 1, .int 2]) (by walk_at "ev") (fun _ => ev_op (by walk_at "ev") (by walk_at "ev") (rv_isT (G.WORTHS H) rfl rfl))) (by rw [Bool.true_and, in_worths])) fun H1 f1 => k H1 f1

/-- is it a deed: of any tuple of a text and whole numbers -/
def sp_is_deedR (K : PySem.W.Frag) : Sp := spF 2 fun vs H v => ∃ (a : V) (d : Raw) (n : Int), vs = [a, .int n] ∧ RV K H a d ∧ d.ok ∧ v = .bl (isD n d)
theorem sp_is_deedR_v {H : Hp} {a : V} {d : Raw} {n : Int} (h : RV K H a d) (ho : d.ok) : SpV (sp_is_deedR K) [a, .int n] H (.bl (isD n d)) := spF_v rfl fun _ f => ⟨a, d, n, rfl, by obtain ⟨b, h1, h2⟩ := h; exact ⟨b, h1, ex_t f h2⟩, ho, rfl⟩
theorem d_is_deedR {aREST aWORTHS : Addr} {t4 t40 : Tok} (T : Nb mg) (G : TxP K mg aREST aWORTHS t4 t40) (D_is_cell : Dn P w K mg base CX0 "is_cell" ["value", "cells"] 2 sp_is_cell) (D_is_worth : Dn P w K mg base CX0 "is_worth" ["value"] 2 sp_is_worth)
    (h : Has K mg "is_deed" s_is_deed) : Dn P w K mg base CX0 "is_deed" ["deed", "cells"] 3 (sp_is_deedR K) := by
  refine dn_of h (fun f fd F => F.binds fun _ _ _ _ _ _ us hl => match us, hl with | [_, _], _ => rfl) fun f fd F _ => F.ok sc_is_deed (fun vs H Q E h => h.1) (fun cdv A outer s H vs Q E hr h => ?_)
  obtain ⟨_, v, ⟨_, d, n, rfl, ⟨a, rfl, h1⟩, ho, rfl⟩, k⟩ := h
  refine ⟨_, (pss_cons (ps_if (PW.pt (pw_or (pt_not (pt_val (pe_callB (call_isiK2 K) (by rfl) T.n_isinstance PyProof.Rows.boot_isinstance (pa_cons (pv 0) (pa_cons (pe_bltn (v := .ty "tuple") rfl T.n_tuple PyProof.Rows.boot_tuple rfl) pa_nil))))) (pw_or1 (pt_cmpR op_eq (pe_callB (call_len_seqK K) (by rfl) T.n_len PySem.boot_len (pa_cons (pv 0) pa_nil)) pe_int (nomark _))))) (pss_one (ps_ret pe_bl)) pss_nil)
    (pss_cons (ps_if (pt_cmpR op_eq (pe_ix (ix_tupK K) (pv 0) pe_int (fun _ _ => rfl)) pe_str (nomark _)) (pss_one (ps_ret (pe_and (pe_cmpR op_eq (pe_callB (call_len_seqK K) (by rfl) T.n_len PySem.boot_len (pa_cons (pv 0) pa_nil)) pe_int (nomark _)) (pe_one (pe_dn D_is_cell hr (by omega) pass0 (pa_cons (pe_ix (ix_tupK K) (pv 0) pe_int (fun _ _ => rfl)) (pa_cons (pv 1) pa_nil))))))) pss_nil)
    (pss_cons (ps_if (pt_cmpR op_eq (pe_ix (ix_tupK K) (pv 0) pe_int (fun _ _ => rfl)) pe_str (nomark _)) (pss_one (ps_ret (pe_and (pe_cmpR op_eq (pe_callB (call_len_seqK K) (by rfl) T.n_len PySem.boot_len (pa_cons (pv 0) pa_nil)) pe_int (nomark _)) (pe_and (pe_dn D_is_cell hr (by omega) pass0 (pa_cons (pe_ix (ix_tupK K) (pv 0) pe_int (fun _ _ => rfl)) (pa_cons (pv 1) pa_nil))) (pe_one (pe_dn D_is_worth hr (by omega) pass0 (pa_cons (pe_ix (ix_tupK K) (pv 0) pe_int (fun _ _ => rfl)) pa_nil))))))) pss_nil)
    (pss_one (ps_ret (pe_cmpR (op_eqDK K rfl hr.units) (pv 0) (pe_glob (v := .ref aREST) rfl G.g_REST rfl) (nomark _))))))), ?_⟩
  match d, h1, ho, k with
  | none, h1, _, k =>
    have h1 : SqT K H a [] := h1
    refine q_when (b := true) (et_is (et_or (a := false) (b := true) (et_not (a := true) (et_B (ev_cb (ea_cons (ev_var rfl) (ea_cons ev_c ea_nil)) (rc_isiB (tys_tup h1) (by decide +kernel))))) (fun _ => et_test (ev_is (ev_op (x := .int (([] : List V).length : Nat)) (y := .int 0) (ev_cb (ea_cons (ev_var (v := .ref a) rfl) ea_nil) (rc_lenT h1)) ev_c (rv_eq rfl)) rfl))) rfl) (fun _ H1 f1 => ?_) (fun z => nomatch z)
    exact s_ret (v := .bl false) ev_c fun H2 f2 => k H2 (f1.trans f2)
  | some (t, is), h1, ho, k =>
    have h1 : SqT K H a (.str t :: is.map V.int) := h1
    have ho : PyData.strOk t = true := ho
    refine q_when (b := false) (et_is (et_or (a := false) (b := false) (et_not (a := true) (et_B (ev_cb (ea_cons (ev_var rfl) (ea_cons ev_c ea_nil)) (rc_isiB (tys_tup h1) (by decide +kernel))))) (fun _ => et_is (et_test (ev_op (x := .int (((V.str t :: is.map V.int).length : Nat) : Int)) (y := .int 0) (ev_cb (ea_cons (ev_var rfl) ea_nil) (rc_lenT h1)) (by walk_at "ev") (rv_eq rfl))) (decide_eq_false fun z => by have z := V.int.inj z; simp at z; omega))) rfl) (fun z => nomatch z) (fun _ H1 f1 => ?_)
    have g1 := ex_t f1 h1
    refine q_when (b := decide (t = "read")) (et_is (et_test (ev_op (x := .str t) (y := .str "read") (ev_op (x := .ref a) (y := .int (0 : Nat)) (ev_var rfl) ev_c (rv_ixT g1 (atI_nat (j := 0) rfl))) ev_c (rv_eq rfl))) (decide_eq_decide.mpr ⟨fun z => V.str.inj z, fun z => by rw [z]⟩)) (fun hb H2 f2 => ?_) (fun hb H2 f2 => ?_)
    · have ht : t = "read" := of_decide_eq_true hb
      have g2 := ex_t f2 g1
      have e : isD n (some (t, is)) = isRd n is := by show (if t = "read" then _ else _) = _; rw [if_pos ht]
      rw [e] at k
      by_cases hl : is.length = 1
      · obtain ⟨c, rfl⟩ : ∃ c, is = [c] := List.length_eq_one_iff.mp hl
        have q := @sp_is_cell_v H2 c n
        exact s_ret (v := .bl (decide (0 ≤ c ∧ c < n))) (ev_is (ev_andV (a := true) (b := decide (0 ≤ c ∧ c < n)) (ev_is (ev_op (ev_cb (ea_cons (ev_var rfl) ea_nil) (rc_lenT g2)) ev_c (rv_eq rfl)) rfl) (fun _ => ev_call (ea_cons (ev_op (ev_var rfl) ev_c (rv_ixT g2 rfl)) (ea_cons (ev_var rfl) ea_nil)) q)) (by rw [Bool.true_and])) fun H3 f3 => k H3 ((f1.trans f2).trans f3)
      · have e2 := isRd_no (n := n) hl
        rw [e2] at k
        exact s_ret (v := .bl false) (ev_is (ev_andV (a := false) (b := false) (ev_is (ev_op (x := .int (((V.str t :: is.map V.int).length : Nat) : Int)) (y := .int 2) (ev_cb (ea_cons (ev_var rfl) ea_nil) (rc_lenT g2)) ev_c (rv_eq rfl)) (by
          congr 1
          refine decide_eq_false fun z => ?_
          have z := V.int.inj z
          rw [List.length_cons, List.length_map] at z
          omega)) (fun z => nomatch z)) rfl) fun H3 f3 => k H3 ((f1.trans f2).trans f3)
    have nr : ¬ t = "read" := of_decide_eq_false hb
    have g2 := ex_t f2 g1
    refine q_when (b := decide (t = "write")) (et_is (et_test (ev_op (x := .str t) (y := .str "write") (ev_op (x := .ref a) (y := .int (0 : Nat)) (ev_var rfl) ev_c (rv_ixT g2 (atI_nat (j := 0) rfl))) ev_c (rv_eq rfl))) (decide_eq_decide.mpr ⟨fun z => V.str.inj z, fun z => by rw [z]⟩)) (fun hb2 H3 f3 => ?_) (fun hb2 H3 f3 => ?_)
    · have ht : t = "write" := of_decide_eq_true hb2
      have g3 := ex_t f3 g2
      have e : isD n (some (t, is)) = isWr n is := by show (if t = "read" then _ else if t = "write" then _ else _) = _; rw [if_neg nr, if_pos ht]
      rw [e] at k
      by_cases hl : is.length = 2
      · obtain ⟨c, w', rfl⟩ : ∃ c w', is = [c, w'] := by
          match is, hl with
          | [c, w'], _ => exact ⟨c, w', rfl⟩
        have q := @sp_is_cell_v H3 c n
        have q2 := @sp_is_worth_v H3 w'
        exact s_ret (v := .bl (decide (0 ≤ c ∧ c < n) && decide (0 ≤ w' ∧ w' < 3))) (ev_is (ev_andV (a := true) (b := decide (0 ≤ c ∧ c < n) && decide (0 ≤ w' ∧ w' < 3)) (ev_is (ev_op (ev_cb (ea_cons (ev_var rfl) ea_nil) (rc_lenT g3)) ev_c (rv_eq rfl)) rfl) (fun _ => ev_andV (ev_call (ea_cons (ev_op (ev_var rfl) ev_c (rv_ixT g3 rfl)) (ea_cons (ev_var rfl) ea_nil)) q) (fun _ => ev_call (ea_cons (ev_op (ev_var rfl) ev_c (rv_ixT g3 rfl)) ea_nil) q2))) (by rw [Bool.true_and])) fun H4 f4 => k H4 (((f1.trans f2).trans f3).trans f4)
      · have e2 := isWr_no (n := n) hl
        rw [e2] at k
        exact s_ret (v := .bl false) (ev_is (ev_andV (a := false) (b := false) (ev_is (ev_op (x := .int (((V.str t :: is.map V.int).length : Nat) : Int)) (y := .int 3) (ev_cb (ea_cons (ev_var rfl) ea_nil) (rc_lenT g3)) ev_c (rv_eq rfl)) (by
          congr 1
          refine decide_eq_false fun z => ?_
          have z := V.int.inj z
          rw [List.length_cons, List.length_map] at z
          omega)) (fun z => nomatch z)) rfl) fun H4 f4 => k H4 (((f1.trans f2).trans f3).trans f4)
    · have nw : ¬ t = "write" := of_decide_eq_false hb2
      have g3 := ex_t f3 g2
      have e : isD n (some (t, is)) = decide (t = "rest" ∧ is = []) := by show (if t = "read" then _ else if t = "write" then _ else _) = _; rw [if_neg nr, if_neg nw]
      rw [e] at k
      exact s_ret (v := .bl (decide (t = "rest" ∧ is = []))) (ev_is (ev_op (x := .ref a) (y := .ref aREST) (ev_var rfl) ev_c (rv_eqD (n := 1) (m := 1) (.tup g3 (dpa_raw (some (t, is)))) (DV.dp (d := .rs) ⟨_, rfl, G.REST _⟩) (sh_raw ho) (Deed.sh _) (by decide) (by decide))) (by rw [eqv_raw])) fun H4 f4 => k H4 (((f1.trans f2).trans f3).trans f4)

def s_BadProgram_init : Stmt := clsAt (top 3) 0
theorem sc_BadProgram_init : FnScope ["self", "door", "place"] ["self", "door", "place"] (defScope s_BadProgram_init) := ⟨rfl, rfl, rfl, by decide +kernel, rfl, by decide +kernel, by decide +kernel⟩
theorem d_BadProgram_init {D : Addr} (B : BaseX K mg D) {f : Addr} {fd : FuncData} (F : Fun K "__init__" "BadProgram.__init__" s_BadProgram_init f fd) : FnOk P w K mg base CX0 1 f fd ["self", "door", "place"] (sp_init K "door" "place") := by
  refine F.ok sc_BadProgram_init (fun vs H Q E h => ?_) (fun cdv A outer s H vs Q E hr h => ?_)
  · obtain ⟨_, _, _, _, rfl, _⟩ := h
    rfl
  obtain ⟨a, C, r, p, rfl, hr1, hp1, T, n1, n2, ha, k⟩ := h
  refine ⟨_, (pss_cons (ps_expr (pe_deinit B (by rfl) (pa_cons (pv 0) (pa_cons (pe_joined (.cons pe_str (.cons (pe_fmt (pv 1)) (.cons pe_str (.cons (pe_fmt (pv 2)) .nil))))) pa_nil))))
    (pss_cons (ps_ost (pv 0) (pv 1)) (pss_one (ps_ost (pv 0) (pv 2))))), ?_⟩
  have lr := num_len hr1
  have lp := num_len hp1
  have sz : ∀ n : Nat, n ≤ 10000 → n ≤ sizeLine := fun n hn => Nat.le_trans hn (by decide)
  refine ⟨_, rfl, "door ", rfl, by decide +kernel, _, rfl, .inr ⟨(r : Int), rfl, log1000 hr1, _, rfl, ?_, ": no deed of a program at place ", rfl, ?_, _, rfl, .inr ⟨(p : Int), rfl, log1000 hp1, _, rfl, ?_, a, C, [_], rfl, by simp, T, ha, ?_⟩⟩⟩
  · have e1 : (Str.empty ++ ("door " : Str)).length = 5 := by decide +kernel
    rw [app_len, e1]
    exact sz _ (by omega)
  · have e1 : (Str.empty ++ ("door " : Str)).length = 5 := by decide +kernel
    have e2 : (": no deed of a program at place " : Str).length = 32 := by decide +kernel
    rw [app_len, app_len, e1, e2]
    exact sz _ (by omega)
  · have e1 : (Str.empty ++ ("door " : Str)).length = 5 := by decide +kernel
    have e2 : (": no deed of a program at place " : Str).length = 32 := by decide +kernel
    rw [app_len, app_len, app_len, e1, e2]
    exact sz _ (by omega)
  refine ⟨_, rfl, _, rfl, a, C, rfl, T, n1, .inl ⟨ha, fun dx ndx ne => ?_⟩⟩
  refine ⟨_, rfl, _, rfl, a, C, rfl, T, n2, .inr ⟨dx, [("door", .int (r : Int))], upd_same, by rw [upd_ne ne]; exact upd_same, by show 1 ≤ 900; decide, ?_⟩⟩
  refine k dx _ ndx ne ?_
  funext b
  unfold upd
  by_cases h1 : b = dx
  · subst h1
    simp [ne]
  · by_cases h2 : b = a
    · subst h2
      simp [h1]
    · simp [h1, h2]

/-- the checks, that let by or refuse -/
def sp_check_cellsX (Z : Cls) : Sp := fun vs H Q E => ∃ n : Int, vs = [.int n] ∧ Ends Z H (if 1 ≤ n ∧ n ≤ 4 then none else some .mem) (fun _ H' => Q .non H') E
theorem d_check_cellsX {aREST aWORTHS : Addr} {t4 t40 : Tok} {Z : Cls} (G : TxP K mg aREST aWORTHS t4 t40) (V_BadMemory : PlnX K mg "BadMemory" Z.mem) (D_is_whole : Dn P w K mg base CX0 "is_whole" ["value"] 1 sp_is_whole) (h : Has K mg "check_cells" s_check_cells) : Dn P w K mg base (L2.CX P w) "check_cells" ["cells"] 2 (sp_check_cellsX Z) := by
  refine dn_of h (fun f fd F => F.binds fun _ _ _ _ _ _ us hl => match us, hl with | [_], _ => rfl) fun f fd F _ => F.okX sc_check_cells (fun vs H Q E h => ?_) (fun cdv A outer s H vs Q E hr h => ?_)
  · obtain ⟨_, rfl, _⟩ := h
    rfl
  obtain ⟨n, rfl, k⟩ := h
  refine ⟨_, (pss_one (ps_if (PW.pt (pw_or (pt_not (pt_val (pe_dn D_is_whole hr (by omega) pass0 (pa_cons (pv 0) pa_nil)))) (pw_or1 (pt_not (pt_chain op_le op_le pe_int (pv 0) (pe_glob (v := .int 4) rfl G.g_MOST_CELLS ⟨_, rfl⟩)))))) (pss_one (ps_raise rfl (takes_of rfl rfl rfl rfl) (pmk_ownA PySem.F.excBase_ValueError V_BadMemory.q V_BadMemory.gC V_BadMemory.kp (raises_own V_BadMemory.sub V_BadMemory.ty) (by rfl) (pa_cons pe_str pa_nil)))) pss_nil)), ?_⟩
  have c := @sp_is_whole_v H n
  refine s_if (b := !decide (1 ≤ n ∧ n ≤ 4)) (et_is (et_or (a := false) (b := !decide (1 ≤ n ∧ n ≤ 4)) (et_not (a := true) (et_B (by walk_at "ev"))) (fun _ => et_is (et_not (et_test (ev_chain (a := decide (1 ≤ n)) (b := decide (n ≤ 4)) (by walk_at "ev") (by walk_at "ev") rv_I0 (fun _ => by walk_at "ev") (fun _ => rv_I0)))) (by rw [← Bool.decide_and]))) rfl) (fun hb H1 f1 => ?_) (fun hb H1 f1 => ?_)
  · have hn : ¬ (1 ≤ n ∧ n ≤ 4) := fun z => by rw [decide_eq_true z] at hb; cases hb
    rw [if_neg hn] at k
    exact ⟨by show 1 ≤ sizeLine; decide, k H1 f1⟩
  · have hn : 1 ≤ n ∧ n ≤ 4 := Decidable.byContradiction fun z => by rw [decide_eq_false z] at hb; cases hb
    rw [if_pos hn] at k
    exact k .non H1 f1
def sp_check_memoryX (K : PySem.W.Frag) (Z : Cls) : Sp := fun vs H Q E => ∃ (a : Addr) (is : List Int), vs = [.ref a] ∧ SqT K H a (is.map V.int) ∧ is.length ≤ 1000 ∧ Ends Z H (refM is) (fun _ H' => Q .non H') E
theorem d_check_memoryX {Z : Cls} (T : Nb mg) (V_BadMemory : PlnX K mg "BadMemory" Z.mem) (D_check_cells : Dn P w K mg base (L2.CX P w) "check_cells" ["cells"] 2 (sp_check_cellsX Z)) (D_is_worth : Dn P w K mg base CX0 "is_worth" ["value"] 2 sp_is_worth) (h : Has K mg "check_memory" s_check_memory) :
    Dn P w K mg base (L2.CX P w) "check_memory" ["memory"] 3 (sp_check_memoryX K Z) := by
  refine dn_of h (fun f fd F => F.binds fun _ _ _ _ _ _ us hl => match us, hl with | [_], _ => rfl) fun f fd F _ => F.okX sc_check_memory (fun vs H Q E h => ?_) (fun cdv A outer s H vs Q E hr h => ?_)
  · obtain ⟨_, _, rfl, _⟩ := h
    rfl
  obtain ⟨a, is, rfl, h0, hz, k⟩ := h
  refine ⟨_, (pss_cons (ps_if (pt_not (pt_val (pe_callB (call_isiK2 K) (by rfl) T.n_isinstance PyProof.Rows.boot_isinstance (pa_cons (pv 0) (pa_cons (pe_bltn (v := .ty "tuple") rfl T.n_tuple PyProof.Rows.boot_tuple rfl) pa_nil))))) (pss_one (ps_raise rfl (takes_of rfl rfl rfl rfl) (pmk_ownA PySem.F.excBase_ValueError V_BadMemory.q V_BadMemory.gC V_BadMemory.kp (raises_own V_BadMemory.sub V_BadMemory.ty) (by rfl) (pa_cons pe_str pa_nil)))) pss_nil)
    (pss_cons (ps_expr (pe_dnS D_check_cells hr (by omega) (fun σ => passAt (takes_of rfl rfl rfl rfl) σ) (pa_cons (pe_callB (call_len_seqK K) (by rfl) T.n_len PySem.boot_len (pa_cons (pv 0) pa_nil)) pa_nil)))
    (pss_one (ps_for (passes_of rfl) rfl (pi_tup (pv 0)) (pg_name (i := 1) sc_check_memory.nd rfl (Or.inl rfl))
      (pss_one (ps_if (pt_not (pt_val (pe_dn D_is_worth hr (by omega) pass0 (pa_cons (pv 1) pa_nil)))) (pss_one (ps_raise rfl (takes_of rfl rfl rfl rfl) (pmk_ownA PySem.F.excBase_ValueError V_BadMemory.q V_BadMemory.gC V_BadMemory.kp (raises_own V_BadMemory.sub V_BadMemory.ty) (by rfl) (pa_cons pe_str pa_nil)))) pss_nil)))))), ?_⟩
  refine q_when (b := false) (et_is (et_not (a := true) (et_B (by walk_at "ev"))) rfl) (fun z => nomatch z) (fun _ H1 f1 => ?_)
  have g1 := ex_t f1 h0
  refine ⟨_, rfl, a, _, rfl, .inr g1, ((is.map V.int).length : Int), rfl, ?_⟩
  rw [List.length_map]
  by_cases hl : 1 ≤ is.length ∧ is.length ≤ 4
  case neg =>
    rw [if_neg (by omega)]
    unfold refM at k
    rw [if_pos (memBad_len hl)] at k
    exact fun H2 f2 => k H2 (f1.trans f2)
  rw [if_pos (by omega)]
  intro _ H2 f2
  dsimp only
  have f12 := f1.trans f2
  refine s_forT (a := a) (xs := is.map V.int) (ev_var (v := .ref a) rfl) (ex_t f2 g1) (fun j σ' H' => ∃ v, σ' = [some (.ref a), v] ∧ Ex H H' ∧ ∀ i ∈ is.take j, 0 ≤ i ∧ i < 3) (fun H3 f3 => ⟨none, rfl, f12.trans f3, fun _ z => nomatch z⟩) (fun i σ' H' _ ⟨_, _, e, _⟩ => ex_t e h0) ?_ ?_
  · rintro j x σ' H' hi ⟨v, rfl, e, ok⟩
    obtain ⟨n, hn, rfl⟩ : ∃ n, is[j]? = some n ∧ x = V.int n := by
      rw [List.getElem?_map] at hi
      cases q : is[j]? with
      | none => rw [q] at hi; cases hi
      | some n => rw [q] at hi; exact ⟨n, rfl, (Option.some.inj hi).symm⟩
    have c := @sp_is_worth_v H' n
    refine gn ?_
    dsimp only
    refine s_when (b := !decide (0 ≤ n ∧ n < 3)) (et_not (et_B (ev_call (ea_cons (ev_var (v := .int n) rfl) ea_nil) c))) (fun hb H3 f3 => ?_) (fun hb H3 f3 => ⟨_, rfl, e.trans f3, fun i hi => ?_⟩)
    · have hn3 : ¬ (0 ≤ n ∧ n < 3) := fun z => by rw [decide_eq_true z] at hb; cases hb
      unfold refM at k
      rw [if_pos (memBad_at (List.mem_of_getElem? hn) hn3)] at k
      exact ⟨by show 1 ≤ sizeLine; decide, k H3 (e.trans f3)⟩
    · have hn3 : 0 ≤ n ∧ n < 3 := Decidable.byContradiction fun z => by rw [decide_eq_false z] at hb; cases hb
      rw [List.take_add_one, hn] at hi
      rcases List.mem_append.mp hi with hi | hi
      · exact ok i hi
      · have ei : i = n := by simpa using hi
        rw [ei]
        exact hn3
  · rintro σ' H' ⟨v, rfl, e, ok⟩
    rw [List.length_map, List.take_length] at ok
    unfold refM at k
    rw [memBad_no hl ok] at k
    exact k .non H' e
/-- the first place of a program that is no deed -/
def sp_check_programX (K : PySem.W.Frag) (Z : Cls) : Sp := fun vs H Q E => ∃ (door : Nat) (p : Addr) (n : Int) (m : Nat) (us : List V) (ds : List Raw), vs = [.int door, .ref p, .int n, .int m] ∧ door < 1000 ∧ SqL K H p us ∧ RVs K H us ds ∧ ds.length ≤ 900 ∧ (∀ d ∈ ds, d.ok) ∧ Ends Z H (refP door n m ds) (fun _ H' => Q .non H') E
theorem d_check_programX {aREST aWORTHS : Addr} {t4 t40 : Tok} {D fI : Addr} {fdI : FuncData} {Z : Cls} (T : Nb mg) (G : TxP K mg aREST aWORTHS t4 t40) (X_BadProgram : OwnX K mg "BadProgram" Z.prog D fI "door" "place") (I_BadProgram : FnOk P w K mg base CX0 1 fI fdI ["self", "door", "place"] (sp_init K "door" "place")) (B_BadProgram : Binds K fdI ["self", "door", "place"] [])
    (D_is_deed : Dn P w K mg base CX0 "is_deed" ["deed", "cells"] 3 (sp_is_deedR K)) (h : Has K mg "check_program" s_check_program) : Dn P w K mg base (L2.CX P w) "check_program" ["door", "program", "cells", "most"] 4 (sp_check_programX K Z) := by
  refine dn_of h (fun f fd F => F.binds fun _ _ _ _ _ _ us hl => match us, hl with | [_, _, _, _], _ => rfl) fun f fd F _ => F.okX sc_check_program (fun vs H Q E h => ?_) (fun cdv A outer s H vs Q E hr h => ?_)
  · obtain ⟨_, _, _, _, _, _, rfl, _⟩ := h
    rfl
  obtain ⟨door, p, n, m, us, ds, rfl, hd, h1, h2, hz, ok, k⟩ := h
  refine ⟨_, (pss_cons (ps_if (pt_not (pt_val (pe_callB (call_isiK2 K) (by rfl) T.n_isinstance PyProof.Rows.boot_isinstance (pa_cons (pv 1) (pa_cons (pe_bltn (v := .ty "list") rfl T.n_list PyProof.Rows.boot_list rfl) pa_nil))))) (pss_one (ps_raise rfl (takes_of rfl rfl rfl rfl) (pmk_oex X_BadProgram.T X_BadProgram.iC X_BadProgram.tI I_BadProgram (hr.mono (by omega)) B_BadProgram .nil pass0 (by rfl) X_BadProgram.gC (pa_cons (pv 0) (pa_cons pe_int pa_nil))))) pss_nil)
    (pss_one (ps_for (passes_of rfl) rfl (pi_enum (by rfl) T.n_enumerate (pa_cons (pv 1) pa_nil)) (pg_tup rfl (pgs_cons (pg_name (i := 4) sc_check_program.nd rfl (Or.inl rfl)) (pgs_cons (pg_name (i := 5) sc_check_program.nd rfl (Or.inl rfl)) pgs_nil)))
      (pss_one (ps_if (PW.pt (pw_or (pt_cmpR op_eq (pv 4) (pv 3) (nomark _)) (pw_or1 (pt_not (pt_val (pe_dn D_is_deed hr (by omega) pass0 (pa_cons (pv 5) (pa_cons (pv 2) pa_nil)))))))) (pss_one (ps_raise rfl (takes_of rfl rfl rfl rfl) (pmk_oex X_BadProgram.T X_BadProgram.iC X_BadProgram.tI I_BadProgram (hr.mono (by omega)) B_BadProgram .nil pass0 (by rfl) X_BadProgram.gC (pa_cons (pv 0) (pa_cons (pv 4) pa_nil))))) pss_nil))))), ?_⟩
  refine q_when (b := false) (et_is (et_not (a := true) (et_B (by walk_at "ev"))) rfl) (fun z => nomatch z) (fun _ H1 f1 => ?_)
  have g1 := ex_l f1 h1
  refine ⟨_, rfl, p, us, rfl, g1, for_it walk_enum (fun i σ' H' => ∃ v w, σ' = [some (V.int door), some (.ref p), some (.int n), some (.int m), v, w] ∧ Ex H H' ∧ ∀ j d', j < i → ds[j]? = some d' → (decide (j = m) || !isD n d') = false) ⟨none, none, rfl, f1, fun _ _ z => absurd z (Nat.not_lt_zero _)⟩ (fun i σ' H' _ ⟨_, _, _, e, _⟩ => ex_l e h1) ?_ ?_⟩
  · rintro i x σ' H' H2 hi ⟨v, w, rfl, e, no⟩ ⟨q, a, b, rfl, hq, rfl, ha, hb⟩
    cases ha
    obtain ⟨d, hd', dv⟩ := h2.get hb
    have hil := (List.getElem?_eq_some_iff.mp hd').1
    have e2 := e.trans (Ex.new (o := .tup [.int (i : Int), b]) hq)
    refine ⟨q, _, rfl, SqT.of upd_same, rfl, _, _, rfl, _, _, rfl, rfl, ?_⟩
    generalize upd H' q (.tup [.int (i : Int), b]) = H3 at e2 ⊢
    dsimp only
    have dv3 : RV K H3 b d := by
      obtain ⟨a, h1, h2⟩ := dv
      exact ⟨a, h1, ex_t e2 h2⟩
    have c := sp_is_deedR_v (n := n) dv3 (ok d (List.mem_of_getElem? hd'))
    refine s_when (b := decide (i = m) || !isD n d) (et_or (et_is (et_test (ev_op (ev_var (v := .int (i : Int)) rfl) (ev_var (v := .int (m : Int)) rfl) (rv_eq rfl))) (decide_eq_decide.mpr ⟨fun z => by have := V.int.inj z; omega, fun z => by rw [z]⟩)) (fun _ => et_not (et_B (ev_call (ea_cons (ev_var (v := b) rfl) (ea_cons (ev_var rfl) ea_nil)) c)))) (fun hb2 H4 f4 => ?_) (fun hb2 H4 f4 => ⟨_, _, rfl, e2.trans f4, fun j d' hj hd2 => ?_⟩)
    · have fb := firstBad_at hd' hb2 no
      unfold refP at k
      rw [fb] at k
      have f14 := e2.trans f4
      refine ⟨_, rfl, _, rfl, by show 2 ≤ 1000; decide, fun a0 na => ⟨a0, Z.prog, door, i, rfl, hd, by omega, X_BadProgram.T, X_BadProgram.n1, X_BadProgram.n2, upd_same, fun d9 H9 nd ne e9 => ?_⟩⟩
      have nd8 : H4 d9 = none := by rw [← nd, upd_ne ne]
      refine ⟨rfl, d9, xfs "door" "place" door i, by rw [e9]; exact upd_same, by rw [e9, upd_ne ne]; exact upd_same, nd8, ?_⟩
      rw [e9, exd_init2 na ne]
      exact k d9 _ (fresh_back f14 nd8) (f14.trans (Ex.new nd8)) upd_same
    · by_cases z : j = i
      · subst z
        rw [hd'] at hd2
        cases hd2
        exact hb2
      · exact no j d' (by omega) hd2
  · rintro σ' H' ⟨v, w, rfl, e, no⟩
    unfold refP at k
    rw [firstBad_no fun j d' hd2 => no j d' (by have := (List.getElem?_eq_some_iff.mp hd2).1; have := h2.length; omega) hd2] at k
    exact k .non H' e

/-- both programs -/
def sp_check_programsX (K : PySem.W.Frag) (Z : Cls) : Sp := fun vs H Q E => ∃ (p q : Addr) (n : Int) (m : Nat) (us xs : List V) (ds es : List Raw), vs = [.ref p, .ref q, .int n, .int m] ∧ SqL K H p us ∧ RVs K H us ds ∧ ds.length ≤ 900 ∧ (∀ d ∈ ds, d.ok) ∧
  SqL K H q xs ∧ RVs K H xs es ∧ es.length ≤ 900 ∧ (∀ d ∈ es, d.ok) ∧ Ends Z H (refPP n m ds es) (fun _ H' => Q .non H') E
theorem o_check_programsX {Z : Cls} (D_check_program : Dn P w K mg base (L2.CX P w) "check_program" ["door", "program", "cells", "most"] 4 (sp_check_programX K Z)) {f : Addr} {fd : FuncData} (F : FunD K "check_programs" "check_programs" (defArgs s_check_programs) (defBody s_check_programs) (defScope s_check_programs) [.int 40] [] f fd) :
    FnOk P w K mg base (L2.CX P w) 5 f fd ["left", "right", "cells", "most"] (sp_check_programsX K Z) := by
  refine FunD.ok F sc_check_programs (fun vs H Q E h => ?_) (fun cdv A outer s H vs Q E hr h => ?_)
  · obtain ⟨_, _, _, _, _, _, _, _, rfl, _⟩ := h
    rfl
  obtain ⟨p, q, n, m, us, xs, ds, es, rfl, h1, h2, h3, h4, h5, h6, h7, h8, k⟩ := h
  refine ⟨_, (pss_cons (ps_expr (pe_dnS D_check_program hr (by omega) (fun σ => passAt (takes_of rfl rfl rfl rfl) σ) (pa_cons pe_int (pa_cons (pv 0) (pa_cons (pv 2) (pa_cons (pv 3) pa_nil))))))
    (pss_one (ps_expr (pe_dnS D_check_program hr (by omega) (fun σ => passAt (takes_of rfl rfl rfl rfl) σ) (pa_cons pe_int (pa_cons (pv 1) (pa_cons (pv 2) (pa_cons (pv 3) pa_nil)))))))), ?_⟩
  refine ⟨_, rfl, _, rfl, _, rfl, 0, p, n, m, us, ds, rfl, by decide, h1, h2, h3, h4, ?_⟩
  unfold refPP at k
  cases h0 : refP 0 n m ds with
  | some r =>
    rw [h0] at k
    match r, k with
    | .mem, k => exact k
    | .rule, k => exact k
    | .order, k => exact k
    | .many, k => exact k
    | .prog _ _, k => exact k
  | none =>
    rw [h0] at k
    intro _ H1 f1
    dsimp only
    have k : Ends Z H (refP 1 n m es) (fun _ H' => Q .non H') E := k
    exact ⟨_, rfl, _, rfl, _, rfl, 1, q, n, m, xs, es, rfl, by decide, ex_l f1 h5, h6.mono f1, h7, h8, k.back f1⟩
theorem d_check_programsX {Z : Cls} (D_check_program : Dn P w K mg base (L2.CX P w) "check_program" ["door", "program", "cells", "most"] 4 (sp_check_programX K Z)) (h : HasD K mg "check_programs" s_check_programs [.int 40]) : Dq P w K mg base (L2.CX P w) "check_programs" ["left", "right", "cells", "most"] [.int 40] 5 (sp_check_programsX K Z) :=
  dq_of (dvs := [.int 40]) 3 0 h (by simp) rfl (fun T kV doc pm an cdv ct us its h1 h2 => match us, h1, its, h2 with | [_, _, _], _, [_], _ => ⟨_, rfl, rfl⟩) fun f fd F => o_check_programsX D_check_program F
theorem d_check_programs4X {Z : Cls} (D_check_program : Dn P w K mg base (L2.CX P w) "check_program" ["door", "program", "cells", "most"] 4 (sp_check_programX K Z)) (h : HasD K mg "check_programs" s_check_programs [.int 40]) : Dq P w K mg base (L2.CX P w) "check_programs" ["left", "right", "cells", "most"] [] 5 (sp_check_programsX K Z) :=
  dq_of (dvs := [.int 40]) 4 1 h (by simp) rfl (fun T kV doc pm an cdv ct us its h1 h2 => match us, h1, its, h2 with | [_, _, _, _], _, [_], _ => ⟨_, rfl, rfl⟩) fun f fd F => o_check_programsX D_check_program F
/-- a rule, or none -/
def sp_check_ruleX (Z : Cls) : Sp := fun vs H Q E => ∃ s : Str, vs = [.str s] ∧ Ends Z H (if inV (.str s) ruleNames = true then none else some .rule) (fun _ H' => Q .non H') E
theorem d_check_ruleX {aRULES aSTEPS : Addr} {Z : Cls} (R : TxR K mg w aRULES aSTEPS) (V_BadRule : PlnX K mg "BadRule" Z.rule) (h : Has K mg "check_rule" s_check_rule) : Dn P w K mg base (L2.CX P w) "check_rule" ["rule"] 1 (sp_check_ruleX Z) := by
  refine dn_of h (fun f fd F => F.binds fun _ _ _ _ _ _ us hl => match us, hl with | [_], _ => rfl) fun f fd F _ => F.okX sc_check_rule (fun vs H Q E h => ?_) (fun cdv A outer s H vs Q E hr h => ?_)
  · obtain ⟨_, rfl, _⟩ := h
    rfl
  obtain ⟨x, rfl, k⟩ := h
  refine ⟨_, (pss_one (ps_if (pt_cmpR (op_notIn_seqK K) (pv 0) (pe_glob (v := .ref aRULES) rfl R.g_RULES rfl) (by rfl)) (pss_one (ps_raise rfl (takes_of rfl rfl rfl rfl) (pmk_ownA PySem.F.excBase_ValueError V_BadRule.q V_BadRule.gC V_BadRule.kp (raises_own V_BadRule.sub V_BadRule.ty) (by rfl) (pa_cons pe_str pa_nil)))) pss_nil)), ?_⟩
  refine s_if (b := !inV (.str x) ruleNames) (et_test (ev_op (ev_var rfl) ev_c (rv_niT (R.RULES H) rfl (by decide +kernel)))) (fun hb H1 f1 => ?_) (fun hb H1 f1 => ?_)
  · have e : inV (.str x) ruleNames = false := by simpa using hb
    rw [e, if_neg Bool.false_ne_true] at k
    exact ⟨by show 1 ≤ sizeLine; decide, k H1 f1⟩
  · have e : inV (.str x) ruleNames = true := by simpa using hb
    rw [e, if_pos rfl] at k
    exact k .non H1 f1
/-- six deeds at most -/
def sp_check_fewX (K : PySem.W.Frag) (Z : Cls) : Sp := fun vs H Q E => ∃ (p q : Addr) (us xs : List V), vs = [.ref p, .ref q] ∧ SqL K H p us ∧ SqL K H q xs ∧ Ends Z H (if us.length ≤ 6 ∧ xs.length ≤ 6 then none else some .many) (fun _ H' => Q .non H') E
theorem d_check_fewX {t6 : Tok} {Z : Cls} (T : Nb mg) (O6 : TxO6 mg t6) (V_TooMany : PlnX K mg "TooMany" Z.many) (h : Has K mg "check_few" s_check_few) : Dn P w K mg base (L2.CX P w) "check_few" ["left", "right"] 1 (sp_check_fewX K Z) := by
  refine dn_of h (fun f fd F => F.binds fun _ _ _ _ _ _ us hl => match us, hl with | [_, _], _ => rfl) fun f fd F _ => F.okX sc_check_few (fun vs H Q E h => ?_) (fun cdv A outer s H vs Q E hr h => ?_)
  · obtain ⟨_, _, _, _, rfl, _⟩ := h
    rfl
  obtain ⟨p, q, us, xs, rfl, h1, h2, k⟩ := h
  refine ⟨_, (pss_one (ps_if (PW.pt (pw_or (pt_cmpR op_gt (pe_callB (call_len_seqK K) (by rfl) T.n_len PySem.boot_len (pa_cons (pv 0) pa_nil)) (pe_glob (v := .int 6) rfl O6.g_MOST_TO_ORDER ⟨_, rfl⟩) (nomark _)) (pw_or1 (pt_cmpR op_gt (pe_callB (call_len_seqK K) (by rfl) T.n_len PySem.boot_len (pa_cons (pv 1) pa_nil)) (pe_glob (v := .int 6) rfl O6.g_MOST_TO_ORDER ⟨_, rfl⟩) (nomark _))))) (pss_one (ps_raise rfl (takes_of rfl rfl rfl rfl) (pmk_ownA PySem.F.excBase_ValueError V_TooMany.q V_TooMany.gC V_TooMany.kp (raises_own V_TooMany.sub V_TooMany.ty) (by rfl) (pa_cons pe_str pa_nil)))) pss_nil)), ?_⟩
  refine s_if (b := !decide (us.length ≤ 6 ∧ xs.length ≤ 6)) (et_is (et_or (a := decide ((6 : Int) < us.length)) (b := decide ((6 : Int) < xs.length)) (et_test (ev_is (ev_op (x := .int (us.length : Int)) (y := .int 6) (ev_cb (ea_cons (ev_var (v := .ref p) rfl) ea_nil) (rc_lenL h1)) ev_c rv_I0) rfl)) (fun _ => et_test (ev_is (ev_op (x := .int (xs.length : Int)) (y := .int 6) (ev_cb (ea_cons (ev_var (v := .ref q) rfl) ea_nil) (rc_lenL h2)) ev_c rv_I0) rfl))) (by
    rw [← Bool.decide_or, ← decide_not]
    exact decide_eq_decide.mpr (by omega))) (fun hb H1 f1 => ?_) (fun hb H1 f1 => ?_)
  · have e : ¬ (us.length ≤ 6 ∧ xs.length ≤ 6) := fun z => by rw [decide_eq_true z] at hb; cases hb
    rw [if_neg e] at k
    exact ⟨by show 1 ≤ sizeLine; decide, k H1 f1⟩
  · have e : us.length ≤ 6 ∧ xs.length ≤ 6 := Decidable.byContradiction fun z => by rw [decide_eq_false z] at hb; cases hb
    rw [if_pos e] at k
    exact k .non H1 f1
/-- the memory at last -/
def sp_check_lastX (K : PySem.W.Frag) (Z : Cls) : Sp := fun vs H Q E => ∃ (p m : Addr) (ls is : List Int), vs = [.ref p, .ref m] ∧ SqT K H p (ls.map V.int) ∧ SqT K H m (is.map V.int) ∧ ls.length ≤ 1000 ∧ Ends Z H (if memBad ls = true ∨ ls.length ≠ is.length then some .mem else none) (fun _ H' => Q .non H') E
theorem d_check_lastX {Z : Cls} (T : Nb mg) (V_BadMemory : PlnX K mg "BadMemory" Z.mem) (D_check_memory : Dn P w K mg base (L2.CX P w) "check_memory" ["memory"] 3 (sp_check_memoryX K Z)) (h : Has K mg "check_last" s_check_last) : Dn P w K mg base (L2.CX P w) "check_last" ["last", "memory"] 4 (sp_check_lastX K Z) := by
  refine dn_of h (fun f fd F => F.binds fun _ _ _ _ _ _ us hl => match us, hl with | [_, _], _ => rfl) fun f fd F _ => F.okX sc_check_last (fun vs H Q E h => ?_) (fun cdv A outer s H vs Q E hr h => ?_)
  · obtain ⟨_, _, _, _, rfl, _⟩ := h
    rfl
  obtain ⟨p, m, ls, is, rfl, h1, h2, hz, k⟩ := h
  refine ⟨_, (pss_cons (ps_expr (pe_dnS D_check_memory hr (by omega) (fun σ => passAt (takes_of rfl rfl rfl rfl) σ) (pa_cons (pv 0) pa_nil)))
    (pss_one (ps_if (pt_cmpR op_ne (pe_callB (call_len_seqK K) (by rfl) T.n_len PySem.boot_len (pa_cons (pv 0) pa_nil)) (pe_callB (call_len_seqK K) (by rfl) T.n_len PySem.boot_len (pa_cons (pv 1) pa_nil)) (nomark _)) (pss_one (ps_raise rfl (takes_of rfl rfl rfl rfl) (pmk_ownA PySem.F.excBase_ValueError V_BadMemory.q V_BadMemory.gC V_BadMemory.kp (raises_own V_BadMemory.sub V_BadMemory.ty) (by rfl) (pa_cons pe_str pa_nil)))) pss_nil))), ?_⟩
  refine ⟨_, rfl, p, ls, rfl, h1, hz, ?_⟩
  unfold refM
  by_cases hm : memBad ls = true
  · rw [if_pos hm]
    rw [if_pos (.inl hm)] at k
    exact k
  rw [if_neg hm]
  intro _ H1 f1
  dsimp only
  refine s_if (b := decide (ls.length ≠ is.length)) (et_is (et_test (ev_is (ev_op (x := .int (ls.length : Int)) (y := .int (is.length : Int)) (ev_is (ev_cb (ea_cons (ev_var (v := .ref p) rfl) ea_nil) (rc_lenT (ex_t f1 h1))) (by rw [List.length_map])) (ev_is (ev_cb (ea_cons (ev_var (v := .ref m) rfl) ea_nil) (rc_lenT (ex_t f1 h2))) (by rw [List.length_map])) (rv_ne rfl)) rfl)) (by
    rw [← decide_not]
    exact decide_eq_decide.mpr ⟨fun z e => z (by rw [e]), fun z e => z (by have := V.int.inj e; omega)⟩)) (fun hb H2 f2 => ?_) (fun hb H2 f2 => ?_)
  · rw [if_pos (.inr (of_decide_eq_true hb))] at k
    exact ⟨by show 1 ≤ sizeLine; decide, k H2 (f1.trans f2)⟩
  · rw [if_neg (fun z => z.elim hm (of_decide_eq_false hb))] at k
    exact k .non H2 (f1.trans f2)

/-- what is no order of so many deeds -/
def badOrd (s : Str) (a b : Nat) : Bool := decide (s.length ≠ a + b) || (decide (Txt.count s "l" ≠ a) || decide (Txt.count s "r" ≠ b))
def sp_check_orderX (K : PySem.W.Frag) (Z : Cls) : Sp := fun vs H Q E => ∃ (s : Str) (p q : Addr) (us xs : List V), vs = [.str s, .ref p, .ref q] ∧ SqL K H p us ∧ SqL K H q xs ∧ s.length ≤ 100000 ∧ Ends Z H (if badOrd s us.length xs.length = true then some .order else none) (fun _ H' => Q .non H') E
theorem d_check_orderX {t1 t2 : Tok} {Z : Cls} (T : Nb mg) (O : TxO mg t1 t2) (V_BadOrder : PlnX K mg "BadOrder" Z.order) (h : Has K mg "check_order" s_check_order) : Dn P w K mg base (L2.CX P w) "check_order" ["order", "left", "right"] 1 (sp_check_orderX K Z) := by
  refine dn_of h (fun f fd F => F.binds fun _ _ _ _ _ _ us hl => match us, hl with | [_, _, _], _ => rfl) fun f fd F _ => F.okX sc_check_order (fun vs H Q E h => ?_) (fun cdv A outer s H vs Q E hr h => ?_)
  · obtain ⟨_, _, _, _, _, rfl, _⟩ := h
    rfl
  obtain ⟨s, p, q, us, xs, rfl, h1, h2, hz, k⟩ := h
  refine ⟨_, (pss_cons (ps_if (PW.pt (pw_or (pt_not (pt_val (pe_callB (call_isiK2 K) (by rfl) T.n_isinstance PyProof.Rows.boot_isinstance (pa_cons (pv 0) (pa_cons (pe_bltn (v := .ty "str") rfl T.n_str PyProof.Rows.boot_str rfl) pa_nil))))) (pw_or1 (pt_cmpR op_ne (pe_callB call_len (by rfl) T.n_len PySem.boot_len (pa_cons (pv 0) pa_nil)) (pe_op op_add (pe_callB (call_len_seqK K) (by rfl) T.n_len PySem.boot_len (pa_cons (pv 1) pa_nil)) (pe_callB (call_len_seqK K) (by rfl) T.n_len PySem.boot_len (pa_cons (pv 2) pa_nil))) (nomark _))))) (pss_one (ps_raise rfl (takes_of rfl rfl rfl rfl) (pmk_ownA PySem.F.excBase_ValueError V_BadOrder.q V_BadOrder.gC V_BadOrder.kp (raises_own V_BadOrder.sub V_BadOrder.ty) (by rfl) (pa_cons pe_str pa_nil)))) pss_nil)
    (pss_one (ps_if (PW.pt (pw_or (pt_cmpR op_ne (pe_m1 PySem.F.slot_str_count PySem.F.type_str_count mt_count (pv 0) (pe_glob (v := .str "l") rfl O.g_LEFT ⟨_, rfl⟩)) (pe_callB (call_len_seqK K) (by rfl) T.n_len PySem.boot_len (pa_cons (pv 1) pa_nil)) (nomark _)) (pw_or1 (pt_cmpR op_ne (pe_m1 PySem.F.slot_str_count PySem.F.type_str_count mt_count (pv 0) (pe_glob (v := .str "r") rfl O.g_RIGHT ⟨_, rfl⟩)) (pe_callB (call_len_seqK K) (by rfl) T.n_len PySem.boot_len (pa_cons (pv 2) pa_nil)) (nomark _))))) (pss_one (ps_raise rfl (takes_of rfl rfl rfl rfl) (pmk_ownA PySem.F.excBase_ValueError V_BadOrder.q V_BadOrder.gC V_BadOrder.kp (raises_own V_BadOrder.sub V_BadOrder.ty) (by rfl) (pa_cons pe_str pa_nil)))) pss_nil))), ?_⟩
  refine q_when (b := decide (s.length ≠ us.length + xs.length)) (et_is (et_or (a := false) (b := decide (s.length ≠ us.length + xs.length)) (et_is (et_not (a := true) (et_B (by walk_at "ev"))) rfl) (fun _ => et_is (et_test (ev_op (x := .int s.length) (y := .int (us.length + xs.length)) (ev_cb (ea_cons (ev_var (v := .str s) rfl) ea_nil) (fun H1 _ Q q => ⟨_, s.length, rfl, ⟨sz_of hz, rfl⟩, q H1 (Ex.refl H1)⟩)) (ev_op (ev_cb (ea_cons (ev_var (v := .ref p) rfl) ea_nil) (rc_lenL h1)) (ev_cb (ea_cons (ev_var (v := .ref q) rfl) ea_nil) (rc_lenL h2)) rv_I0) (rv_ne rfl))) (by
    rw [← decide_not]
    exact decide_eq_decide.mpr ⟨fun z e => z (by rw [e]; simp), fun z e => z (by have := V.int.inj e; omega)⟩))) (by simp)) (fun hb H1 f1 => ?_) (fun hb H1 f1 => ?_)
  · have e : badOrd s us.length xs.length = true := by
      unfold badOrd
      rw [hb, Bool.true_or]
    rw [if_pos e] at k
    exact ⟨by show 1 ≤ sizeLine; decide, k H1 f1⟩
  have g1 := ex_l f1 h1
  have g2 := ex_l f1 h2
  have e1 : badOrd s us.length xs.length = (decide (Txt.count s "l" ≠ us.length) || decide (Txt.count s "r" ≠ xs.length)) := by
    unfold badOrd
    rw [hb, Bool.false_or]
  rw [e1] at k
  refine s_when (b := decide (Txt.count s "l" ≠ us.length) || decide (Txt.count s "r" ≠ xs.length)) (et_or (a := decide (Txt.count s "l" ≠ us.length)) (b := decide (Txt.count s "r" ≠ xs.length)) (et_is (et_test (ev_op (x := .int (Txt.count s "l")) (y := .int us.length) (ev_m1 (ev_var (v := .str s) rfl) ev_c fun H1 _ Q q => ⟨_, _, rfl, rfl, q H1 (Ex.refl H1)⟩) (ev_cb (ea_cons (ev_var (v := .ref p) rfl) ea_nil) (rc_lenL g1)) (rv_ne rfl))) (by
    rw [← decide_not]
    exact decide_eq_decide.mpr ⟨fun z e => z (by rw [e]), fun z e => z (by have := V.int.inj e; omega)⟩))
    (fun _ => et_is (et_test (ev_op (x := .int (Txt.count s "r")) (y := .int xs.length) (ev_m1 (ev_var (v := .str s) rfl) ev_c fun H1 _ Q q => ⟨_, _, rfl, rfl, q H1 (Ex.refl H1)⟩) (ev_cb (ea_cons (ev_var (v := .ref q) rfl) ea_nil) (rc_lenL g2)) (rv_ne rfl))) (by
    rw [← decide_not]
    exact decide_eq_decide.mpr ⟨fun z e => z (by rw [e]), fun z e => z (by have := V.int.inj e; omega)⟩))) (fun hc H2 f2 => ?_) (fun hc H2 f2 => ?_)
  · rw [if_pos hc] at k
    exact ⟨by show 1 ≤ sizeLine; decide, k H2 (f1.trans f2)⟩
  · rw [hc, if_neg Bool.false_ne_true] at k
    exact k .non H2 (f1.trans f2)

theorem ends_or {Z : Cls} {H : Hp} {r1 r2 : Option Rf} {Q Q1 : VK} {E : XK} (k : Ends Z H (r1.or r2) Q E) (q : r1 = none → Ends Z H r2 Q E → ∀ v H', Ex H H' → Q1 v H') : Ends Z H r1 Q1 E := by
  match r1, k with
  | none, k => exact fun v H' f => q rfl k v H' f
  | some .mem, k => exact k
  | some .rule, k => exact k
  | some .order, k => exact k
  | some .many, k => exact k
  | some (.prog _ _), k => exact k
/-- run, refused -/
def refRun (s : Str) (ls : List Int) (ds es : List Raw) : Option Rf := (if inV (.str s) ruleNames = true then none else some .rule).or ((refM ls).or (refPP ls.length 40 ds es))
def sp_runX (K : PySem.W.Frag) (Z : Cls) : Sp := fun vs H Q E => ∃ (x : Str) (m p q : Addr) (ls : List Int) (us xs : List V) (ds es : List Raw) (r : Rf), vs = [.str x, .ref m, .ref p, .ref q] ∧ SqT K H m (ls.map V.int) ∧ ls.length ≤ 1000 ∧ SqL K H p us ∧ RVs K H us ds ∧ ds.length ≤ 900 ∧ (∀ d ∈ ds, d.ok) ∧
  SqL K H q xs ∧ RVs K H xs es ∧ es.length ≤ 900 ∧ (∀ d ∈ es, d.ok) ∧ refRun x ls ds es = some r ∧ Ends Z H (some r) (fun _ _ => False) E
theorem d_runX {Z : Cls} (T : Nb mg) (D_check_rule : Dn P w K mg base (L2.CX P w) "check_rule" ["rule"] 1 (sp_check_ruleX Z)) (D_check_memory : Dn P w K mg base (L2.CX P w) "check_memory" ["memory"] 3 (sp_check_memoryX K Z)) (D_check_programs : Dq P w K mg base (L2.CX P w) "check_programs" ["left", "right", "cells", "most"] [.int 40] 5 (sp_check_programsX K Z)) (h : Has K mg "run" s_run) : Dn P w K mg base (L2.CX P w) "run" ["rule", "memory", "left", "right"] 6 (sp_runX K Z) := by
  refine dn_of h (fun f fd F => F.binds fun _ _ _ _ _ _ us hl => match us, hl with | [_, _, _, _], _ => rfl) fun f fd F _ => F.okX sc_run (fun vs H Q E h => ?_) (fun cdv A outer s H vs Q E hr h => ?_)
  · obtain ⟨_, _, _, _, _, _, _, _, _, _, rfl, _⟩ := h
    rfl
  obtain ⟨x, m, p, q, ls, us, xs, ds, es, r, rfl, hm, hz, hp, hP, hl, okl, hq, hX, hr9, okr, hr1, k⟩ := h
  rw [← hr1] at k
  refine ⟨_, (pss_cons (ps_expr (pe_dnS D_check_rule hr (by omega) (fun σ => passAt (takes_of rfl rfl rfl rfl) σ) (pa_cons (pv 0) pa_nil)))
    (pss_cons (ps_expr (pe_dnS D_check_memory hr (by omega) (fun σ => passAt (takes_of rfl rfl rfl rfl) σ) (pa_cons (pv 1) pa_nil)))
    (pss_cons (ps_expr (pe_dqS D_check_programs hr (by omega) (fun σ => passAt (takes_of rfl rfl rfl rfl) σ) (pa_cons (pv 2) (pa_cons (pv 3) (pa_cons (pe_callB (call_len_seqK K) (by rfl) T.n_len PySem.boot_len (pa_cons (pv 1) pa_nil)) pa_nil)))))
    pss_never))), ?_⟩
  refine ⟨_, rfl, x, rfl, ends_or k fun _ k _ H1 f1 => ?_⟩
  dsimp only
  refine ⟨_, rfl, m, ls, rfl, ex_t f1 hm, hz, ends_or (k.back f1) fun _ k _ H2 f2 => ?_⟩
  dsimp only
  have f12 := f1.trans f2
  refine ⟨_, rfl, _, rfl, (ea_cons (ev_is (ev_cb (ea_cons (ev_var (v := .ref m) rfl) ea_nil) (rc_lenT (ex_t f12 hm))) (by rw [List.length_map])) ea_nil) _ (Ex.refl _) _ fun H3 f3 => ?_⟩
  have f13 := f12.trans f3
  exact ⟨p, q, ls.length, 40, us, xs, ds, es, rfl, ex_l f13 hp, hP.mono f13, hl, okl, ex_l f13 hq, hX.mono f13, hr9, okr, (k.back (f2.trans f3)).imp (fun _ _ _ z => z.elim) fun _ _ _ _ z => z⟩
/-- ordered, refused -/
def refOrdered (s : Str) (ls : List Int) (ds es : List Raw) : Option Rf := (refM ls).or ((refPP ls.length 40 ds es).or (if badOrd s ds.length es.length = true then some .order else none))
def sp_orderedX (K : PySem.W.Frag) (Z : Cls) : Sp := fun vs H Q E => ∃ (x : Str) (m p q : Addr) (ls : List Int) (us xs : List V) (ds es : List Raw) (r : Rf), vs = [.ref m, .ref p, .ref q, .str x] ∧ SqT K H m (ls.map V.int) ∧ ls.length ≤ 1000 ∧ SqL K H p us ∧ RVs K H us ds ∧ ds.length ≤ 900 ∧ (∀ d ∈ ds, d.ok) ∧
  SqL K H q xs ∧ RVs K H xs es ∧ es.length ≤ 900 ∧ (∀ d ∈ es, d.ok) ∧ x.length ≤ 100000 ∧ refOrdered x ls ds es = some r ∧ Ends Z H (some r) (fun _ _ => False) E
theorem d_orderedX {Z : Cls} (T : Nb mg) (D_check_memory : Dn P w K mg base (L2.CX P w) "check_memory" ["memory"] 3 (sp_check_memoryX K Z)) (D_check_order : Dn P w K mg base (L2.CX P w) "check_order" ["order", "left", "right"] 1 (sp_check_orderX K Z)) (D_check_programs : Dq P w K mg base (L2.CX P w) "check_programs" ["left", "right", "cells", "most"] [.int 40] 5 (sp_check_programsX K Z)) (h : Has K mg "ordered" s_ordered) : Dn P w K mg base (L2.CX P w) "ordered" ["memory", "left", "right", "order"] 6 (sp_orderedX K Z) := by
  refine dn_of h (fun f fd F => F.binds fun _ _ _ _ _ _ us hl => match us, hl with | [_, _, _, _], _ => rfl) fun f fd F _ => F.okX sc_ordered (fun vs H Q E h => ?_) (fun cdv A outer s H vs Q E hr h => ?_)
  · obtain ⟨_, _, _, _, _, _, _, _, _, _, rfl, _⟩ := h
    rfl
  obtain ⟨x, m, p, q, ls, us, xs, ds, es, r, rfl, hm, hz, hp, hP, hl, okl, hq, hX, hr9, okr, hx9, hr1, k⟩ := h
  rw [← hr1] at k
  refine ⟨_, (pss_cons (ps_expr (pe_dnS D_check_memory hr (by omega) (fun σ => passAt (takes_of rfl rfl rfl rfl) σ) (pa_cons (pv 0) pa_nil)))
    (pss_cons (ps_expr (pe_dqS D_check_programs hr (by omega) (fun σ => passAt (takes_of rfl rfl rfl rfl) σ) (pa_cons (pv 1) (pa_cons (pv 2) (pa_cons (pe_callB (call_len_seqK K) (by rfl) T.n_len PySem.boot_len (pa_cons (pv 0) pa_nil)) pa_nil)))))
    (pss_cons (ps_expr (pe_dnS D_check_order hr (by omega) (fun σ => passAt (takes_of rfl rfl rfl rfl) σ) (pa_cons (pv 3) (pa_cons (pv 1) (pa_cons (pv 2) pa_nil)))))
    pss_never))), ?_⟩
  have lu := hP.length
  have lx := hX.length
  refine ⟨_, rfl, m, ls, rfl, hm, hz, ends_or k fun _ k _ H2 f2 => ?_⟩
  dsimp only
  refine ⟨_, rfl, _, rfl, (ea_cons (ev_is (ev_cb (ea_cons (ev_var (v := .ref m) rfl) ea_nil) (rc_lenT (ex_t f2 hm))) (by rw [List.length_map])) ea_nil) _ (Ex.refl _) _ fun H3 f3 => ?_⟩
  have f23 := f2.trans f3
  refine ⟨p, q, ls.length, 40, us, xs, ds, es, rfl, ex_l f23 hp, hP.mono f23, hl, okl, ex_l f23 hq, hX.mono f23, hr9, okr, ends_or (k.back (f23)) fun _ k _ H4 f4 => ?_⟩
  dsimp only
  have f24 := f23.trans f4
  exact ⟨_, rfl, _, rfl, _, rfl, x, p, q, us, xs, rfl, ex_l f24 hp, ex_l f24 hq, hx9, (by rw [lu, lx]; exact k.back f4 : Ends Z H4 _ (fun _ _ => False) _).imp (fun _ _ _ z => z.elim) fun _ _ _ _ z => z⟩
/-- outcomes, refused -/
def refFew (ds es : List Raw) : Option Rf := if ds.length ≤ 6 ∧ es.length ≤ 6 then none else some .many
def refOutcomes (ls : List Int) (ds es : List Raw) : Option Rf := (refM ls).or ((refPP ls.length 40 ds es).or (refFew ds es))
def sp_outcomesX (K : PySem.W.Frag) (Z : Cls) : Sp := fun vs H Q E => ∃ (m p q : Addr) (ls : List Int) (us xs : List V) (ds es : List Raw) (r : Rf), vs = [.ref m, .ref p, .ref q] ∧ SqT K H m (ls.map V.int) ∧ ls.length ≤ 1000 ∧ SqL K H p us ∧ RVs K H us ds ∧ ds.length ≤ 900 ∧ (∀ d ∈ ds, d.ok) ∧
  SqL K H q xs ∧ RVs K H xs es ∧ es.length ≤ 900 ∧ (∀ d ∈ es, d.ok) ∧ refOutcomes ls ds es = some r ∧ Ends Z H (some r) (fun _ _ => False) E
theorem d_outcomesX {Z : Cls} (T : Nb mg) (D_check_memory : Dn P w K mg base (L2.CX P w) "check_memory" ["memory"] 3 (sp_check_memoryX K Z)) (D_check_few : Dn P w K mg base (L2.CX P w) "check_few" ["left", "right"] 1 (sp_check_fewX K Z)) (D_check_programs : Dq P w K mg base (L2.CX P w) "check_programs" ["left", "right", "cells", "most"] [.int 40] 5 (sp_check_programsX K Z)) (h : Has K mg "outcomes" s_outcomes) : Dn P w K mg base (L2.CX P w) "outcomes" ["memory", "left", "right"] 6 (sp_outcomesX K Z) := by
  refine dn_of h (fun f fd F => F.binds fun _ _ _ _ _ _ us hl => match us, hl with | [_, _, _], _ => rfl) fun f fd F _ => F.okX sc_outcomes (fun vs H Q E h => ?_) (fun cdv A outer s H vs Q E hr h => ?_)
  · obtain ⟨_, _, _, _, _, _, _, _, _, rfl, _⟩ := h
    rfl
  obtain ⟨m, p, q, ls, us, xs, ds, es, r, rfl, hm, hz, hp, hP, hl, okl, hq, hX, hr9, okr, hr1, k⟩ := h
  rw [← hr1] at k
  refine ⟨_, (pss_cons (ps_expr (pe_dnS D_check_memory hr (by omega) (fun σ => passAt (takes_of rfl rfl rfl rfl) σ) (pa_cons (pv 0) pa_nil)))
    (pss_cons (ps_expr (pe_dqS D_check_programs hr (by omega) (fun σ => passAt (takes_of rfl rfl rfl rfl) σ) (pa_cons (pv 1) (pa_cons (pv 2) (pa_cons (pe_callB (call_len_seqK K) (by rfl) T.n_len PySem.boot_len (pa_cons (pv 0) pa_nil)) pa_nil)))))
    (pss_cons (ps_expr (pe_dnS D_check_few hr (by omega) (fun σ => passAt (takes_of rfl rfl rfl rfl) σ) (pa_cons (pv 1) (pa_cons (pv 2) pa_nil))))
    pss_never))), ?_⟩
  have lu := hP.length
  have lx := hX.length
  refine ⟨_, rfl, m, ls, rfl, hm, hz, ends_or k fun _ k _ H2 f2 => ?_⟩
  dsimp only
  refine ⟨_, rfl, _, rfl, (ea_cons (ev_is (ev_cb (ea_cons (ev_var (v := .ref m) rfl) ea_nil) (rc_lenT (ex_t f2 hm))) (by rw [List.length_map])) ea_nil) _ (Ex.refl _) _ fun H3 f3 => ?_⟩
  have f23 := f2.trans f3
  refine ⟨p, q, ls.length, 40, us, xs, ds, es, rfl, ex_l f23 hp, hP.mono f23, hl, okl, ex_l f23 hq, hX.mono f23, hr9, okr, ends_or (k.back (f23)) fun _ k _ H4 f4 => ?_⟩
  dsimp only
  have f24 := f23.trans f4
  exact ⟨_, rfl, _, rfl, p, q, us, xs, rfl, ex_l f24 hp, ex_l f24 hq, (by rw [lu, lx]; exact k.back f4 : Ends Z H4 _ (fun _ _ => False) _).imp (fun _ _ _ z => z.elim) fun _ _ _ _ z => z⟩
/-- explained, refused -/
def refExplained (ls ns : List Int) (ds es : List Raw) : Option Rf := (refM ls).or ((refPP ls.length 40 ds es).or ((if memBad ns = true ∨ ns.length ≠ ls.length then some .mem else none).or (refFew ds es)))
def sp_explainedX (K : PySem.W.Frag) (Z : Cls) : Sp := fun vs H Q E => ∃ (m p q aS aO n : Addr) (ls ns : List Int) (us xs : List V) (ds es : List Raw) (r : Rf), vs = [.ref m, .ref p, .ref q, .ref aS, .ref aO, .ref n] ∧ SqT K H m (ls.map V.int) ∧ ls.length ≤ 1000 ∧ SqL K H p us ∧ RVs K H us ds ∧ ds.length ≤ 900 ∧ (∀ d ∈ ds, d.ok) ∧
  SqL K H q xs ∧ RVs K H xs es ∧ es.length ≤ 900 ∧ (∀ d ∈ es, d.ok) ∧ SqT K H n (ns.map V.int) ∧ ns.length ≤ 1000 ∧ refExplained ls ns ds es = some r ∧ Ends Z H (some r) (fun _ _ => False) E
theorem d_explainedX {Z : Cls} (T : Nb mg) (D_check_memory : Dn P w K mg base (L2.CX P w) "check_memory" ["memory"] 3 (sp_check_memoryX K Z)) (D_check_last : Dn P w K mg base (L2.CX P w) "check_last" ["last", "memory"] 4 (sp_check_lastX K Z)) (D_check_few : Dn P w K mg base (L2.CX P w) "check_few" ["left", "right"] 1 (sp_check_fewX K Z)) (D_check_programs : Dq P w K mg base (L2.CX P w) "check_programs" ["left", "right", "cells", "most"] [.int 40] 5 (sp_check_programsX K Z)) (h : Has K mg "explained" s_explained) : Dn P w K mg base (L2.CX P w) "explained" ["memory", "left", "right", "seen", "others", "last"] 6 (sp_explainedX K Z) := by
  refine dn_of h (fun f fd F => F.binds fun _ _ _ _ _ _ us hl => match us, hl with | [_, _, _, _, _, _], _ => rfl) fun f fd F _ => F.okX sc_explained (fun vs H Q E h => ?_) (fun cdv A outer s H vs Q E hr h => ?_)
  · obtain ⟨_, _, _, _, _, _, _, _, _, _, _, _, _, rfl, _⟩ := h
    rfl
  obtain ⟨m, p, q, aS, aO, n, ls, ns, us, xs, ds, es, r, rfl, hm, hz, hp, hP, hl, okl, hq, hX, hr9, okr, hn, hnz, hr1, k⟩ := h
  rw [← hr1] at k
  refine ⟨_, (pss_cons (ps_expr (pe_dnS D_check_memory hr (by omega) (fun σ => passAt (takes_of rfl rfl rfl rfl) σ) (pa_cons (pv 0) pa_nil)))
    (pss_cons (ps_expr (pe_dqS D_check_programs hr (by omega) (fun σ => passAt (takes_of rfl rfl rfl rfl) σ) (pa_cons (pv 1) (pa_cons (pv 2) (pa_cons (pe_callB (call_len_seqK K) (by rfl) T.n_len PySem.boot_len (pa_cons (pv 0) pa_nil)) pa_nil)))))
    (pss_cons (ps_expr (pe_dnS D_check_last hr (by omega) (fun σ => passAt (takes_of rfl rfl rfl rfl) σ) (pa_cons (pv 5) (pa_cons (pv 0) pa_nil))))
    (pss_cons (ps_expr (pe_dnS D_check_few hr (by omega) (fun σ => passAt (takes_of rfl rfl rfl rfl) σ) (pa_cons (pv 1) (pa_cons (pv 2) pa_nil))))
    pss_never)))), ?_⟩
  have lu := hP.length
  have lx := hX.length
  refine ⟨_, rfl, m, ls, rfl, hm, hz, ends_or k fun _ k _ H2 f2 => ?_⟩
  dsimp only
  refine ⟨_, rfl, _, rfl, (ea_cons (ev_is (ev_cb (ea_cons (ev_var (v := .ref m) rfl) ea_nil) (rc_lenT (ex_t f2 hm))) (by rw [List.length_map])) ea_nil) _ (Ex.refl _) _ fun H3 f3 => ?_⟩
  have f23 := f2.trans f3
  refine ⟨p, q, ls.length, 40, us, xs, ds, es, rfl, ex_l f23 hp, hP.mono f23, hl, okl, ex_l f23 hq, hX.mono f23, hr9, okr, ends_or (k.back (f23)) fun _ k _ H4 f4 => ?_⟩
  dsimp only
  have f24 := f23.trans f4
  refine ⟨_, rfl, _, rfl, n, m, ns, ls, rfl, ex_t f24 hn, ex_t f24 hm, hnz, ends_or (k.back f4) fun _ k _ H5 f5 => ?_⟩
  dsimp only
  have f25 := f24.trans f5
  exact ⟨_, rfl, _, rfl, p, q, us, xs, rfl, ex_l f25 hp, ex_l f25 hq, (by rw [lu, lx]; exact k.back f5 : Ends Z H5 _ (fun _ _ => False) _).imp (fun _ _ _ z => z.elim) fun _ _ _ _ z => z⟩

/-- fitted and shows, refused -/
def sp_fittedX (K : PySem.W.Frag) (Z : Cls) : Sp := fun vs H Q E => ∃ (p q : Addr) (us xs : List V) (ds es : List Raw) (r : Rf), vs = [.ref p, .ref q] ∧ SqL K H p us ∧ RVs K H us ds ∧ ds.length ≤ 900 ∧ (∀ d ∈ ds, d.ok) ∧
  SqL K H q xs ∧ RVs K H xs es ∧ es.length ≤ 900 ∧ (∀ d ∈ es, d.ok) ∧ refPP 4 20 ds es = some r ∧ Ends Z H (some r) (fun _ _ => False) E
theorem d_fittedX {aREST aWORTHS : Addr} {t4 t40 t20 : Tok} {Z : Cls} (G : TxP K mg aREST aWORTHS t4 t40) (FT : TxF mg t20) (D_check_programs4 : Dq P w K mg base (L2.CX P w) "check_programs" ["left", "right", "cells", "most"] [] 5 (sp_check_programsX K Z)) (h : Has K mg "fitted" s_fitted) : Dn P w K mg base (L2.CX P w) "fitted" ["left", "right"] 6 (sp_fittedX K Z) := by
  refine dn_of h (fun f fd F => F.binds fun _ _ _ _ _ _ us hl => match us, hl with | [_, _], _ => rfl) fun f fd F _ => F.okX sc_fitted (fun vs H Q E h => ?_) (fun cdv A outer s H vs Q E hr h => ?_)
  · obtain ⟨_, _, _, _, _, _, _, rfl, _⟩ := h
    rfl
  obtain ⟨p, q, us, xs, ds, es, r, rfl, hp, hP, hl, okl, hq, hX, hr9, okr, hr1, k⟩ := h
  rw [← hr1] at k
  refine ⟨_, (pss_cons (ps_expr (pe_dqS D_check_programs4 hr (by omega) (fun σ => passAt (takes_of rfl rfl rfl rfl) σ) (pa_cons (pv 0) (pa_cons (pv 1) (pa_cons (pe_glob (v := .int 4) rfl G.g_MOST_CELLS ⟨_, rfl⟩) (pa_cons (pe_glob (v := .int 20) rfl FT.g_MOST_TO_FIT ⟨_, rfl⟩) pa_nil))))))
    pss_never), ?_⟩
  refine ⟨_, rfl, _, rfl, (ea_cons ev_c (ea_cons ev_c ea_nil)) _ (Ex.refl _) _ fun H3 f3 => ?_⟩
  exact ⟨p, q, 4, 20, us, xs, ds, es, rfl, ex_l f3 hp, hP.mono f3, hl, okl, ex_l f3 hq, hX.mono f3, hr9, okr, (k.back f3).imp (fun _ _ _ z => z.elim) fun _ _ _ _ z => z⟩
def sp_showsX (K : PySem.W.Frag) (Z : Cls) : Sp := fun vs H Q E => ∃ (p q o : Addr) (us xs : List V) (ds es : List Raw) (r : Rf), vs = [.ref p, .ref q, .ref o] ∧ SqL K H p us ∧ RVs K H us ds ∧ ds.length ≤ 900 ∧ (∀ d ∈ ds, d.ok) ∧
  SqL K H q xs ∧ RVs K H xs es ∧ es.length ≤ 900 ∧ (∀ d ∈ es, d.ok) ∧ refPP 4 20 ds es = some r ∧ Ends Z H (some r) (fun _ _ => False) E
theorem d_showsX {aREST aWORTHS : Addr} {t4 t40 t20 : Tok} {Z : Cls} (G : TxP K mg aREST aWORTHS t4 t40) (FT : TxF mg t20) (D_check_programs4 : Dq P w K mg base (L2.CX P w) "check_programs" ["left", "right", "cells", "most"] [] 5 (sp_check_programsX K Z)) (h : Has K mg "shows" s_shows) : Dn P w K mg base (L2.CX P w) "shows" ["left", "right", "reason"] 6 (sp_showsX K Z) := by
  refine dn_of h (fun f fd F => F.binds fun _ _ _ _ _ _ us hl => match us, hl with | [_, _, _], _ => rfl) fun f fd F _ => F.okX sc_shows (fun vs H Q E h => ?_) (fun cdv A outer s H vs Q E hr h => ?_)
  · obtain ⟨_, _, _, _, _, _, _, _, rfl, _⟩ := h
    rfl
  obtain ⟨p, q, o, us, xs, ds, es, r, rfl, hp, hP, hl, okl, hq, hX, hr9, okr, hr1, k⟩ := h
  rw [← hr1] at k
  refine ⟨_, (pss_cons (ps_expr (pe_dqS D_check_programs4 hr (by omega) (fun σ => passAt (takes_of rfl rfl rfl rfl) σ) (pa_cons (pv 0) (pa_cons (pv 1) (pa_cons (pe_glob (v := .int 4) rfl G.g_MOST_CELLS ⟨_, rfl⟩) (pa_cons (pe_glob (v := .int 20) rfl FT.g_MOST_TO_FIT ⟨_, rfl⟩) pa_nil))))))
    pss_never), ?_⟩
  refine ⟨_, rfl, _, rfl, (ea_cons ev_c (ea_cons ev_c ea_nil)) _ (Ex.refl _) _ fun H3 f3 => ?_⟩
  exact ⟨p, q, 4, 20, us, xs, ds, es, rfl, ex_l f3 hp, hP.mono f3, hl, okl, ex_l f3 hq, hX.mono f3, hr9, okr, (k.back f3).imp (fun _ _ _ z => z.elim) fun _ _ _ _ z => z⟩

def sp_clash (K : PySem.W.Frag) : Sp := spF 2 fun vs H v => ∃ a b d e, vs = [a, b] ∧ DV K H a d ∧ DV K H b e ∧ v = .bl (clashD d e)
theorem sp_clash_v {H : Hp} {a b : V} {d e : Deed} (h1 : DV K H a d) (h2 : DV K H b e) : SpV (sp_clash K) [a, b] H (.bl (clashD d e)) := spF_v rfl fun _ f => ⟨a, b, d, e, rfl, h1.mono f, h2.mono f, rfl⟩
theorem d_clash {aREST aWORTHS : Addr} {t4 t40 : Tok} (G : TxP K mg aREST aWORTHS t4 t40) (h : Has K mg "clash" s_clash) : Dn P w K mg base CX0 "clash" ["deed", "other"] 1 (sp_clash K) := by
  refine dn_of h (fun f fd F => F.binds fun _ _ _ _ _ _ us hl => match us, hl with | [_, _], _ => rfl) fun f fd F _ => F.ok sc_clash (fun vs H Q E h => h.1) (fun cdv A outer s H vs Q E hr h => ?_)
  obtain ⟨_, v, ⟨_, _, d, e, rfl, ⟨a, rfl, h1⟩, ⟨b, rfl, h2⟩, rfl⟩, k⟩ := h
  refine ⟨_, (pss_cons (ps_if (PW.pt (pw_or (pt_cmpR (op_eqDK K rfl hr.units) (pv 0) (pe_glob (v := .ref aREST) rfl G.g_REST rfl) (nomark _)) (pw_or1 (pt_cmpR (op_eqDK K rfl hr.units) (pv 1) (pe_glob (v := .ref aREST) rfl G.g_REST rfl) (nomark _))))) (pss_one (ps_ret pe_bl)) pss_nil)
    (pss_one (ps_ret (pe_and (pe_cmpR op_eq (pe_ix (ix_tupK K) (pv 0) pe_int (fun _ _ => rfl)) (pe_ix (ix_tupK K) (pv 1) pe_int (fun _ _ => rfl)) (nomark _)) (pe_one (pe_or (pe_cmpR op_eq (pe_ix (ix_tupK K) (pv 0) pe_int (fun _ _ => rfl)) pe_str (nomark _)) (pe_one (pe_cmpR op_eq (pe_ix (ix_tupK K) (pv 1) pe_int (fun _ _ => rfl)) pe_str (nomark _))))))))), ?_⟩
  refine q_when (b := decide (d = .rs) || decide (e = .rs)) (et_or (et_is (et_test (ev_op (by walk_at "ev") (by walk_at "ev") (rv_eqD (n := 1) (m := 1) (DV.dp ⟨a, rfl, h1⟩) (DV.dp (d := .rs) ⟨_, rfl, G.REST _⟩) (Deed.sh _) (Deed.sh _) (by decide) (by decide)))) (Deed.eqv_rs d))
    (fun _ => et_is (et_test (ev_op (by walk_at "ev") (by walk_at "ev") (rv_eqD (n := 1) (m := 1) (DV.dp ⟨b, rfl, h2⟩) (DV.dp (d := .rs) ⟨_, rfl, G.REST _⟩) (Deed.sh _) (Deed.sh _) (by decide) (by decide)))) (Deed.eqv_rs e))) (fun hb H1 f1 => ?_) (fun hb H1 f1 => ?_)
  · have hc : clashD d e = false := by
      cases d <;> cases e <;> first | rfl | (simp at hb)
    exact s_ret (v := .bl (clashD d e)) (by rw [hc]; exact ev_c) fun H2 f2 => k H2 (f1.trans f2)
  · obtain ⟨hd, he⟩ : d ≠ .rs ∧ e ≠ .rs := by
      rw [Bool.or_eq_false_iff] at hb
      exact ⟨of_decide_eq_false hb.1, of_decide_eq_false hb.2⟩
    have g1 := ex_t f1 h1
    have g2 := ex_t f1 h2
    obtain ⟨c1, hc1⟩ : ∃ c, d.cell = some c := by cases d <;> first | exact ⟨_, rfl⟩ | exact absurd rfl hd
    obtain ⟨c2, hc2⟩ : ∃ c, e.cell = some c := by cases e <;> first | exact ⟨_, rfl⟩ | exact absurd rfl he
    have i1 : atI d.vals 1 = some (.int (c1 : Int)) := by cases d <;> cases hc1 <;> rfl
    have i2 : atI e.vals 1 = some (.int (c2 : Int)) := by cases e <;> cases hc2 <;> rfl
    have i4 : clashD d e = (decide (c1 = c2) && (d.isW || e.isW)) := by unfold clashD; rw [hc1, hc2]
    have w1 : decide (V.str d.tag = V.str "write") = d.isW := by
      cases d with
      | rs => exact absurd rfl hd
      | rd c => show decide (V.str "read" = V.str "write") = false; decide +kernel
      | wr c w => show decide (V.str "write" = V.str "write") = true; decide +kernel
    have w2 : decide (V.str e.tag = V.str "write") = e.isW := by
      cases e with
      | rs => exact absurd rfl he
      | rd c => show decide (V.str "read" = V.str "write") = false; decide +kernel
      | wr c w => show decide (V.str "write" = V.str "write") = true; decide +kernel
    have q : decide (V.int (c1 : Int) = V.int (c2 : Int)) = decide (c1 = c2) := decide_eq_decide.mpr ⟨fun z => by have := V.int.inj z; omega, fun z => by rw [z]⟩
    exact s_ret (v := .bl (clashD d e)) (ev_is (ev_andV (a := decide (V.int (c1 : Int) = V.int (c2 : Int))) (b := decide (V.str d.tag = V.str "write") || decide (V.str e.tag = V.str "write")) (ev_op (ev_op (by walk_at "ev") (by walk_at "ev") (rv_ixT g1 i1)) (ev_op (by walk_at "ev") (by walk_at "ev") (rv_ixT g2 i2)) (rv_eq rfl))
      (fun _ => ev_orV (ev_op (ev_op (by walk_at "ev") (by walk_at "ev") (DV.tag g1)) (by walk_at "ev") (rv_eq rfl)) (fun _ => ev_op (ev_op (by walk_at "ev") (by walk_at "ev") (DV.tag g2)) (by walk_at "ev") (rv_eq rfl)))) (by rw [i4, w1, w2, q])) fun H2 f2 => k H2 (f1.trans f2)

/-- what is refused, or good programs of deeds -/
def Good (K : PySem.W.Frag) (H : Hp) (n : Nat) (us xs : List V) (r : Option Rf) : Prop := r = none → ∃ ds es : List Deed, PV K H us ds ∧ ds.length ≤ 40 ∧ (∀ d ∈ ds, d.ok n) ∧ PV K H xs es ∧ es.length ≤ 40 ∧ (∀ d ∈ es, d.ok n)
def sp_clashesX (K : PySem.W.Frag) (Z : Cls) : Sp := fun vs H Q E => ∃ (p q : Addr) (us xs : List V) (ds es : List Raw), vs = [.ref p, .ref q] ∧ SqL K H p us ∧ RVs K H us ds ∧ ds.length ≤ 900 ∧ (∀ d ∈ ds, d.ok) ∧
  SqL K H q xs ∧ RVs K H xs es ∧ es.length ≤ 900 ∧ (∀ d ∈ es, d.ok) ∧ Good K H 4 us xs (refPP 4 40 ds es) ∧ Ends Z H (refPP 4 40 ds es) Q E
theorem d_clashesX {aREST aWORTHS : Addr} {t4 t40 : Tok} {Z : Cls} (T : Nb mg) (G : TxP K mg aREST aWORTHS t4 t40) (D_check_programs : Dq P w K mg base (L2.CX P w) "check_programs" ["left", "right", "cells", "most"] [.int 40] 5 (sp_check_programsX K Z)) (D_clash : Dn P w K mg base CX0 "clash" ["deed", "other"] 1 (sp_clash K))
    (h : Has K mg "clashes" s_clashes) : Dn P w K mg base (L2.CX P w) "clashes" ["left", "right"] 6 (sp_clashesX K Z) := by
  refine dn_of h (fun f fd F => F.binds fun _ _ _ _ _ _ us hl => match us, hl with | [_, _], _ => rfl) fun f fd F _ => F.okX sc_clashes (fun vs H Q E h => ?_) (fun cdv A outer s H vs Q E hr h => ?_)
  · obtain ⟨_, _, _, _, _, _, rfl, _⟩ := h
    rfl
  obtain ⟨p, q, us, xs, rs, ss, rfl, hp, hR, hl9, okl, hq, hS, hr9, okr, gd, k⟩ := h
  refine ⟨_, (pss_cons (ps_expr (pe_dqS D_check_programs hr (by omega) (fun σ => passAt (takes_of rfl rfl rfl rfl) σ) (pa_cons (pv 0) (pa_cons (pv 1) (pa_cons (pe_glob (v := .int 4) rfl G.g_MOST_CELLS ⟨_, rfl⟩) pa_nil)))))
    (pss_one (ps_ret (pe_lc (own := [("beat", 2), ("deed", 3), ("other", 4)]) rfl sc_clashes.nd (Zen.pi_ez (by rfl) T.n_enumerate (by rfl) T.n_zip (pa_cons (pv 0) (pa_cons (pv 1) pa_nil))) (blkOk_by (own := [("beat", 2), ("deed", 3), ("other", 4)]) (N := ["left", "right", "beat", "deed", "other"]) (sc := defScope s_clashes) (by decide +kernel)) (fun _ _ _ _ _ => by exact (Zen.pg_tupK (K := K) (n := 2) rfl (pgs_cons (pg_name (i := 2) sc_clashes.nd rfl (Or.inl rfl)) (pgs_cons (Zen.pg_tupK (K := K) (n := 2) rfl (pgs_cons (pg_name (i := 3) sc_clashes.nd rfl (Or.inl rfl)) (pgs_cons (pg_name (i := 4) sc_clashes.nd rfl (Or.inl rfl)) pgs_nil))) pgs_nil)))) (fun _ _ _ _ _ => pts_one (pt_val (pe_dn D_clash hr (by omega) pass0 (pa_cons (pv 3) (pa_cons (pv 4) pa_nil))))) (fun _ _ _ _ _ => (pv 2)))))), ?_⟩
  refine ⟨_, rfl, _, rfl, (ea_cons ev_c ea_nil) _ (Ex.refl _) _ fun H0 f0 => ?_⟩
  refine ⟨p, q, 4, 40, us, xs, rs, ss, rfl, ex_l f0 hp, hR.mono f0, hl9, okl, ex_l f0 hq, hS.mono f0, hr9, okr, ?_⟩
  cases hc : refPP 4 40 rs ss with
  | some r =>
    rw [hc] at k
    have k := k.back f0
    match r, k with
    | .mem, k => exact k
    | .rule, k => exact k
    | .order, k => exact k
    | .many, k => exact k
    | .prog _ _, k => exact k
  | none =>
  obtain ⟨ds, es, hP, hl, hok, hX, hl2, hok2⟩ := gd hc
  rw [hc] at k
  intro _ H1 f01
  have f1 := f0.trans f01
  dsimp only
  have lu := hP.length
  have lx := hX.length
  have e : (clashesD ds es).map wV = given (min us.length xs.length) (fun i => clashD (ds.getD i .rs) (es.getD i .rs)) (fun i => .int (i : Int)) := by
    unfold clashesD given
    rw [lu, lx]
    rfl
  refine s_retL (xs := (clashesD ds es).map wV) ?_ fun l H2 nl f2 h2 => k _ H2 (f1.trans f2)
  rw [e]
  intro H2 f2 Qr hQ
  have f12 := f1.trans f2
  refine ⟨_, rfl, _, rfl, p, q, us, xs, rfl, ex_l f12 hp, ex_l f12 hq, fun Dl hD => ?_⟩
  refine lc_it (Zen.walk_ez (xs := us) (ys := xs) rfl) (Cw H2 (fun i => clashD (ds.getD i .rs) (es.getD i .rs)) (fun i => .int (i : Int)) Dl) ⟨hD, Ex.new hD, upd_same⟩ (fun i H' _ p' => ⟨ex_l (f12.trans p'.2.1) hp, ex_l (f12.trans p'.2.1) hq⟩) ?_ (fun H' p' => hQ Dl H' p'.1 p'.2.1 p'.2.2)
  rintro i v H3 H4 hi p' ⟨T1, U1, a, b, rfl, n1, n2, rfl, ha, hb⟩
  obtain ⟨d, hd, dv⟩ := hP.get ha
  obtain ⟨d2, hd2, dv2⟩ := hX.get hb
  have x1 := Ex.new (o := .tup [a, b]) n1
  have x2 := Ex.new (o := .tup [.int (i : Nat), .ref T1]) n2
  have f4 := ((f12.trans p'.2.1).trans x1).trans x2
  refine ⟨U1, _, rfl, SqT.of upd_same, rfl, _, _, rfl, _, _, rfl, ⟨T1, _, rfl, SqT.of (x2 _ _ upd_same), rfl, _, _, rfl, _, _, rfl, rfl, rfl, ?_⟩⟩
  have pp : Cw H2 (fun i => clashD (ds.getD i .rs) (es.getD i .rs)) (fun i => .int (i : Int)) Dl i (upd (upd H3 T1 (.tup [a, b])) U1 (.tup [.int (i : Nat), .ref T1])) := ⟨p'.1, (p'.2.1.trans x1).trans x2, x2 _ _ (x1 _ _ p'.2.2)⟩
  have g1 : ds.getD i .rs = d := by rw [List.getD_eq_getElem?_getD, hd]; rfl
  have g2 : es.getD i .rs = d2 := by rw [List.getD_eq_getElem?_getD, hd2]; rfl
  have cl := sp_clash_v (dv.mono f12) (dv2.mono f12)
  refine ⟨rfl, ?_⟩
  refine cw_turn pp (by omega) ?_ (fun _ => ?_)
  rotate_left
  · exact ev_var (i := 2) rfl
  rw [g1, g2]
  exact et_B (ev_call (ea_cons (ev_var (v := a) rfl) (ea_cons (ev_var (v := b) rfl) ea_nil)) cl)

def sp_word_of (K : PySem.W.Frag) : Sp := spF 1 fun vs H v => ∃ a d, vs = [a] ∧ DV K H a d ∧ d.ok 4 ∧ v = .str (tS (wd d))
theorem sp_word_of_v {H : Hp} {a : V} {d : Deed} (h1 : DV K H a d) (h2 : d.ok 4) : SpV (sp_word_of K) [a] H (.str (tS (wd d))) := spF_v rfl fun _ f => ⟨a, d, rfl, h1.mono f, h2, rfl⟩
theorem d_word_of (h : Has K mg "word_of" s_word_of) : Dn P w K mg base CX0 "word_of" ["deed"] 1 (sp_word_of K) := by
  refine dn_of h (fun f fd F => F.binds fun _ _ _ _ _ _ us hl => match us, hl with | [_], _ => rfl) fun f fd F _ => F.ok sc_word_of (fun vs H Q E h => h.1) (fun cdv A outer s H vs Q E hr h => ?_)
  obtain ⟨_, v, ⟨_, d, rfl, ⟨a, rfl, h1⟩, ho, rfl⟩, k⟩ := h
  refine ⟨_, (pss_cons (ps_if (pt_cmpR op_eq (pe_ix (ix_tupK K) (pv 0) pe_int (fun _ _ => rfl)) pe_str (nomark _)) (pss_one (ps_ret (pe_joined (.cons pe_str (.cons (pe_fmt (pe_ix (ix_tupK K) (pv 0) pe_int (fun _ _ => rfl))) .nil))))) pss_nil)
    (pss_cons (ps_if (pt_cmpR op_eq (pe_ix (ix_tupK K) (pv 0) pe_int (fun _ _ => rfl)) pe_str (nomark _)) (pss_one (ps_ret (pe_joined (.cons pe_str (.cons (pe_fmt (pe_ix (ix_tupK K) (pv 0) pe_int (fun _ _ => rfl))) (.cons (pe_fmt (pe_ix (ix_tupK K) (pv 0) pe_int (fun _ _ => rfl))) .nil)))))) pss_nil)
    (pss_one (ps_ret pe_str)))), ?_⟩
  refine q_when (b := decide (V.str d.tag = V.str "read")) (et_test (ev_op (ev_op (by walk_at "ev") (by walk_at "ev") (DV.tag h1)) (by walk_at "ev") (rv_eq rfl))) (fun hb H1 f1 => ?_) (fun hb H1 f1 => ?_)
  · cases d with
    | wr c x => exact absurd hb (by show ¬ decide (V.str "write" = V.str "read") = true; decide +kernel)
    | rs => exact absurd hb (by show ¬ decide (V.str "rest" = V.str "read") = true; decide +kernel)
    | rd c =>
      have hc : c < 4 := ho
      refine ⟨"r", rfl, by decide +kernel, _, rfl, a, _, 1, .int c, rfl, rfl, ex_t f1 h1, rfl, .inr ⟨(c : Int), rfl, log4 hc, ?_⟩⟩
      have e : (toString (c : Int) : Str) = tS [48 + c] := strI hc
      rw [e]
      have e2 : Str.empty ++ ("r" : Str) ++ tS [48 + c] = tS (wd (.rd c)) := by
        rw [show Str.empty ++ ("r" : Str) = tS [114] by decide +kernel, tS_app]; rfl
      refine ⟨_, rfl, by rw [e2, tS_len]; exact Nat.le_trans (wd_len _) (by decide), ?_⟩
      show Q (.str (Str.empty ++ ("r" : Str) ++ tS [48 + c])) H1
      rw [e2]
      exact k _ f1
  refine q_when (b := decide (V.str d.tag = V.str "write")) (et_test (ev_op (ev_op (by walk_at "ev") (by walk_at "ev") (DV.tag (ex_t f1 h1))) (by walk_at "ev") (rv_eq rfl))) (fun hb2 H2 f2 => ?_) (fun hb2 H2 f2 => ?_)
  · cases d with
    | rd c => exact absurd hb2 (by show ¬ decide (V.str "read" = V.str "write") = true; decide +kernel)
    | rs => exact absurd hb2 (by show ¬ decide (V.str "rest" = V.str "write") = true; decide +kernel)
    | wr c x =>
      obtain ⟨hc, hx⟩ : c < 4 ∧ x < 3 := ho
      have hx4 : x < 4 := by omega
      have f12 := f1.trans f2
      have e : (toString (c : Int) : Str) = tS [48 + c] := strI hc
      have e' : (toString (x : Int) : Str) = tS [48 + x] := strI hx4
      have e1 : Str.empty ++ ("w" : Str) ++ tS [48 + c] = tS [119, 48 + c] := by
        rw [show Str.empty ++ ("w" : Str) = tS [119] by decide +kernel, tS_app]; rfl
      have e2 : tS [119, 48 + c] ++ tS [48 + x] = tS (wd (.wr c x)) := by rw [tS_app]; rfl
      refine ⟨"w", rfl, by decide +kernel, _, rfl, a, _, 1, .int c, rfl, rfl, ex_t f12 h1, rfl, .inr ⟨(c : Int), rfl, log4 hc, ?_⟩⟩
      rw [e]
      refine ⟨_, rfl, by rw [e1, tS_len]; show 2 ≤ sizeLine; decide, ?_⟩
      refine ⟨_, rfl, a, _, 2, .int x, rfl, rfl, ex_t f12 h1, rfl, .inr ⟨(x : Int), rfl, log4 hx4, ?_⟩⟩
      rw [e']
      refine ⟨_, rfl, by rw [e1, e2, tS_len]; exact Nat.le_trans (wd_len _) (by decide), ?_⟩
      show Q (.str (Str.empty ++ ("w" : Str) ++ tS [48 + c] ++ tS [48 + x])) H2
      rw [e1, e2]
      exact k _ f12
  · cases d with
    | rd c => exact absurd hb (by show ¬ decide (V.str "read" = V.str "read") = false; decide +kernel)
    | wr c x => exact absurd hb2 (by show ¬ decide (V.str "write" = V.str "write") = false; decide +kernel)
    | rs =>
      have e : ("-" : Str) = tS (wd .rs) := by decide +kernel
      show Q (.str "-") H2
      rw [e]
      exact k _ (f1.trans f2)

def sp_row_of (K : PySem.W.Frag) : Sp := spF 1 fun vs H v => ∃ p us ds, vs = [.ref p] ∧ SqL K H p us ∧ PV K H us ds ∧ ds.length ≤ 40 ∧ (∀ d ∈ ds, d.ok 4) ∧ v = .str (tS (rowS ds))
theorem sp_row_of_v {H : Hp} {p : Addr} {us : List V} {ds : List Deed} (h1 : SqL K H p us) (h2 : PV K H us ds) (h3 : ds.length ≤ 40) (h4 : ∀ d ∈ ds, d.ok 4) : SpV (sp_row_of K) [.ref p] H (.str (tS (rowS ds))) := spF_v rfl fun _ f => ⟨p, us, ds, rfl, ex_l f h1, h2.mono f, h3, h4, rfl⟩
theorem d_row_of (D_word_of : Dn P w K mg base CX0 "word_of" ["deed"] 1 (sp_word_of K)) (h : Has K mg "row_of" s_row_of) : Dn P w K mg base CX0 "row_of" ["program"] 2 (sp_row_of K) := by
  refine dn_of h (fun f fd F => F.binds fun _ _ _ _ _ _ us hl => match us, hl with | [_], _ => rfl) fun f fd F _ => F.ok sc_row_of (fun vs H Q E h => h.1) (fun cdv A outer s H vs Q E hr h => ?_)
  obtain ⟨_, v, ⟨p, us, ds, rfl, h1, h2, h3, h4, rfl⟩, k⟩ := h
  refine ⟨_, (pss_one (ps_ret (pe_join pe_str (pe_lc (own := [("deed", 1)]) rfl sc_row_of.nd (pi_list (pv 0)) (blkOk_by (own := [("deed", 1)]) (N := ["program", "deed"]) (sc := defScope s_row_of) (by decide +kernel)) (fun _ _ _ _ _ => (pg_name (i := 1) sc_row_of.nd rfl (Or.inl rfl))) (fun _ _ _ _ _ => pts_nil) (fun _ _ _ _ _ => (pe_dn D_word_of hr (by omega) pass0 (pa_cons (pv 1) pa_nil))))))), ?_⟩
  have lu := h2.length
  have key : EvL (tLc (iList K (tVar 0)) (gName 1) tYes (tCall (sp_word_of K) [] E0 (tCons (tVar 1) tNil)) [1]) (start ["program", "deed"] [V.ref p]) H (given us.length (fun _ => true) fun i => .str (tS (wd (ds.getD i .rs)))) :=
    el_lcL (K := K) (a := p) (xs := us) (fun _ => true) (fun i => .str (tS (wd (ds.getD i .rs)))) (ev_var rfl) h1 (by omega) (fun x => rfl) (fun i x H1 e hx => fun H2 e2 Q q => q H2 (Ex.refl _)) (fun i x H1 e hx _ => by
      obtain ⟨d, hd, dv⟩ := (h2.mono e).get hx
      have ok := h4 d (List.mem_of_getElem? hd)
      rw [gd_at hd]
      exact ev_call (dvs := []) (ea_cons (ev_var rfl) ea_nil) (sp_word_of_v dv ok))
  have eg : given us.length (fun _ => true) (fun i => V.str (tS (wd (ds.getD i .rs)))) = ((ds.map wd).map tS).map V.str := by
    rw [given_all, lu, range_get ds fun d => V.str (tS (wd d)), List.map_map, List.map_map]
    rfl
  rw [eg] at key
  refine ⟨⟨_, rfl⟩, key H (Ex.refl _) _ fun pn H1 np f1 hpn => ⟨" ", pn, (ds.map wd).map tS, rfl, rfl, .inl (SqL.of hpn), ?_, ?_⟩⟩
  · have e1 : (((ds.map wd).map tS).map (·.length)).sum ≤ ds.length * 3 := by
      clear key eg lu h1 h2 h3 h4 k hpn
      induction ds with
      | nil => exact Nat.zero_le _
      | cons d r ih =>
        have := wd_len d
        have z : (((d :: r).map wd).map tS).map (·.length) = (tS (wd d)).length :: ((r.map wd).map tS).map (·.length) := rfl
        rw [z, List.sum_cons, tS_len, List.length_cons]
        omega
    have e2 : (" " : Str).length = 1 := by decide +kernel
    have e3 : ((ds.map wd).map tS).length = ds.length := by simp
    rw [e2, e3]
    omega
  · have e : Txt.join " " ((ds.map wd).map tS) = tS (rowS ds) := by
      have z := StrLaws.glued_eq_join " " ((ds.map wd).map tS)
      have e2 : (" " : Str) = ⟨#[32]⟩ := by decide +kernel
      rw [e2] at z ⊢
      exact z.trans (join_tS 32 _)
    rw [e]
    exact k H1 f1

def sp_writtenX (K : PySem.W.Frag) (Z : Cls) : Sp := fun vs H Q E => ∃ (p q : Addr) (us xs : List V) (ds es : List Raw), vs = [.ref p, .ref q] ∧ SqL K H p us ∧ RVs K H us ds ∧ ds.length ≤ 900 ∧ (∀ d ∈ ds, d.ok) ∧
  SqL K H q xs ∧ RVs K H xs es ∧ es.length ≤ 900 ∧ (∀ d ∈ es, d.ok) ∧ Good K H 4 us xs (refPP 4 40 ds es) ∧ Ends Z H (refPP 4 40 ds es) Q E
theorem d_writtenX {aREST aWORTHS : Addr} {t4 t40 : Tok} {Z : Cls} (G : TxP K mg aREST aWORTHS t4 t40) (D_check_programs : Dq P w K mg base (L2.CX P w) "check_programs" ["left", "right", "cells", "most"] [.int 40] 5 (sp_check_programsX K Z)) (D_row_of : Dn P w K mg base CX0 "row_of" ["program"] 2 (sp_row_of K)) (h : Has K mg "written" s_written) : Dn P w K mg base (L2.CX P w) "written" ["left", "right"] 6 (sp_writtenX K Z) := by
  refine dn_of h (fun f fd F => F.binds fun _ _ _ _ _ _ us hl => match us, hl with | [_, _], _ => rfl) fun f fd F _ => F.okX sc_written (fun vs H Q E h => ?_) (fun cdv A outer s H vs Q E hr h => ?_)
  · obtain ⟨_, _, _, _, _, _, rfl, _⟩ := h
    rfl
  obtain ⟨p, q, us, xs, rs, ss, rfl, hp, hR, hl9, okl, hq, hS, hr9, okr, gd, k⟩ := h
  refine ⟨_, (pss_cons (ps_expr (pe_dqS D_check_programs hr (by omega) (fun σ => passAt (takes_of rfl rfl rfl rfl) σ) (pa_cons (pv 0) (pa_cons (pv 1) (pa_cons (pe_glob (v := .int 4) rfl G.g_MOST_CELLS ⟨_, rfl⟩) pa_nil)))))
    (pss_one (ps_ret (pe_joined (.cons (pe_fmt (pe_dn D_row_of hr (by omega) pass0 (pa_cons (pv 0) pa_nil))) (.cons pe_str (.cons (pe_fmt (pe_dn D_row_of hr (by omega) pass0 (pa_cons (pv 1) pa_nil))) .nil))))))), ?_⟩
  refine ⟨_, rfl, _, rfl, (ea_cons ev_c ea_nil) _ (Ex.refl _) _ fun H0 f0 => ?_⟩
  refine ⟨p, q, 4, 40, us, xs, rs, ss, rfl, ex_l f0 hp, hR.mono f0, hl9, okl, ex_l f0 hq, hS.mono f0, hr9, okr, ?_⟩
  cases hc : refPP 4 40 rs ss with
  | some r =>
    rw [hc] at k
    have k := k.back f0
    match r, k with
    | .mem, k => exact k
    | .rule, k => exact k
    | .order, k => exact k
    | .many, k => exact k
    | .prog _ _, k => exact k
  | none =>
  obtain ⟨ds, es, h2, h3, h4, h6, h7, h8⟩ := gd hc
  rw [hc] at k
  have h1 := hp
  have h5 := hq
  intro _ H1 f01
  have f1 := f0.trans f01
  dsimp only
  have l1 := row_len ds
  have l2 := row_len es
  have e1 : Str.empty ++ tS (rowS ds) = tS (rowS ds) := by rw [show Str.empty = tS [] by decide +kernel, tS_app]; rfl
  have e2 : tS (rowS ds) ++ ("\n" : Str) = tS (rowS ds ++ [10]) := by rw [show ("\n" : Str) = tS [10] by decide +kernel, tS_app]
  have e3 : tS (rowS ds ++ [10]) ++ tS (rowS es) = tS (textS ds es) := by rw [tS_app]; show _ = tS (rowS ds ++ 10 :: rowS es); simp
  have sz : ∀ l : List Nat, l.length ≤ 1000 → (tS l).length ≤ sizeLine := fun l hl => by rw [tS_len]; exact Nat.le_trans hl (by decide)
  refine ⟨_, rfl, ?_⟩
  refine (sp_row_of_v (ex_l f1 h1) (h2.mono f1) h3 h4) H1 (Ex.refl _) _ (fun H2 f2 => .inl ⟨_, rfl, sz _ (by omega), _, rfl, by rw [e1]; exact sz _ (by omega), ?_⟩) E0
  refine ⟨"\n", rfl, by rw [e1, e2]; exact sz _ (by rw [List.length_append]; simp; omega), ?_⟩
  have f12 := f1.trans f2
  refine ⟨_, rfl, ?_⟩
  refine (sp_row_of_v (ex_l f12 h5) (h6.mono f12) h7 h8) H2 (Ex.refl _) _ (fun H3 f3 => .inl ⟨_, rfl, sz _ (by omega), _, rfl, by rw [e1, e2, e3]; exact sz _ (by show (rowS ds ++ 10 :: rowS es).length ≤ 1000; rw [List.length_append, List.length_cons]; omega), ?_⟩) E0
  exact k _ _ (f12.trans f3)

def sp_read_cell (K : PySem.W.Frag) : Sp := fun vs H Q _ => ∃ (w s : Addr) (a : V) (ws ss : List Nat) (d : Deed), vs = [.ref w, a, .ref s] ∧ H w = some (.lst (ws.map wV)) ∧ H s = some (.lst (ss.map wV)) ∧ DV K H a d ∧ d.ok ws.length ∧ ss.length ≤ 1000 ∧
  ∀ H', Bt [s] H H' → H' s = some (.lst ((ss ++ rdl ws d).map wV)) → Q .non H'
theorem d_read_cell (h : Has K mg "read_cell" s_read_cell) : Dn P w K mg base CX0 "read_cell" ["worths", "deed", "seen"] 1 (sp_read_cell K) := by
  refine dn_of h (fun f fd F => F.binds fun _ _ _ _ _ _ us hl => match us, hl with | [_, _, _], _ => rfl) fun f fd F _ => F.ok sc_read_cell (fun vs H Q E h => ?_) (fun cdv A outer s H vs Q E hr h => ?_)
  · obtain ⟨_, _, _, _, _, _, rfl, _⟩ := h
    rfl
  obtain ⟨w, s, _, ws, ss, d, rfl, hw, hs, ⟨a, rfl, h1⟩, ho, hz, k⟩ := h
  refine ⟨_, (pss_one (ps_if (pt_cmpR op_eq (pe_ix (ix_tupK K) (pv 1) pe_int (fun _ _ => rfl)) pe_str (nomark _)) (pss_one (ps_expr (pe_bm PySem.F.plainAttrs_list PySem.F.slot_list_append PySem.F.type_list_append mt_append (pv 2) (pa_cons (pe_ix (ix_listK K) (pv 0) (pe_ix (ix_tupK K) (pv 1) pe_int (fun _ _ => rfl)) (fun _ _ => rfl)) pa_nil)))) pss_nil)), ?_⟩
  refine s_when (b := decide (V.str d.tag = V.str "read")) (et_test (ev_op (ev_op (by walk_at "ev") (by walk_at "ev") (DV.tag h1)) (by walk_at "ev") (rv_eq rfl))) (fun hb H1 f1 => ?_) (fun hb H1 f1 => ?_)
  · cases d with
    | wr c x => exact absurd hb (by show ¬ decide (V.str "write" = V.str "read") = true; decide +kernel)
    | rs => exact absurd hb (by show ¬ decide (V.str "rest" = V.str "read") = true; decide +kernel)
    | rd c =>
      have g1 := ex_t f1 h1
      have gw := f1 _ _ hw
      have gs := f1 _ _ hs
      have hc : c < ws.length := ho
      have hx : (ws.map wV)[c]? = some (wV (ws.getD c 0)) := by rw [List.getElem?_map, List.getD_eq_getElem?_getD, List.getElem?_eq_getElem hc]; rfl
      refine s_app (l := s) (v := wV (ws.getD c 0)) gs (by walk_at "ev") (ev_op (by walk_at "ev") (ev_op (by walk_at "ev") (by walk_at "ev") (rv_ixT g1 rfl)) (rv_ixL (SqL.of gw) (atI_nat hx))) (by rw [List.length_map]; omega) fun H2 f2 => ?_
      refine k _ ((Bt.of_ex (f1.trans f2)).upd (.inl (by simp))) ?_
      rw [upd_same, List.map_append]
      rfl
  · refine k _ (Bt.of_ex f1) ?_
    cases d with
    | rd c => exact absurd hb (by show ¬ decide (V.str "read" = V.str "read") = false; decide +kernel)
    | wr c x => show H1 s = some (.lst ((ss ++ []).map wV)); rw [List.append_nil]; exact f1 _ _ hs
    | rs => show H1 s = some (.lst ((ss ++ []).map wV)); rw [List.append_nil]; exact f1 _ _ hs

def sp_write_cell (K : PySem.W.Frag) : Sp := fun vs H Q _ => ∃ (w : Addr) (a : V) (ws : List Nat) (d : Deed), vs = [.ref w, a] ∧ H w = some (.lst (ws.map wV)) ∧ DV K H a d ∧ d.ok ws.length ∧
  ∀ H', Bt [w] H H' → H' w = some (.lst ((wrl ws d).map wV)) → Q .non H'
theorem d_write_cell (h : Has K mg "write_cell" s_write_cell) : Dn P w K mg base CX0 "write_cell" ["worths", "deed"] 1 (sp_write_cell K) := by
  refine dn_of h (fun f fd F => F.binds fun _ _ _ _ _ _ us hl => match us, hl with | [_, _], _ => rfl) fun f fd F _ => F.ok sc_write_cell (fun vs H Q E h => ?_) (fun cdv A outer s H vs Q E hr h => ?_)
  · obtain ⟨_, _, _, _, rfl, _⟩ := h
    rfl
  obtain ⟨w, _, ws, d, rfl, hw, ⟨a, rfl, h1⟩, ho, k⟩ := h
  refine ⟨_, (pss_one (ps_if (pt_cmpR op_eq (pe_ix (ix_tupK K) (pv 1) pe_int (fun _ _ => rfl)) pe_str (nomark _)) (pss_one (ps_asg (pe_ix (ix_tupK K) (pv 1) pe_int (fun _ _ => rfl)) (pg_sub (pv 0) (pe_ix (ix_tupK K) (pv 1) pe_int (fun _ _ => rfl)) set_list))) pss_nil)), ?_⟩
  refine s_when (b := decide (V.str d.tag = V.str "write")) (et_test (ev_op (ev_op (by walk_at "ev") (by walk_at "ev") (DV.tag h1)) (by walk_at "ev") (rv_eq rfl))) (fun hb H1 f1 => ?_) (fun hb H1 f1 => ?_)
  · cases d with
    | rd c => exact absurd hb (by show ¬ decide (V.str "read" = V.str "write") = true; decide +kernel)
    | rs => exact absurd hb (by show ¬ decide (V.str "rest" = V.str "write") = true; decide +kernel)
    | wr c x =>
      have g1 := ex_t f1 h1
      have gw := f1 _ _ hw
      obtain ⟨hc, hx⟩ : c < ws.length ∧ x < 3 := ho
      refine s_setL (l := w) (v := wV x) (j := c) gw (ev_op (by walk_at "ev") (by walk_at "ev") (rv_ixT g1 rfl)) (by walk_at "ev") (ev_op (by walk_at "ev") (by walk_at "ev") (rv_ixT g1 rfl)) (by rw [List.length_map]; exact hc) fun H2 f2 => ?_
      refine k _ ((Bt.of_ex (f1.trans f2)).upd (.inl (by simp))) ?_
      rw [upd_same, wrl, List.map_set]
  · refine k _ (Bt.of_ex f1) ?_
    cases d with
    | wr c x => exact absurd hb (by show ¬ decide (V.str "write" = V.str "write") = false; decide +kernel)
    | rd c => exact f1 _ _ hw
    | rs => exact f1 _ _ hw

def sp_write_both (K : PySem.W.Frag) : Sp := fun vs H Q _ => ∃ (w : Addr) (a b : V) (ws : List Nat) (d e : Deed), vs = [.ref w, a, b] ∧ H w = some (.lst (ws.map wV)) ∧ DV K H a d ∧ DV K H b e ∧ d.ok ws.length ∧ e.ok ws.length ∧
  ∀ H', Bt [w] H H' → H' w = some (.lst ((wrl (wrl ws e) d).map wV)) → Q .non H'
theorem d_write_both (D_write_cell : Dn P w K mg base CX0 "write_cell" ["worths", "deed"] 1 (sp_write_cell K)) (h : Has K mg "write_both" s_write_both) : Dn P w K mg base CX0 "write_both" ["worths", "deed", "other"] 2 (sp_write_both K) := by
  refine dn_of h (fun f fd F => F.binds fun _ _ _ _ _ _ us hl => match us, hl with | [_, _, _], _ => rfl) fun f fd F _ => F.ok sc_write_both (fun vs H Q E h => ?_) (fun cdv A outer s H vs Q E hr h => ?_)
  · obtain ⟨_, _, _, _, _, _, rfl, _⟩ := h
    rfl
  obtain ⟨w, a, b, ws, d, e, rfl, hw, h1, h2, o1, o2, k⟩ := h
  refine ⟨_, (pss_cons (ps_expr (pe_dn D_write_cell hr (by omega) pass0 (pa_cons (pv 0) (pa_cons (pv 2) pa_nil))))
    (pss_one (ps_expr (pe_dn D_write_cell hr (by omega) pass0 (pa_cons (pv 0) (pa_cons (pv 1) pa_nil)))))), ?_⟩
  refine ⟨_, rfl, _, rfl, w, b, ws, e, rfl, hw, h2, o2, fun H1 b1 w1 => ?_⟩
  refine ⟨_, rfl, _, rfl, w, a, wrl ws e, d, rfl, w1, dv_buts b1 (by simp [hw]) h1, by rw [wrl_length]; exact o1, fun H2 b2 w2 => ?_⟩
  exact k H2 (b1.trans b2) w2

/-- a beat by a rule is done -/
def sp_step (K : PySem.W.Frag) (r : Rule) : Sp := fun vs H Q _ => ∃ (w s o : Addr) (a b : V) (ws ss os : List Nat) (d e : Deed), vs = [.ref w, a, b, .ref s, .ref o] ∧ H w = some (.lst (ws.map wV)) ∧ H s = some (.lst (ss.map wV)) ∧ H o = some (.lst (os.map wV)) ∧
  w ≠ s ∧ w ≠ o ∧ s ≠ o ∧ DV K H a d ∧ DV K H b e ∧ d.ok ws.length ∧ e.ok ws.length ∧ ss.length ≤ 1000 ∧ os.length ≤ 1000 ∧
  ∀ H', Bt [w, s, o] H H' → H' w = some (.lst ((beat r ws d e).1.map wV)) → H' s = some (.lst ((ss ++ (beat r ws d e).2.1).map wV)) → H' o = some (.lst ((os ++ (beat r ws d e).2.2).map wV)) → Q .non H'

theorem d_step_old (D_read_cell : Dn P w K mg base CX0 "read_cell" ["worths", "deed", "seen"] 1 (sp_read_cell K)) (D_write_cell : Dn P w K mg base CX0 "write_cell" ["worths", "deed"] 1 (sp_write_cell K))
    (D_write_both : Dn P w K mg base CX0 "write_both" ["worths", "deed", "other"] 2 (sp_write_both K)) (h : Has K mg "step_old" s_step_old) : Dn P w K mg base CX0 "step_old" ["worths", "deed", "other", "seen", "others"] 3 (sp_step K .old) := by
  refine dn_of h (fun f fd F => F.binds fun _ _ _ _ _ _ us hl => match us, hl with | [_, _, _, _, _], _ => rfl) fun f fd F _ => F.ok sc_step_old (fun vs H Q E h => ?_) (fun cdv A outer s H vs Q E hr h => ?_)
  · obtain ⟨_, _, _, _, _, _, _, _, _, _, rfl, _⟩ := h
    rfl
  obtain ⟨w, s, o, a, b, ws, ss, os, d, e, rfl, hw, hs, ho, nws, nwo, nso, h1, h2, o1, o2, z1, z2, k⟩ := h
  refine ⟨_, (pss_cons (ps_expr (pe_dn D_read_cell hr (by omega) pass0 (pa_cons (pv 0) (pa_cons (pv 1) (pa_cons (pv 3) pa_nil)))))
    (pss_cons (ps_expr (pe_dn D_read_cell hr (by omega) pass0 (pa_cons (pv 0) (pa_cons (pv 2) (pa_cons (pv 4) pa_nil)))))
    (pss_one (ps_expr (pe_dn D_write_both hr (by omega) pass0 (pa_cons (pv 0) (pa_cons (pv 1) (pa_cons (pv 2) pa_nil)))))))), ?_⟩
  refine ⟨_, rfl, _, rfl, _, rfl, w, s, a, ws, ss, d, rfl, hw, hs, h1, o1, z1, fun H1 b1 s1 => ?_⟩
  have w1 := b1 w _ (by simp [nws]) hw
  have q1 := b1 o _ (by simp [nso.symm]) ho
  have d2 := dv_buts b1 (by simp [hs]) h2
  refine ⟨_, rfl, _, rfl, _, rfl, w, o, b, ws, os, e, rfl, w1, q1, d2, o2, z2, fun H2 b2 q2 => ?_⟩
  have w2 := b2 w _ (by simp [nwo]) w1
  have s2 := b2 s _ (by simp [nso]) s1
  refine ⟨_, rfl, _, rfl, _, rfl, w, a, b, ws, d, e, rfl, w2, dv_buts b2 (by simp [q1]) (dv_buts b1 (by simp [hs]) h1), dv_buts b2 (by simp [q1]) d2, o1, o2, fun H3 b3 w3 => ?_⟩
  exact k H3 (((b1.mono (by simp)).trans (b2.mono (by simp))).trans (b3.mono (by simp))) w3 (b3 s _ (by simp [nws.symm]) s2) (b3 o _ (by simp [nwo.symm]) q2)

theorem d_step_new (D_read_cell : Dn P w K mg base CX0 "read_cell" ["worths", "deed", "seen"] 1 (sp_read_cell K)) (D_write_cell : Dn P w K mg base CX0 "write_cell" ["worths", "deed"] 1 (sp_write_cell K))
    (D_write_both : Dn P w K mg base CX0 "write_both" ["worths", "deed", "other"] 2 (sp_write_both K)) (h : Has K mg "step_new" s_step_new) : Dn P w K mg base CX0 "step_new" ["worths", "deed", "other", "seen", "others"] 3 (sp_step K .new) := by
  refine dn_of h (fun f fd F => F.binds fun _ _ _ _ _ _ us hl => match us, hl with | [_, _, _, _, _], _ => rfl) fun f fd F _ => F.ok sc_step_new (fun vs H Q E h => ?_) (fun cdv A outer s H vs Q E hr h => ?_)
  · obtain ⟨_, _, _, _, _, _, _, _, _, _, rfl, _⟩ := h
    rfl
  obtain ⟨w, s, o, a, b, ws, ss, os, d, e, rfl, hw, hs, ho, nws, nwo, nso, h1, h2, o1, o2, z1, z2, k⟩ := h
  refine ⟨_, (pss_cons (ps_expr (pe_dn D_write_both hr (by omega) pass0 (pa_cons (pv 0) (pa_cons (pv 1) (pa_cons (pv 2) pa_nil)))))
    (pss_cons (ps_expr (pe_dn D_read_cell hr (by omega) pass0 (pa_cons (pv 0) (pa_cons (pv 1) (pa_cons (pv 3) pa_nil)))))
    (pss_one (ps_expr (pe_dn D_read_cell hr (by omega) pass0 (pa_cons (pv 0) (pa_cons (pv 2) (pa_cons (pv 4) pa_nil)))))))), ?_⟩
  refine ⟨_, rfl, _, rfl, _, rfl, w, a, b, ws, d, e, rfl, hw, h1, h2, o1, o2, fun H1 b1 w1 => ?_⟩
  have s1 := b1 s _ (by simp [nws.symm]) hs
  have q1 := b1 o _ (by simp [nwo.symm]) ho
  have d1 := dv_buts b1 (by simp [hw]) h1
  have d2 := dv_buts b1 (by simp [hw]) h2
  refine ⟨_, rfl, _, rfl, _, rfl, w, s, a, _, ss, d, rfl, w1, s1, d1, by rw [wrl_length, wrl_length]; exact o1, z1, fun H2 b2 s2 => ?_⟩
  have w2 := b2 w _ (by simp [nws]) w1
  have q2 := b2 o _ (by simp [nso.symm]) q1
  refine ⟨_, rfl, _, rfl, _, rfl, w, o, b, _, os, e, rfl, w2, q2, dv_buts b2 (by simp [s1]) d2, by rw [wrl_length, wrl_length]; exact o2, z2, fun H3 b3 q3 => ?_⟩
  exact k H3 (((b1.mono (by simp)).trans (b2.mono (by simp))).trans (b3.mono (by simp))) (b3 w _ (by simp [nwo]) w2) (b3 s _ (by simp [nso]) s2) q3

theorem d_step_left (D_read_cell : Dn P w K mg base CX0 "read_cell" ["worths", "deed", "seen"] 1 (sp_read_cell K)) (D_write_cell : Dn P w K mg base CX0 "write_cell" ["worths", "deed"] 1 (sp_write_cell K))
    (D_write_both : Dn P w K mg base CX0 "write_both" ["worths", "deed", "other"] 2 (sp_write_both K)) (h : Has K mg "step_left" s_step_left) : Dn P w K mg base CX0 "step_left" ["worths", "deed", "other", "seen", "others"] 3 (sp_step K .left) := by
  refine dn_of h (fun f fd F => F.binds fun _ _ _ _ _ _ us hl => match us, hl with | [_, _, _, _, _], _ => rfl) fun f fd F _ => F.ok sc_step_left (fun vs H Q E h => ?_) (fun cdv A outer s H vs Q E hr h => ?_)
  · obtain ⟨_, _, _, _, _, _, _, _, _, _, rfl, _⟩ := h
    rfl
  obtain ⟨w, s, o, a, b, ws, ss, os, d, e, rfl, hw, hs, ho, nws, nwo, nso, h1, h2, o1, o2, z1, z2, k⟩ := h
  refine ⟨_, (pss_cons (ps_expr (pe_dn D_read_cell hr (by omega) pass0 (pa_cons (pv 0) (pa_cons (pv 1) (pa_cons (pv 3) pa_nil)))))
    (pss_cons (ps_expr (pe_dn D_write_cell hr (by omega) pass0 (pa_cons (pv 0) (pa_cons (pv 1) pa_nil))))
    (pss_cons (ps_expr (pe_dn D_read_cell hr (by omega) pass0 (pa_cons (pv 0) (pa_cons (pv 2) (pa_cons (pv 4) pa_nil)))))
    (pss_one (ps_expr (pe_dn D_write_cell hr (by omega) pass0 (pa_cons (pv 0) (pa_cons (pv 2) pa_nil)))))))), ?_⟩
  refine ⟨_, rfl, _, rfl, _, rfl, w, s, a, ws, ss, d, rfl, hw, hs, h1, o1, z1, fun H1 b1 s1 => ?_⟩
  have w1 := b1 w _ (by simp [nws]) hw
  have q1 := b1 o _ (by simp [nso.symm]) ho
  have e1 := dv_buts b1 (by simp [hs]) h1
  have e2 := dv_buts b1 (by simp [hs]) h2
  refine ⟨_, rfl, _, rfl, w, a, ws, d, rfl, w1, e1, o1, fun H2 b2 w2 => ?_⟩
  have s2 := b2 s _ (by simp [nws.symm]) s1
  have q2 := b2 o _ (by simp [nwo.symm]) q1
  have f2 := dv_buts b2 (by simp [w1]) e2
  refine ⟨_, rfl, _, rfl, _, rfl, w, o, b, _, os, e, rfl, w2, q2, f2, by rw [wrl_length]; exact o2, z2, fun H3 b3 q3 => ?_⟩
  have w3 := b3 w _ (by simp [nwo]) w2
  have s3 := b3 s _ (by simp [nso]) s2
  refine ⟨_, rfl, _, rfl, w, b, _, e, rfl, w3, dv_buts b3 (by simp [q2]) f2, by rw [wrl_length]; exact o2, fun H4 b4 w4 => ?_⟩
  exact k H4 ((((b1.mono (by simp)).trans (b2.mono (by simp))).trans (b3.mono (by simp))).trans (b4.mono (by simp))) w4 (b4 s _ (by simp [nws.symm]) s3) (b4 o _ (by simp [nwo.symm]) q3)

theorem d_step_right (D_step_left : Dn P w K mg base CX0 "step_left" ["worths", "deed", "other", "seen", "others"] 3 (sp_step K .left)) (h : Has K mg "step_right" s_step_right) : Dn P w K mg base CX0 "step_right" ["worths", "deed", "other", "seen", "others"] 4 (sp_step K .right) := by
  refine dn_of h (fun f fd F => F.binds fun _ _ _ _ _ _ us hl => match us, hl with | [_, _, _, _, _], _ => rfl) fun f fd F _ => F.ok sc_step_right (fun vs H Q E h => ?_) (fun cdv A outer s H vs Q E hr h => ?_)
  · obtain ⟨_, _, _, _, _, _, _, _, _, _, rfl, _⟩ := h
    rfl
  obtain ⟨w, s, o, a, b, ws, ss, os, d, e, rfl, hw, hs, ho, nws, nwo, nso, h1, h2, o1, o2, z1, z2, k⟩ := h
  refine ⟨_, (pss_one (ps_expr (pe_dn D_step_left hr (by omega) pass0 (pa_cons (pv 0) (pa_cons (pv 2) (pa_cons (pv 1) (pa_cons (pv 4) (pa_cons (pv 3) pa_nil)))))))), ?_⟩
  refine ⟨_, rfl, _, rfl, _, rfl, _, rfl, _, rfl, w, o, s, b, a, ws, os, ss, e, d, rfl, hw, ho, hs, nwo, nws, nso.symm, h2, h1, o2, o1, z2, z1, fun H1 b1 w1 q1 s1 => ?_⟩
  exact k H1 (b1.mono (by simp)) w1 s1 q1

def sp_due (K : PySem.W.Frag) : Sp := fun vs H Q _ => ∃ (p : Addr) (us : List V) (ds : List Deed) (i : Nat), vs = [.ref p, .int i] ∧ SqL K H p us ∧ PV K H us ds ∧ ∀ (v : V) (H' : Hp), Ex H H' → DV K H' v (ds.getD i .rs) → Q v H'
theorem d_due {aREST aWORTHS : Addr} {t4 t40 : Tok} (T : Nb mg) (G : TxP K mg aREST aWORTHS t4 t40) (h : Has K mg "due" s_due) : Dn P w K mg base CX0 "due" ["program", "place"] 1 (sp_due K) := by
  refine dn_of h (fun f fd F => F.binds fun _ _ _ _ _ _ us hl => match us, hl with | [_, _], _ => rfl) fun f fd F _ => F.ok sc_due (fun vs H Q E h => ?_) (fun cdv A outer s H vs Q E hr h => ?_)
  · obtain ⟨_, _, _, _, rfl, _⟩ := h
    rfl
  obtain ⟨p, us, ds, i, rfl, h1, h2, k⟩ := h
  refine ⟨_, (pss_cons (ps_if (pt_cmpR op_lt (pv 1) (pe_callB (call_len_seqK K) (by rfl) T.n_len PySem.boot_len (pa_cons (pv 0) pa_nil)) (nomark _)) (pss_one (ps_ret (pe_ix (ix_listK K) (pv 0) (pv 1) (fun _ _ => rfl)))) pss_nil)
    (pss_one (ps_ret (pe_glob (v := .ref aREST) rfl G.g_REST rfl)))), ?_⟩
  have hl := h2.length
  refine q_when (b := decide ((i : Int) < (us.length : Int))) (et_test (by walk_at "ev")) (fun hb H1 f1 => ?_) (fun hb H1 f1 => ?_)
  · have hi : i < us.length := by have := of_decide_eq_true hb; omega
    obtain ⟨d, hd, dv⟩ := h2.get (List.getElem?_eq_getElem hi)
    refine s_ret (v := us[i]) (ev_op (by walk_at "ev") (by walk_at "ev") (rv_ixL (ex_l f1 h1) (atI_nat (List.getElem?_eq_getElem hi)))) fun H2 f2 => k _ H2 (f1.trans f2) ?_
    rw [List.getD_eq_getElem?_getD, hd]
    exact dv.mono (f1.trans f2)
  · have hi : ¬ i < us.length := by have := of_decide_eq_false hb; omega
    refine s_ret (v := .ref aREST) (by walk_at "ev") fun H2 f2 => k _ H2 (f1.trans f2) ?_
    rw [List.getD_eq_getElem?_getD, List.getElem?_eq_none_iff.mpr (by omega)]
    exact ⟨aREST, rfl, G.REST _⟩

/-- what run tells: two new lists, a new tuple, a number -/
def Told (K : PySem.W.Frag) (H H' : Hp) (v : V) (S : Sts) : Prop := ∃ t s o m : Addr, v = .ref t ∧ H' t = some (.tup [.ref s, .ref o, .ref m, .int S.n]) ∧ H' s = some (.lst (S.ss.map wV)) ∧ H' o = some (.lst (S.os.map wV)) ∧ SqT K H' m (S.ws.map wV) ∧
  H s = none ∧ H o = none ∧ s ≠ o ∧ Ex H H'
theorem Told.back {K : PySem.W.Frag} {H0 H H' : Hp} {v : V} {S : Sts} (f : Ex H0 H) (h : Told K H H' v S) : Told K H0 H' v S := by
  obtain ⟨t, s, o, m, a1, a2, a3, a4, a5, a6, a7, a8, a9⟩ := h
  exact ⟨t, s, o, m, a1, a2, a3, a4, a5, fresh_back f a6, fresh_back f a7, a8, f.trans a9⟩
def sp_play (K : PySem.W.Frag) : Sp := fun vs H Q _ => ∃ (r : Rule) (m p q : Addr) (ws : List Nat) (us xs : List V) (ds es : List Deed), vs = [.str r.name, .ref m, .ref p, .ref q] ∧ SqT K H m (ws.map wV) ∧ (∀ x ∈ ws, x < 3) ∧ SqL K H p us ∧ PV K H us ds ∧ ds.length ≤ 40 ∧ (∀ d ∈ ds, d.ok ws.length) ∧
  SqL K H q xs ∧ PV K H xs es ∧ es.length ≤ 40 ∧ (∀ d ∈ es, d.ok ws.length) ∧ ∀ (v : V) (H' : Hp), Told K H H' v (out r (begin0 ws ds es)) → Q v H'
theorem d_play {aREST aWORTHS : Addr} {t4 t40 : Tok} {aRULES aSTEPS : Addr} (T : Nb mg) (G : TxP K mg aREST aWORTHS t4 t40) (R : TxR K mg w aRULES aSTEPS) (D_due : Dn P w K mg base CX0 "due" ["program", "place"] 1 (sp_due K)) (D_clash : Dn P w K mg base CX0 "clash" ["deed", "other"] 1 (sp_clash K))
    (D_old : Dn P w K mg base CX0 "step_old" ["worths", "deed", "other", "seen", "others"] 3 (sp_step K .old)) (D_new : Dn P w K mg base CX0 "step_new" ["worths", "deed", "other", "seen", "others"] 3 (sp_step K .new))
    (D_left : Dn P w K mg base CX0 "step_left" ["worths", "deed", "other", "seen", "others"] 3 (sp_step K .left)) (D_right : Dn P w K mg base CX0 "step_right" ["worths", "deed", "other", "seen", "others"] 4 (sp_step K .right))
    (h : Has K mg "play" s_play) : Dn P w K mg base CX0 "play" ["rule", "memory", "left", "right"] 5 (sp_play K) := by
  refine dn_of h (fun f fd F => F.binds fun _ _ _ _ _ _ us hl => match us, hl with | [_, _, _, _], _ => rfl) fun f fd F _ => F.ok sc_play (fun vs H Q E h => ?_) (fun cdv A outer s H vs Q E hr h => ?_)
  · obtain ⟨_, _, _, _, _, _, _, _, _, rfl, _⟩ := h
    rfl
  obtain ⟨r, m, p, q, ws, us, xs, ds, es, rfl, hm, hw3, hp, hP, hl40, hok1, hq, hX, hr40, hok2, k⟩ := h
  have D_step : Dn P w K mg base CX0 r.step ["worths", "deed", "other", "seen", "others"] 4 (sp_step K (if r = .wait then .left else r)) := by
    cases r with
    | old => exact D_old.up (by omega)
    | new => exact D_new.up (by omega)
    | left => exact D_left.up (by omega)
    | right => exact D_right
    | wait => exact D_left.up (by omega)
  obtain ⟨fs, ms, kd⟩ := R.STEPS r
  obtain ⟨fs', fds, F_step, ms', k_step, b_step⟩ := D_step.ex
  have efs : fs' = fs := by
    have z := ms'.symm.trans ms
    injection z with z
    injection z
  subst efs
  refine ⟨_, (pss_cons (ps_set (i := 4) sc_play.nd rfl (Or.inl rfl) (pe_ix ix_kdict (pe_glob (v := .ref aSTEPS) rfl R.g_STEPS rfl) (pv 0) (fun _ _ => rfl)))
    (pss_cons (ps_set (i := 5) sc_play.nd rfl (Or.inl rfl) (pe_callTy (call_list_ofK K) (by rfl) T.n_list PyProof.Rows.boot_list (pa_cons (pv 1) pa_nil)))
    (pss_cons (ps_set (i := 6) sc_play.nd rfl (Or.inl rfl) (pe_lst pa_nil))
    (pss_cons (ps_set (i := 7) sc_play.nd rfl (Or.inl rfl) (pe_lst pa_nil))
    (pss_cons (ps_set (i := 8) sc_play.nd rfl (Or.inl rfl) pe_int)
    (pss_cons (ps_set (i := 9) sc_play.nd rfl (Or.inl rfl) pe_int)
    (pss_cons (ps_while PassesOwn.never (PW.pt (pw_or (pt_cmpR op_lt (pv 8) (pe_callB (call_len_seqK K) (by rfl) T.n_len PySem.boot_len (pa_cons (pv 2) pa_nil)) (nomark _)) (pw_or1 (pt_cmpR op_lt (pv 9) (pe_callB (call_len_seqK K) (by rfl) T.n_len PySem.boot_len (pa_cons (pv 3) pa_nil)) (nomark _)))))
      (pss_cons (ps_set (i := 10) sc_play.nd rfl (Or.inl rfl) (pe_dn D_due hr (by omega) pass0 (pa_cons (pv 2) (pa_cons (pv 8) pa_nil))))
      (pss_cons (ps_set (i := 11) sc_play.nd rfl (Or.inl rfl) (pe_dn D_due hr (by omega) pass0 (pa_cons (pv 3) (pa_cons (pv 9) pa_nil))))
      (pss_cons (ps_if (PW.pt (pw_and (pt_cmpR op_eq (pv 0) pe_str (nomark _)) (pw_and1 (pt_val (pe_dn D_clash hr (by omega) pass0 (pa_cons (pv 10) (pa_cons (pv 11) pa_nil))))))) (pss_one (ps_set (i := 11) sc_play.nd rfl (Or.inl rfl) (pe_glob (v := .ref aREST) rfl G.g_REST rfl))) (pss_one (ps_aug (i := 9) sc_play.nd rfl (Or.inl rfl) pe_int ip_add)))
      (pss_cons (ps_expr (pe_callL (i := 4) F_step (hr.mono (by omega)) rfl (Or.inl rfl) k_step b_step .nil pass0 (pa_cons (pv 5) (pa_cons (pv 10) (pa_cons (pv 11) (pa_cons (pv 6) (pa_cons (pv 7) pa_nil)))))))
      (pss_one (ps_aug (i := 8) sc_play.nd rfl (Or.inl rfl) pe_int ip_add)))))))
    (pss_one (ps_ret (pe_tup (pa_cons (pv 6) (pa_cons (pv 7) (pa_cons (pe_callTy call_tuple_of (by rfl) T.n_tuple PyProof.Rows.boot_tuple (pa_cons (pv 5) pa_nil)) (pa_cons (pv 8) pa_nil)))))))))))))), ?_⟩
  have hPl := hP.length
  have hXl := hX.length
  refine q_asg (v := .ref fs') (ev_op (by walk_at "ev") (by walk_at "ev") (rv_val fun H1 f1 Q q => ⟨_, _, _, rfl, rfl, kd, q⟩)) fun H1 f1 => ?_
  refine q_asgL (xs := ws.map wV) (fun H2 f2 Q q => ⟨_, rfl, m, _, rfl, .inr (ex_t (f1.trans f2) hm), fun l hl => q l _ hl (Ex.new hl) upd_same⟩) fun w' H2 nw f2 hw => ?_
  refine q_asgL (xs := []) (el_lst ea_nil (by decide)) fun s' H3 ns f3 hs => ?_
  refine q_asgL (xs := []) (el_lst ea_nil (by decide)) fun o' H4 no f4 ho => ?_
  refine q_asg (v := .int 0) (by walk_at "ev") fun H5 f5 => ?_
  refine q_asg (v := .int 0) (by walk_at "ev") fun H6 f6 => ?_
  have f16 := ((((f1.trans f2).trans f3).trans f4).trans f5).trans f6
  have nws : w' ≠ s' := ne_of_none hw ns
  have nwo : w' ≠ o' := ne_of_none (f3 _ _ hw) no
  have nso : s' ≠ o' := ne_of_none hs no
  have nw0 : H w' = none := fresh_back f1 nw
  have ns0 : H s' = none := fresh_back (f1.trans f2) ns
  have no0 : H o' = none := fresh_back ((f1.trans f2).trans f3) no
  have hfit := Fit.begin0 (c := ws.length) (l := ds) (r := es) rfl hw3 hok1 hok2
  refine q_while (fun mm σ' H' => ∃ (S : Sts) (i j : Nat) (d e : Option V), mm = S.meas ∧ σ' = [some (.str r.name), some (.ref m), some (.ref p), some (.ref q), some (.ref fs'), some (.ref w'), some (.ref s'), some (.ref o'), some (.int i), some (.int j), d, e] ∧
      H' w' = some (.lst (S.ws.map wV)) ∧ H' s' = some (.lst (S.ss.map wV)) ∧ H' o' = some (.lst (S.os.map wV)) ∧ Ex H H' ∧ S.l = ds.drop i ∧ S.r = es.drop j ∧ S.n = i ∧ Fit ws.length (ds.length + es.length) S ∧ out r S = out r (begin0 ws ds es)) (begin0 ws ds es).meas
    ⟨begin0 ws ds es, 0, 0, none, none, rfl, rfl, (f6 _ _ (f5 _ _ (f4 _ _ (f3 _ _ hw)))), f6 _ _ (f5 _ _ (f4 _ _ hs)), f6 _ _ (f5 _ _ ho), f16, rfl, rfl, rfl, hfit, rfl⟩ ?_
  rintro mm σ' H' ⟨S, i, j, d0, e0, rfl, rfl, gw, gs, go, ge, hl, hrr, hn, fit, ho⟩
  refine ⟨decide ((i : Int) < (us.length : Int)) || decide ((j : Int) < (xs.length : Int)), et_or (et_test (ev_op (by walk_at "ev") (ev_cb (ea_cons (ev_var (v := .ref p) rfl) ea_nil) (rc_lenL (ex_l ge hp))) rv_I0)) (fun _ => et_test (ev_op (by walk_at "ev") (ev_cb (ea_cons (ev_var (v := .ref q) rfl) ea_nil) (rc_lenL (ex_l ge hq))) rv_I0)), fun hb H7 f7 => ?_, fun hb H7 f7 => ?_⟩
  · -- a beat
    have nd : ¬ S.done := by
      rintro ⟨z1, z2⟩
      rw [hl] at z1
      rw [hrr] at z2
      have y1 := congrArg List.length z1
      have y2 := congrArg List.length z2
      rw [List.length_drop] at y1 y2
      simp only [List.length_nil] at y1 y2
      rw [Bool.or_eq_true] at hb
      rcases hb with hb | hb
      · have := of_decide_eq_true hb; omega
      · have := of_decide_eq_true hb; omega
    have less := one_less (r := r) nd
    have fit1 := fit.one (r := r) nd
    have out1 := (out_one (r := r) nd).trans ho
    refine ⟨fun σ2 H2 => ∃ (S2 : Sts) (i j : Nat) (d e : Option V), S2.meas < S.meas ∧ σ2 = [some (.str r.name), some (.ref m), some (.ref p), some (.ref q), some (.ref fs'), some (.ref w'), some (.ref s'), some (.ref o'), some (.int i), some (.int j), d, e] ∧
      H2 w' = some (.lst (S2.ws.map wV)) ∧ H2 s' = some (.lst (S2.ss.map wV)) ∧ H2 o' = some (.lst (S2.os.map wV)) ∧ Ex H H2 ∧ S2.l = ds.drop i ∧ S2.r = es.drop j ∧ S2.n = i ∧ Fit ws.length (ds.length + es.length) S2 ∧ out r S2 = out r (begin0 ws ds es), ?_, ?_⟩
    · rintro σ2 H2 ⟨S2, i2, j2, d2, e2, q1, q2, q3, q4, q5, q6, q7, q8, q9, q10, q11⟩
      exact ⟨S2.meas, q1, S2, i2, j2, d2, e2, rfl, q2, q3, q4, q5, q6, q7, q8, q9, q10, q11⟩
    have ge7 := ge.trans f7
    -- both deeds
    refine ⟨_, rfl, _, rfl, p, us, ds, i, rfl, ex_l ge7 hp, hP.mono ge7, fun vd H8 f8 dv => ?_⟩
    have ge8 := ge7.trans f8
    refine ⟨_, rfl, _, rfl, q, xs, es, j, rfl, ex_l ge8 hq, hX.mono ge8, fun ve H9 f9 ev => ?_⟩
    have ge9 := ge8.trans f9
    have dv := dv.mono f9
    have ehl : S.l.headD .rs = ds.getD i .rs := by rw [hl]; exact headD_drop ds i
    have ehr : S.r.headD .rs = es.getD j .rs := by rw [hrr]; exact headD_drop es j
    rw [← ehl] at dv
    rw [← ehr] at ev
    have etl : S.l.tail = ds.drop (i + 1) := by rw [hl, List.tail_drop]
    have etr : S.r.tail = es.drop (j + 1) := by rw [hrr, List.tail_drop]
    have h9 := (f7.trans f8).trans f9
    have gw9 := h9 _ _ gw
    have gs9 := h9 _ _ gs
    have go9 := h9 _ _ go
    have okd := ok_headD fit.okl
    have oke := ok_headD fit.okr
    rw [← fit.len] at okd oke
    have zs := fit.ss
    have zo := fit.os
    have cl := sp_clash_v dv ev
    have wd : decide (V.str r.name = V.str "wait") = decide (r = .wait) := by cases r <;> decide +kernel
    refine gn ?_
    dsimp only
    refine q_if (b := waits r S) (et_and (a := decide (r = .wait)) (et_is (et_test (ev_op (x := .str r.name) (y := .str "wait") (by walk_at "ev") (by walk_at "ev") (rv_eq rfl))) wd) (fun _ => et_B (ev_call (ea_cons (ev_var (v := vd) rfl) (ea_cons (ev_var (v := ve) rfl) ea_nil)) cl))) (fun hb2 H10 f10 => ?_) (fun hb2 H10 f10 => ?_)
    · -- the right door waits
      have hrw : r = .wait := by
        unfold waits at hb2
        rw [Bool.and_eq_true] at hb2
        exact of_decide_eq_true hb2.1
      refine s_asg (v := .ref aREST) (by walk_at "ev") fun H11 f11 => ?_
      have f911 := f10.trans f11
      refine ⟨rfl, _, rfl, _, rfl, _, rfl, _, rfl, _, rfl, w', s', o', vd, .ref aREST, S.ws, S.ss, S.os, S.l.headD .rs, .rs, rfl, f911 _ _ gw9, f911 _ _ gs9, f911 _ _ go9, nws, nwo, nso, dv.mono f911, ⟨aREST, rfl, G.REST _⟩, okd, True.intro, by omega, by omega, fun H12 b12 w12 s12 o12 => ?_⟩
      refine s_aug (a := i) (b := 1) rfl ev_c fun H13 f13 => ?_
      have e1 : one r S = after S (beat .left S.ws (S.l.headD .rs) .rs) true := if_pos hb2
      rw [e1] at less fit1 out1
      have e2 : (if r = Rule.wait then Rule.left else r) = .left := if_pos hrw
      rw [e2] at w12 s12 o12
      exact ⟨_, i + 1, j, _, _, less, rfl, f13 _ _ w12, f13 _ _ s12, f13 _ _ o12, ((Bt.of_ex (ge9.trans f911)).trans (b12)).ex_back f13 (by simp [nw0, ns0, no0]), etl, hrr, (by show S.n + 1 = i + 1; omega), fit1, out1⟩
    · refine s_aug (a := j) (b := 1) rfl ev_c fun H11 f11 => ?_
      have f911 := f10.trans f11
      refine ⟨rfl, _, rfl, _, rfl, _, rfl, _, rfl, _, rfl, w', s', o', vd, ve, S.ws, S.ss, S.os, S.l.headD .rs, S.r.headD .rs, rfl, f911 _ _ gw9, f911 _ _ gs9, f911 _ _ go9, nws, nwo, nso, dv.mono f911, ev.mono f911, okd, oke, by omega, by omega, fun H12 b12 w12 s12 o12 => ?_⟩
      refine s_aug (a := i) (b := 1) rfl ev_c fun H13 f13 => ?_
      have e1 : one r S = after S (beat r S.ws (S.l.headD .rs) (S.r.headD .rs)) false := if_neg (by rw [hb2]; exact Bool.false_ne_true)
      rw [e1] at less fit1 out1
      have e2 : ∀ d e, beat (if r = Rule.wait then Rule.left else r) S.ws d e = beat r S.ws d e := by
        intro d e
        cases r <;> rfl
      rw [e2] at w12 s12 o12
      exact ⟨_, i + 1, j + 1, _, _, less, rfl, f13 _ _ w12, f13 _ _ s12, f13 _ _ o12, ((Bt.of_ex (ge9.trans f911)).trans (b12)).ex_back f13 (by simp [nw0, ns0, no0]), etl, etr, (by show S.n + 1 = i + 1; omega), fit1, out1⟩
  · -- all is done
    have hd : S.done := by
      rw [Bool.or_eq_false_iff] at hb
      have y1 := of_decide_eq_false hb.1
      have y2 := of_decide_eq_false hb.2
      exact ⟨by rw [hl]; exact List.drop_of_length_le (by omega), by rw [hrr]; exact List.drop_of_length_le (by omega)⟩
    rw [out_done hd] at ho
    have f7e := ge.trans f7
    refine ⟨_, rfl, _, rfl, _, rfl, w', _, rfl, .inl ⟨SqL.of (f7 _ _ gw), fun m' nm => ?_⟩⟩
    refine ⟨_, rfl, by show 4 ≤ sizeLine; decide, fun t' nt => ?_⟩
    have g1 := Ex.new (o := .tup (S.ws.map wV)) nm
    have g2 := Ex.new (o := .tup [.ref s', .ref o', .ref m', .int i]) nt
    refine k _ _ ⟨t', s', o', m', rfl, ?_, ?_, ?_, ?_, ns0, no0, nso, (f7e.trans g1).trans g2⟩
    · rw [← ho, hn]; exact upd_same
    · rw [← ho]; exact g2 _ _ (g1 _ _ (f7 _ _ gs))
    · rw [← ho]; exact g2 _ _ (g1 _ _ (f7 _ _ go))
    · rw [← ho]; exact SqT.of (g2 _ _ upd_same)

theorem dp_o {H' : Hp} {t s o m : Addr} {S : Sts} (ht : H' t = some (.tup [.ref s, .ref o, .ref m])) (hs : H' s = some (.lst (S.ss.map wV))) (ho : H' o = some (.lst (S.os.map wV))) (hm : SqT K H' m (S.ws.map wV)) : Dp K H' (.ref t) (datO S) :=
  .tup (SqT.of ht) (.cons (.lst (SqL.of hs) (dpa_w _)) (.cons (.lst (SqL.of ho) (dpa_w _)) (.cons (.tup hm (dpa_w _)) .nil)))
def sp_outcome (K : PySem.W.Frag) : Sp := fun vs H Q _ => ∃ (r : Rule) (m p q : Addr) (ws : List Nat) (us xs : List V) (ds es : List Deed), vs = [.str r.name, .ref m, .ref p, .ref q] ∧ SqT K H m (ws.map wV) ∧ (∀ x ∈ ws, x < 3) ∧ SqL K H p us ∧ PV K H us ds ∧ ds.length ≤ 40 ∧ (∀ d ∈ ds, d.ok ws.length) ∧
  SqL K H q xs ∧ PV K H xs es ∧ es.length ≤ 40 ∧ (∀ d ∈ es, d.ok ws.length) ∧ ∀ (v : V) (H' : Hp), Dp K H' v (datO (out r (begin0 ws ds es))) → Ex H H' → Q v H'
theorem d_outcome (D_play : Dn P w K mg base CX0 "play" ["rule", "memory", "left", "right"] 5 (sp_play K)) (h : Has K mg "outcome" s_outcome) : Dn P w K mg base CX0 "outcome" ["rule", "memory", "left", "right"] 6 (sp_outcome K) := by
  refine dn_of h (fun f fd F => F.binds fun _ _ _ _ _ _ us hl => match us, hl with | [_, _, _, _], _ => rfl) fun f fd F _ => F.ok sc_outcome (fun vs H Q E h => ?_) (fun cdv A outer s H vs Q E hr h => ?_)
  · obtain ⟨_, _, _, _, _, _, _, _, _, rfl, _⟩ := h
    rfl
  obtain ⟨r, m, p, q, ws, us, xs, ds, es, rfl, hm, hw3, hp, hP, hl40, hok1, hq, hX, hr40, hok2, k⟩ := h
  refine ⟨_, (pss_cons (ps_asg (pe_dn D_play hr (by omega) pass0 (pa_cons (pv 0) (pa_cons (pv 1) (pa_cons (pv 2) (pa_cons (pv 3) pa_nil))))) (pg_tup rfl (pgs_cons (pg_name (i := 4) sc_outcome.nd rfl (Or.inl rfl)) (pgs_cons (pg_name (i := 5) sc_outcome.nd rfl (Or.inl rfl)) (pgs_cons (pg_name (i := 6) sc_outcome.nd rfl (Or.inl rfl)) (pgs_cons (pg_name (i := 7) sc_outcome.nd rfl (Or.inl rfl)) pgs_nil))))))
    (pss_one (ps_ret (pe_tup (pa_cons (pv 4) (pa_cons (pv 5) (pa_cons (pv 6) pa_nil))))))), ?_⟩
  refine ⟨_, rfl, _, rfl, _, rfl, _, rfl, r, m, p, q, ws, us, xs, ds, es, rfl, hm, hw3, hp, hP, hl40, hok1, hq, hX, hr40, hok2, fun v H1 t => ?_⟩
  obtain ⟨t, s', o', m', rfl, a2, a3, a4, a5, a6, a7, a8, a9⟩ := t
  refine ⟨t, _, rfl, SqT.of a2, rfl, ?_⟩
  refine ⟨_, _, rfl, ?_⟩
  refine gn ?_
  try dsimp only
  refine ⟨_, _, rfl, ?_⟩
  refine gn ?_
  try dsimp only
  refine ⟨_, _, rfl, ?_⟩
  refine gn ?_
  try dsimp only
  refine ⟨_, _, rfl, ?_⟩
  refine gn ?_
  refine ⟨rfl, ?_⟩
  refine s_retU (xs := [.ref s', .ref o', .ref m']) (eu_tup (ea_cons (ev_var rfl) (ea_cons (ev_var rfl) (ea_cons (ev_var rfl) ea_nil))) (by simp)) fun t2 H2 n2 f2 h2 => ?_
  exact k _ _ (dp_o h2 (f2 _ _ a3) (f2 _ _ a4) (ex_t f2 a5)) (a9.trans f2)

def sp_all_memories (K : PySem.W.Frag) : Sp := fun vs H Q _ => ∃ (c : Nat), vs = [.int c] ∧ c ≤ 4 ∧ ∀ (l : Addr) (us : List V) (H' : Hp), H l = none → Ex H H' → H' l = some (.lst us) → MVs K H' us (mems c) → Q (.ref l) H'
theorem d_all_memories {aREST aWORTHS : Addr} {t4 t40 : Tok} (T : Nb mg) (G : TxP K mg aREST aWORTHS t4 t40) (h : Has K mg "all_memories" s_all_memories) : Dn P w K mg base CX0 "all_memories" ["cells"] 1 (sp_all_memories K) := by
  refine dn_of h (fun f fd F => F.binds fun _ _ _ _ _ _ us hl => match us, hl with | [_], _ => rfl) fun f fd F _ => F.ok sc_all_memories (fun vs H Q E h => ?_) (fun cdv A outer s H vs Q E hr h => ?_)
  · obtain ⟨_, rfl, _⟩ := h
    rfl
  obtain ⟨c, rfl, hc, k⟩ := h
  refine ⟨_, (pss_cons (ps_set (i := 1) sc_all_memories.nd rfl (Or.inl rfl) (pe_lst (pa_cons (pe_tup pa_nil) pa_nil)))
    (pss_cons (ps_for PassesOwn.never rfl (pi_range1 rfl T.n_range (pa_cons (pv 0) pa_nil)) (pg_name (i := 2) sc_all_memories.nd rfl (Or.inl rfl))
      (pss_one (ps_setLc2 (i := 1) (own := [("memory", 3), ("worth", 4)]) (vs1 := [4]) rfl sc_all_memories.nd rfl rfl (sw_true rfl rfl rfl (by decide +kernel)) (pi_list (pv 1)) (blkOk_by (own := [("memory", 3), ("worth", 4)]) (N := ["cells", "memories", "_", "memory", "worth"]) (sc := defScope s_all_memories) (by decide +kernel)) (by decide) (fun _ _ _ _ _ => (pg_name (i := 3) sc_all_memories.nd rfl (Or.inl rfl))) (fun _ _ _ _ _ => pts_nil) (fun _ _ _ _ _ => (pi_tupK K (pe_glob (v := .ref aWORTHS) rfl G.g_WORTHS rfl))) (fun _ _ _ _ _ => (pg_name (i := 4) sc_all_memories.nd rfl (Or.inl rfl))) (fun _ _ _ _ _ => pts_nil) (fun _ _ _ _ _ => (pe_tup (pa_starK K (pv 3) (pa_cons (pv 4) pa_nil)))))))
    (pss_one (ps_ret (pv 1))))), ?_⟩
  refine ⟨by show 0 ≤ sizeLine; decide, fun t nt => ⟨by show 1 ≤ sizeLine; decide, fun a0 na => ?_⟩⟩
  refine gn ?_
  dsimp only
  have x1 := Ex.new (o := .tup []) nt
  have x2 := Ex.new (o := .lst [.ref t]) na
  have h0 : (upd (upd H t (.tup [])) a0 (.lst [.ref t])) a0 = some (.lst [.ref t]) := upd_same
  have ht0 := x2 _ _ (upd_same (H := H) (a := t) (o := .tup []))
  refine q_forR1 (n := (c : Int)) (by walk_at "ea") (by omega) (fun i σ' H' => ∃ (v2 v3 v4 : Option V) (a : Addr) (us : List V), σ' = [some (.int (c : Int)), some (.ref a), v2, v3, v4] ∧ H a = none ∧ H' a = some (.lst us) ∧ MVs K H' us (mems i) ∧ Ex H H')
    (fun H2 f2 => ⟨none, none, none, a0, _, rfl, fresh_back x1 na, f2 _ _ h0, .cons ⟨t, rfl, SqT.of (f2 _ _ ht0)⟩ .nil, (x1.trans x2).trans f2⟩) ?_ ?_
  · rintro i σ' H' hi ⟨v2, v3, v4, a, us, rfl, na', ha, hM, f⟩
    refine ⟨_, rfl, a, rfl, ⟨us, SqL.of ha⟩, fun D hD => ?_⟩
    have hml : (mems i).length ≤ 81 := by
      rw [mems_length]
      have h4 : i ≤ 3 := by omega
      calc 3 ^ i ≤ 3 ^ 3 := Nat.pow_le_pow_right (by decide) h4
        _ ≤ 81 := by decide
    have hul := hM.length
    refine it_list (xs := us) (fun j X => ∃ bs, X D = some (.lst bs) ∧ MVs K X bs (((mems i).take j).flatMap grow) ∧ Ex H' X ∧ bs.length = 3 * j) ⟨[], upd_same, .nil, Ex.new hD, rfl⟩ (fun j X _ ⟨_, _, _, e, _⟩ => SqL.of (e _ _ ha)) ?_ ?_
    · rintro j x X hx ⟨bs, hb, hMb, eX, hlen⟩
      have hju := (List.getElem?_eq_some_iff.mp hx).1
      obtain ⟨m, hm, pm, rfl, hpm⟩ := (hM.mono eX).get hx
      refine gn ?_
      dsimp only
      refine ⟨rfl, ?_⟩
      refine ⟨aWORTHS, rfl, ⟨_, G.WORTHS X⟩, ?_⟩
      refine it_tup (xs := [.int 0, .int 1, .int 2]) (fun k Y => ∃ bs, Y D = some (.lst bs) ∧ MVs K Y bs (((mems i).take j).flatMap grow ++ (grow m).take k) ∧ Ex H' Y ∧ bs.length = 3 * j + k ∧ SqT K Y pm (m.map wV)) ⟨bs, hb, by rw [List.take_zero, List.append_nil]; exact hMb, eX, hlen, hpm⟩ (fun k Y _ _ => G.WORTHS Y) ?_ ?_
      · rintro k x Y hx ⟨bs, hb, hMb, eY, hlen, hpm⟩
        have hk : k < 3 := (List.getElem?_eq_some_iff.mp hx).1
        have ex : x = wV k := by
          match k, hk with
          | 0, _ => cases hx; rfl
          | 1, _ => cases hx; rfl
          | 2, _ => cases hx; rfl
        subst ex
        refine gn ?_
        dsimp only
        refine ⟨rfl, ?_⟩
        have hms : m.length ≤ 4 := by
          have z := (mems_mem (List.mem_of_getElem? hm)).1
          omega
        have hjl : j < (mems i).length := (List.getElem?_eq_some_iff.mp hm).1
        refine ⟨_, rfl, pm, _, rfl, .inl hpm, _, rfl, by show _ ≤ sizeLine; rw [List.length_append, List.length_map]; show m.length + 1 ≤ 2 ^ 24; omega, fun t nt => ?_⟩
        have e1 := Ex.new (H := Y) (o := .tup (m.map wV ++ [wV k])) nt
        have hb1 := e1 _ _ hb
        have ht1 := upd_same (H := Y) (a := t) (o := .tup (m.map wV ++ [wV k]))
        have hM1 := hMb.mono e1
        have hp1 := ex_t e1 hpm
        have eY1 := eY.trans e1
        generalize upd Y t (.tup (m.map wV ++ [wV k])) = Z at e1 hb1 ht1 hM1 hp1 eY1 ⊢
        have b2 : Bt [D] Z (upd Z D (.lst (bs ++ [.ref t]))) := (Bt.refl Z).set (by simp)
        have lZ : ∀ q ∈ [D], ∃ us, Z q = some (.lst us) := by simp [hb1]
        refine ⟨bs, hb1, by show bs.length < 2 ^ 24; omega, bs ++ [.ref t], upd_same, ?_, eY1.mut hD, by rw [List.length_append, hlen]; rfl, t_but b2 lZ hp1⟩
        rw [grow_at hk, ← List.append_assoc]
        exact (hM1.buts b2 lZ).append (.cons ⟨t, rfl, t_but b2 lZ (by rw [List.map_append]; exact SqT.of ht1)⟩ .nil)
      · rintro Y ⟨bs, hb, hMb, eY, hlen, hpm⟩
        exact ⟨bs, hb, by rw [flat_at hm]; exact hMb, eY, by rw [hlen]; simp; omega⟩
    · rintro X ⟨bs, hb, hMb, eX, hlen⟩
      refine gn ?_
      dsimp only
      exact ⟨_, _, _, D, bs, rfl, fresh_back f hD, hb, by rw [hul, List.take_length] at hMb; exact hMb, f.trans eX⟩
  · rintro σ' H' ⟨v2, v3, v4, a, us, rfl, na', ha, hM, f⟩
    exact s_ret (v := .ref a) (ev_var rfl) fun H2 f2 => k a us H2 na' (f.trans f2) (f2 _ _ ha) (hM.mono f2)

theorem datP_dp {H : Hp} {t m : Addr} {ws : List Nat} {r : Rule} (ht : H t = some (.tup [.ref m, .str "old", .str r.name])) (hm : SqT K H m (ws.map wV)) : Dp K H (.ref t) (datP (some (ws, r))) :=
  .tup (SqT.of ht) (.cons (.tup hm (dpa_w _)) (.cons (.str _) (.cons (.str _) .nil)))
def refParting (c : Int) (ds es : List Raw) : Option Rf := (if 1 ≤ c ∧ c ≤ 4 then none else some .mem).or (refPP c 40 ds es)
def sp_partingX (K : PySem.W.Frag) (Z : Cls) : Sp := fun vs H Q E => ∃ (n : Int) (p q : Addr) (us xs : List V) (ds es : List Raw), vs = [.int n, .ref p, .ref q] ∧ SqL K H p us ∧ RVs K H us ds ∧ ds.length ≤ 900 ∧ (∀ d ∈ ds, d.ok) ∧
  SqL K H q xs ∧ RVs K H xs es ∧ es.length ≤ 900 ∧ (∀ d ∈ es, d.ok) ∧ Good K H n.toNat us xs (refParting n ds es) ∧ Ends Z H (refParting n ds es) Q E
theorem d_partingX {aREST aWORTHS : Addr} {t4 t40 : Tok} {aRULES aSTEPS : Addr} {Z : Cls} (T : Nb mg) (G : TxP K mg aREST aWORTHS t4 t40) (R : TxR K mg w aRULES aSTEPS) (D_check_cells : Dn P w K mg base (L2.CX P w) "check_cells" ["cells"] 2 (sp_check_cellsX Z)) (D_check_programs : Dq P w K mg base (L2.CX P w) "check_programs" ["left", "right", "cells", "most"] [.int 40] 5 (sp_check_programsX K Z))
    (D_all_memories : Dn P w K mg base CX0 "all_memories" ["cells"] 1 (sp_all_memories K)) (D_outcome : Dn P w K mg base CX0 "outcome" ["rule", "memory", "left", "right"] 6 (sp_outcome K)) (h : Has K mg "parting" s_parting) : Dn P w K mg base (L2.CX P w) "parting" ["cells", "left", "right"] 7 (sp_partingX K Z) := by
  refine dn_of h (fun f fd F => F.binds fun _ _ _ _ _ _ us hl => match us, hl with | [_, _, _], _ => rfl) fun f fd F _ => F.okX sc_parting (fun vs H Q E h => ?_) (fun cdv A outer s H vs Q E hr h => ?_)
  · obtain ⟨_, _, _, _, _, _, _, rfl, _⟩ := h
    rfl
  obtain ⟨n, p, q, us, xs, rs, ss, rfl, hp, hR, hl9, okl, hq, hS, hr9, okr, gd, k⟩ := h
  refine ⟨_, (pss_cons (ps_expr (pe_dnS D_check_cells hr (by omega) (fun σ => passAt (takes_of rfl rfl rfl rfl) σ) (pa_cons (pv 0) pa_nil)))
    (pss_cons (ps_expr (pe_dqS D_check_programs hr (by omega) (fun σ => passAt (takes_of rfl rfl rfl rfl) σ) (pa_cons (pv 1) (pa_cons (pv 2) (pa_cons (pv 0) pa_nil)))))
    (pss_cons (ps_set (i := 3) sc_parting.nd rfl (Or.inl rfl) (pe_ix (ix_tupK K) (pe_glob (v := .ref aRULES) rfl R.g_RULES rfl) pe_int (fun _ _ => rfl)))
    (pss_cons (ps_for (passes_of rfl) rfl (pi_list (pe_dn D_all_memories hr (by omega) pass0 (pa_cons (pv 0) pa_nil))) (pg_name (i := 4) sc_parting.nd rfl (Or.inl rfl))
      (pss_cons (ps_set (i := 5) sc_parting.nd rfl (Or.inl rfl) (pe_dn D_outcome hr (by omega) pass0 (pa_cons (pv 3) (pa_cons (pv 4) (pa_cons (pv 1) (pa_cons (pv 2) pa_nil))))))
      (pss_one (ps_for (passes_of rfl) rfl (pi_tup (pe_slice (sl_tupK K) (pe_glob (v := .ref aRULES) rfl R.g_RULES rfl) (po_some pe_int) po_none)) (pg_name (i := 6) sc_parting.nd rfl (Or.inl rfl))
        (pss_one (ps_if (pt_cmpR (op_neDK K rfl hr.units) (pe_dn D_outcome hr (by omega) pass0 (pa_cons (pv 6) (pa_cons (pv 4) (pa_cons (pv 1) (pa_cons (pv 2) pa_nil))))) (pv 5) (nomark _)) (pss_one (ps_ret (pe_tup (pa_cons (pv 4) (pa_cons (pv 3) (pa_cons (pv 6) pa_nil)))))) pss_nil))))))
    (pss_one (ps_ret pe_non)))))), ?_⟩
  refine ⟨_, rfl, n, rfl, ends_or k fun hc0 k0 _ H1 f1 => ?_⟩
  dsimp only
  refine ⟨_, rfl, _, rfl, _, rfl, ?_⟩
  refine ⟨p, q, n, 40, us, xs, rs, ss, rfl, ex_l f1 hp, hR.mono f1, hl9, okl, ex_l f1 hq, hS.mono f1, hr9, okr, ?_⟩
  cases hc : refPP n 40 rs ss with
  | some r =>
    rw [hc] at k0
    have k := k0.back f1
    match r, k with
    | .mem, k => exact k
    | .rule, k => exact k
    | .order, k => exact k
    | .many, k => exact k
    | .prog _ _, k => exact k
  | none =>
  have hpn : refParting n rs ss = none := by
    unfold refParting
    rw [hc0, hc]
    rfl
  obtain ⟨ds, es, hP, hl40, hok1, hX, hr40, hok2⟩ := gd hpn
  rw [hc] at k0
  clear k
  have k : ∀ (v : V) (H' : Hp), Dp K H' v (datP (partD n.toNat ds es)) → Ex H H' → Q v H' := fun v H' _ f => k0 v H' f
  have hn : 1 ≤ n ∧ n ≤ 4 := Decidable.byContradiction fun z => by rw [if_neg z] at hc0; cases hc0
  obtain ⟨c, rfl⟩ : ∃ c : Nat, n = c := ⟨n.toNat, by omega⟩
  have c1 : 1 ≤ c := by omega
  have c4 : c ≤ 4 := by omega
  rw [Int.toNat_natCast] at hok1 hok2 k
  intro _ H2 f2
  dsimp only
  refine q_asg (v := .str "old") (ev_op ev_c ev_c (rv_ixT (R.RULES H2) rfl)) fun H3 f3 => ?_
  have f13 := (f1.trans f2).trans f3
  refine q_forX (R := fun l H4 => ∃ ms, H3 l = none ∧ Ex H3 H4 ∧ H4 l = some (.lst ms) ∧ MVs K H4 ms (mems c)) (fun Q q => ⟨_, rfl, c, rfl, c4, fun l ms H4 n f h m => q l H4 ⟨ms, n, f, h, m⟩⟩) fun l H4 ⟨ms, nl, f4, hl, hM⟩ => ?_
  have f14 := f13.trans f4
  refine q_forLn (xs := ms) ev_c (SqL.of hl) (fun i σ' H' => ∃ v4 v5 v6 : Option V, σ' = [some (.int (c : Int)), some (.ref p), some (.ref q), some (.str "old"), v4, v5, v6] ∧ Ex H4 H' ∧ ∀ j m, j < i → (mems c)[j]? = some m → partRow m ds es = none)
    (fun H5 f5 => ⟨_, _, _, rfl, f5, fun _ _ z => absurd z (Nat.not_lt_zero _)⟩) (fun i σ' H' _ ⟨_, _, _, _, f, _⟩ => SqL.of (f _ _ hl)) ?_ ?_
  · rintro i x σ' H5 hx ⟨v4, v5, v6, rfl, f5, hno⟩
    obtain ⟨m, hm, am, rfl, ham⟩ := (hM.mono f5).get hx
    obtain ⟨ml, m3⟩ := mems_mem (List.mem_of_getElem? hm)
    have f15 := f14.trans f5
    have ok1 : ∀ d ∈ ds, d.ok m.length := by rw [ml]; exact hok1
    have ok2 : ∀ d ∈ es, d.ok m.length := by rw [ml]; exact hok2
    dsimp only
    refine ⟨_, rfl, _, rfl, _, rfl, _, rfl, .old, am, p, q, m, us, xs, ds, es, rfl, ham, m3, ex_l f15 hp, hP.mono f15, hl40, ok1, ex_l f15 hq, hX.mono f15, hr40, ok2, fun vu H6 du f6 => ?_⟩
    refine gn ?_
    dsimp only
    refine s_forXT (R := fun l H7 => H6 l = none ∧ Ex H6 H7 ∧ H7 l = some (.tup (others.map fun r => .str r.name))) (fun Q z => ⟨1, rfl, aRULES, ruleNames, rfl, R.RULES _, by decide, fun p hp => z p _ ⟨hp, Ex.new hp, upd_same⟩⟩) fun t H7 ⟨nt, f7, ht⟩ => ?_
    have f67 := f6.trans f7
    refine s_forTn (xs := others.map fun r => .str r.name) ev_c (SqT.of ht) (fun k σ' H' => ∃ v6 : Option V, σ' = [some (.int (c : Int)), some (.ref p), some (.ref q), some (.str "old"), some (.ref am), some vu, v6] ∧ Ex H7 H' ∧ ∀ j r, j < k → others[j]? = some r → same3 (out r (begin0 m ds es)) (out .old (begin0 m ds es)) = true)
      (fun H8 f8 => ⟨_, rfl, f8, fun _ _ z => absurd z (Nat.not_lt_zero _)⟩) (fun i σ' H' _ ⟨_, _, f, _⟩ => SqT.of (f _ _ ht)) ?_ ?_
    · rintro kk x σ' H8 hx ⟨v6', rfl, f8, hsm⟩
      obtain ⟨r, hr', rfl⟩ : ∃ r, others[kk]? = some r ∧ x = .str r.name := by
        rw [List.getElem?_map] at hx
        cases z : others[kk]? with
        | none => rw [z] at hx; cases hx
        | some r => rw [z] at hx; cases hx; exact ⟨r, rfl, rfl⟩
      have f58 := f67.trans f8
      have f18 := f15.trans f58
      have ham8 := ex_t f58 ham
      have du8 := dp_mono (f7.trans f8) _ _ du
      refine s_when (b := !same3 (out r (begin0 m ds es)) (out .old (begin0 m ds es))) (fun H9 f9 Q z => ⟨_, rfl, _, rfl, _, rfl, _, rfl, r, am, p, q, m, us, xs, ds, es, rfl, ex_t f9 ham8, m3, ex_l (f18.trans f9) hp, hP.mono (f18.trans f9), hl40, ok1, ex_l (f18.trans f9) hq, hX.mono (f18.trans f9), hr40, ok2, fun v H10 dv f10 =>
        ⟨_, rfl, rv_neD dv (dp_mono (f9.trans f10) _ _ du8) (sh_o _) (sh_o _) (by decide) (by decide) H10 (Ex.refl H10) _ fun H11 f11 => ⟨_, rfl, by rw [eqv_o]; exact z H11 (f10.trans f11)⟩⟩⟩) (fun hb H9 f9 => ?_) (fun hb H9 f9 => ?_)
      · refine s_retU (xs := [.ref am, .str "old", .str r.name]) (eu_tup (ea_cons (ev_var rfl) (ea_cons (ev_var rfl) (ea_cons (ev_var rfl) ea_nil))) (by simp)) fun t2 H10 n2 f10 h10 => ?_
        have e : partD c ds es = some (m, r) := findSome_at hm (fun j a hj hb => hno j a hj hb) (by
          rw [partRow_find]
          refine findSome_at (i := kk) hr' (fun j a hj ha => by rw [if_pos (hsm j a hj ha)]) ?_
          rw [if_neg]
          intro z
          rw [z] at hb
          cases hb)
        exact k _ _ (by rw [e]; exact datP_dp h10 (ex_t (f9.trans f10) ham8)) ((f18.trans f9).trans f10)
      · refine ⟨_, rfl, f8.trans f9, fun j r' hj hr2 => ?_⟩
        by_cases z : j = kk
        · subst z
          rw [hr'] at hr2
          cases hr2
          simpa using hb
        · exact hsm j r' (by omega) hr2
    · rintro σ' H8 ⟨v6', rfl, f8, hsm⟩
      refine ⟨_, _, _, rfl, (f5.trans f67).trans f8, fun j m' hj hm' => ?_⟩
      by_cases z : j = i
      · subst z
        rw [hm] at hm'
        cases hm'
        rw [partRow_find]
        refine findSome_no fun j r hj hr2 => ?_
        rw [if_pos (hsm j r (by rw [List.length_map]; exact hj) hr2)]
      · exact hno j m' (by omega) hm'
  · rintro σ' H5 ⟨v4, v5, v6, rfl, f5, hno⟩
    refine s_ret (v := .non) ev_c fun H6 f6 => ?_
    have e : partD c ds es = none := findSome_no fun j m hj hm => hno j m (by rw [hM.length]; exact hj) hm
    exact k _ _ (by rw [e]; exact .non) ((f14.trans f5).trans f6)

/-- what isinstance says of a refusal of class C -/
structure KndE (K : PySem.W.Frag) (D m p r o t x C : Addr) (b1 b2 b3 b4 b5 : Bool) : Prop where
  te : PySem.W.exmOne K (.ref C) (.ref D) = some true
  ic : IsC K C
  k1 : PySem.W.kitOne K (.ref C) (.ref m) = some b1
  k2 : PySem.W.kitOne K (.ref C) (.ref p) = some b2
  k3 : PySem.W.kitOne K (.ref C) (.ref r) = some b3
  k4 : PySem.W.kitOne K (.ref C) (.ref o) = some b4
  k5 : PySem.W.kitOne K (.ref C) (.ref t) = some b5
  k6 : PySem.W.kitOne K (.ref C) (.ref x) = some false
  k7 : PySem.W.kitOne K (.ref C) (.type "ValueError") = some true
theorem el_catV {σ : L2.St} {H : Hp} {ta tb : TE} {a : Addr} {xs ys : List V} (ha : Ev ta σ H (.ref a)) (h1 : H a = some (.lst xs)) (hb : EvL tb σ H ys) (hz : xs.length + ys.length ≤ 100000) : EvL (tOp rCat ta tb) σ H (xs ++ ys) := fun H1 e Q q =>
  ha H1 e _ fun H2 e2 => hb H2 (e.trans e2) _ fun p H3 n e3 hp => by
    have e12 := e2.trans e3
    exact ⟨_, _, _, _, rfl, rfl, (e.trans e12) _ _ h1, hp, sz_of hz, fun l hl => q l _ (fresh_back e12 hl) (e12.trans (Ex.new hl)) upd_same⟩
/-- the word of a refusal, with its values -/
theorem d_law_kind {aDoorError aBadMemory aBadOrder aBadProgram aBadRule aTooMany aBadText fI : Addr} {kw : Nat} (T : Nb mg) (Z : ClsG K mg aDoorError aBadMemory aBadOrder aBadProgram aBadRule aTooMany aBadText)
    (X_BadProgram : OwnX K mg "BadProgram" aBadProgram aDoorError fI "door" "place") (Y1 : KndE K aDoorError aBadMemory aBadProgram aBadRule aBadOrder aTooMany aBadText aBadMemory true false false false false) (Y2 : KndE K aDoorError aBadMemory aBadProgram aBadRule aBadOrder aTooMany aBadText aBadProgram false true false false false) (Y3 : KndE K aDoorError aBadMemory aBadProgram aBadRule aBadOrder aTooMany aBadText aBadRule false false true false false) (Y4 : KndE K aDoorError aBadMemory aBadProgram aBadRule aBadOrder aTooMany aBadText aBadOrder false false false true false) (Y5 : KndE K aDoorError aBadMemory aBadProgram aBadRule aBadOrder aTooMany aBadText aTooMany false false false false true) (h : Has K mg "_law_kind" s_law_kind) : Dn P w K mg base CX0 "_law_kind" ["_law_work"] (kw + 1) (sp_law_kind P w K mg base ⟨aBadMemory, aBadProgram, aBadRule, aBadOrder, aTooMany⟩ kw) := by
  refine dn_of h (fun f fd F => F.binds fun _ _ _ _ _ _ us hl => match us, hl with | [_], _ => rfl) fun f fd F _ => F.ok sc_law_kind (fun vs H Q E h => ?_) (fun cdv A outer s H vs Q E hr h => ?_)
  · obtain ⟨_, _, rfl, _⟩ := h
    rfl
  obtain ⟨v, r, rfl, hw, hsm, k⟩ := h
  let Zc : Cls := ⟨aBadMemory, aBadProgram, aBadRule, aBadOrder, aTooMany⟩
  refine ⟨_, (pss_cons (ps_try_as (i := 1) rfl rfl sc_law_kind.nd rfl rfl ⟨rfl, by decide +kernel, .inl Z.g_DoorError⟩ takes0 (fun W pn xe tk _ =>
      (pss_one (ps_expr (pe_workK P w K mg base (Z := Zc) (k := kw) (i := 0) (j := kw) hr (Nat.le_refl _) (fun σ => passAt tk σ) rfl (Or.inl rfl))))) (fun a oe cls d pn hz hf =>
      (pss_cons (ps_set (i := 2) sc_law_kind.nd rfl (Or.inl rfl) (pe_lst (pa_cons (pe_callB (call_isD hz hf) (by rfl) T.n_isinstance PyProof.Rows.boot_isinstance (pa_cons (pv 1) (pa_cons (pe_glob (v := .ref aBadMemory) rfl Z.g_BadMemory rfl) pa_nil))) (pa_cons (pe_callB (call_isD hz hf) (by rfl) T.n_isinstance PyProof.Rows.boot_isinstance (pa_cons (pv 1) (pa_cons (pe_glob (v := .ref aBadProgram) rfl Z.g_BadProgram rfl) pa_nil))) (pa_cons (pe_callB (call_isD hz hf) (by rfl) T.n_isinstance PyProof.Rows.boot_isinstance (pa_cons (pv 1) (pa_cons (pe_glob (v := .ref aBadRule) rfl Z.g_BadRule rfl) pa_nil))) (pa_cons (pe_callB (call_isD hz hf) (by rfl) T.n_isinstance PyProof.Rows.boot_isinstance (pa_cons (pv 1) (pa_cons (pe_glob (v := .ref aBadOrder) rfl Z.g_BadOrder rfl) pa_nil))) pa_nil))))))
      (pss_cons (ps_set (i := 2) sc_law_kind.nd rfl (Or.inl rfl) (pe_op op_cat (pv 2) (pe_lst (pa_cons (pe_callB (call_isD hz hf) (by rfl) T.n_isinstance PyProof.Rows.boot_isinstance (pa_cons (pv 1) (pa_cons (pe_glob (v := .ref aTooMany) rfl Z.g_TooMany rfl) pa_nil))) (pa_cons (pe_callB (call_isD hz hf) (by rfl) T.n_isinstance PyProof.Rows.boot_isinstance (pa_cons (pv 1) (pa_cons (pe_glob (v := .ref aBadText) rfl Z.g_BadText rfl) pa_nil))) pa_nil)))))
      (pss_cons (ps_if (PW.pt (pw_or (pt_cmpR op_ne (pe_bmL K PySem.F.plainAttrs_list PySem.F.slot_list_count PySem.F.type_list_count (mt_countFK K) (pv 2) (pa_cons pe_bl pa_nil)) pe_int (nomark _)) (pw_or1 (pt_not (pt_val (pe_callB (call_isD hz hf) (by rfl) T.n_isinstance PyProof.Rows.boot_isinstance (pa_cons (pv 1) (pa_cons (pe_bltn (v := .ty "ValueError") rfl Z.n_VE (by rfl) rfl) pa_nil)))))))) (pss_one (ps_ret pe_str)) pss_nil)
      (pss_cons (ps_if (pt_val (pe_ix (ix_listK K) (pv 2) pe_int (fun _ _ => rfl))) (pss_one (ps_ret (pe_tup (pa_cons pe_str (pa_cons (pe_xf X_BadProgram.Xf X_BadProgram.n1 hz hf (pv 1)) (pa_cons (pe_xf X_BadProgram.Xf X_BadProgram.n2 hz hf (pv 1)) pa_nil)))))) pss_nil)
      (pss_cons (ps_if (pt_val (pe_ix (ix_listK K) (pv 2) pe_int (fun _ _ => rfl))) pss_never pss_nil)
      (pss_one (ps_ret (pe_ix (ix_listK K) (pe_lst (pa_cons pe_str (pa_cons pe_str (pa_cons pe_str (pa_cons pe_str (pa_cons pe_str pa_nil)))))) (pe_bmL K PySem.F.plainAttrs_list PySem.F.slot_list_index PySem.F.type_list_index (mt_indexK K) (pv 2) (pa_cons pe_bl pa_nil)) (fun _ _ => rfl)))))))))))
    (pss_one (ps_ret pe_str))), ?_⟩
  refine ⟨v, r, rfl, hw, ?_⟩
  match r, hsm, k with
  | none, _, k =>
    intro _ H1 f1
    exact k _ _ f1 (.str _)
  | some .mem, _, k =>
    intro H' f
    refine ⟨true, Y1.te, fun _ a na => ?_, fun z => Bool.noConfusion z⟩
    refine q_asgL (xs := [.bl true, .bl false, .bl false, .bl false]) (el_lst (ea_cons (ev_cb (ea_cons (ev_var rfl) (ea_cons ev_c ea_nil)) fun H1 e1 Q z => ⟨aBadMemory, _, _, true, rfl, rfl, Y1.ic, trivial, .own _, Y1.k1, z H1 (Ex.refl _)⟩) (ea_cons (ev_cb (ea_cons (ev_var rfl) (ea_cons ev_c ea_nil)) fun H1 e1 Q z => ⟨aBadMemory, _, _, false, rfl, rfl, Y1.ic, trivial, .own _, Y1.k2, z H1 (Ex.refl _)⟩) (ea_cons (ev_cb (ea_cons (ev_var rfl) (ea_cons ev_c ea_nil)) fun H1 e1 Q z => ⟨aBadMemory, _, _, false, rfl, rfl, Y1.ic, trivial, .own _, Y1.k3, z H1 (Ex.refl _)⟩) (ea_cons (ev_cb (ea_cons (ev_var rfl) (ea_cons ev_c ea_nil)) fun H1 e1 Q z => ⟨aBadMemory, _, _, false, rfl, rfl, Y1.ic, trivial, .own _, Y1.k4, z H1 (Ex.refl _)⟩) ea_nil)))) (by decide)) fun l1 H1 nl1 f1 h1 => ?_
    refine q_asgL (xs := [.bl true, .bl false, .bl false, .bl false] ++ [.bl false, .bl false]) (el_catV (ev_var rfl) h1 (el_lst (ea_cons (ev_cb (ea_cons (ev_var rfl) (ea_cons ev_c ea_nil)) fun H1 e1 Q z => ⟨aBadMemory, _, _, false, rfl, rfl, Y1.ic, trivial, .own _, Y1.k5, z H1 (Ex.refl _)⟩) (ea_cons (ev_cb (ea_cons (ev_var rfl) (ea_cons ev_c ea_nil)) fun H1 e1 Q z => ⟨aBadMemory, _, _, false, rfl, rfl, Y1.ic, trivial, .own _, Y1.k6, z H1 (Ex.refl _)⟩) ea_nil)) (by decide)) (by decide)) fun l2 H2 nl2 f2 h2 => ?_
    refine q_when (b := false) (et_is (et_or (a := false) (b := false) (et_is (et_test (ev_op (x := .int 1) (y := .int 1) (fun H5 e5 Q q => ⟨_, rfl, .inl ⟨rfl, _, SqL.of (e5 _ _ h2)⟩, l2, _, _, rfl, rfl, SqL.of (e5 _ _ h2), rfl, rfl, q H5 (Ex.refl _)⟩) ev_c (rv_ne rfl))) rfl) (fun _ => et_is (et_not (a := true) (et_test (ev_cb (ea_cons (ev_var rfl) (ea_cons ev_c ea_nil)) fun H1 e1 Q z => ⟨aBadMemory, _, _, true, rfl, rfl, Y1.ic, trivial, .ty _, Y1.k7, z H1 (Ex.refl _)⟩))) rfl)) rfl) (fun z => nomatch z) (fun _ H3 f3 => ?_)
    have h3 := f3 _ _ h2
    refine q_when (b := false) (et_test (ev_op (ev_var rfl) ev_c (rv_ixL (SqL.of h3) rfl))) (fun z => nomatch z) (fun _ H4 f4 => ?_)
    have h4 := f4 _ _ h3
    refine q_when (b := false) (et_test (ev_op (ev_var rfl) ev_c (rv_ixL (SqL.of h4) rfl))) (fun z => nomatch z) (fun _ H5 f5 => ?_)
    have h5 := f5 _ _ h4
    have no : ∀ (m : Nat) (z' : V), m < 0 → ([.bl true, .bl false, .bl false, .bl false] ++ [.bl false, .bl false] : List V)[m]? = some z' → eqV z' (.bl true) = false := fun m z' hm => absurd hm (Nat.not_lt_zero _)
    refine s_ret (v := .str "BadMemory") (ev_ixNew (el_lst (ea_cons ev_c (ea_cons ev_c (ea_cons ev_c (ea_cons ev_c (ea_cons ev_c ea_nil))))) (by decide)) (i := 0) (fun H6 e6 Q q => ⟨_, rfl, .inl ⟨rfl, _, SqL.of (e6 _ _ h5)⟩, l2, _, _, 0, _, rfl, rfl, SqL.of (e6 _ _ h5), rfl, rfl, rfl, rfl, no, q H6 (Ex.refl _)⟩) rfl) fun H6 f6 => ?_
    exact k _ _ (((((f.trans f1).trans f2).trans f3).trans f4).trans (f5.trans f6)) (.str _)
  | some .rule, _, k =>
    intro H' f
    refine ⟨true, Y3.te, fun _ a na => ?_, fun z => Bool.noConfusion z⟩
    refine q_asgL (xs := [.bl false, .bl false, .bl true, .bl false]) (el_lst (ea_cons (ev_cb (ea_cons (ev_var rfl) (ea_cons ev_c ea_nil)) fun H1 e1 Q z => ⟨aBadRule, _, _, false, rfl, rfl, Y3.ic, trivial, .own _, Y3.k1, z H1 (Ex.refl _)⟩) (ea_cons (ev_cb (ea_cons (ev_var rfl) (ea_cons ev_c ea_nil)) fun H1 e1 Q z => ⟨aBadRule, _, _, false, rfl, rfl, Y3.ic, trivial, .own _, Y3.k2, z H1 (Ex.refl _)⟩) (ea_cons (ev_cb (ea_cons (ev_var rfl) (ea_cons ev_c ea_nil)) fun H1 e1 Q z => ⟨aBadRule, _, _, true, rfl, rfl, Y3.ic, trivial, .own _, Y3.k3, z H1 (Ex.refl _)⟩) (ea_cons (ev_cb (ea_cons (ev_var rfl) (ea_cons ev_c ea_nil)) fun H1 e1 Q z => ⟨aBadRule, _, _, false, rfl, rfl, Y3.ic, trivial, .own _, Y3.k4, z H1 (Ex.refl _)⟩) ea_nil)))) (by decide)) fun l1 H1 nl1 f1 h1 => ?_
    refine q_asgL (xs := [.bl false, .bl false, .bl true, .bl false] ++ [.bl false, .bl false]) (el_catV (ev_var rfl) h1 (el_lst (ea_cons (ev_cb (ea_cons (ev_var rfl) (ea_cons ev_c ea_nil)) fun H1 e1 Q z => ⟨aBadRule, _, _, false, rfl, rfl, Y3.ic, trivial, .own _, Y3.k5, z H1 (Ex.refl _)⟩) (ea_cons (ev_cb (ea_cons (ev_var rfl) (ea_cons ev_c ea_nil)) fun H1 e1 Q z => ⟨aBadRule, _, _, false, rfl, rfl, Y3.ic, trivial, .own _, Y3.k6, z H1 (Ex.refl _)⟩) ea_nil)) (by decide)) (by decide)) fun l2 H2 nl2 f2 h2 => ?_
    refine q_when (b := false) (et_is (et_or (a := false) (b := false) (et_is (et_test (ev_op (x := .int 1) (y := .int 1) (fun H5 e5 Q q => ⟨_, rfl, .inl ⟨rfl, _, SqL.of (e5 _ _ h2)⟩, l2, _, _, rfl, rfl, SqL.of (e5 _ _ h2), rfl, rfl, q H5 (Ex.refl _)⟩) ev_c (rv_ne rfl))) rfl) (fun _ => et_is (et_not (a := true) (et_test (ev_cb (ea_cons (ev_var rfl) (ea_cons ev_c ea_nil)) fun H1 e1 Q z => ⟨aBadRule, _, _, true, rfl, rfl, Y3.ic, trivial, .ty _, Y3.k7, z H1 (Ex.refl _)⟩))) rfl)) rfl) (fun z => nomatch z) (fun _ H3 f3 => ?_)
    have h3 := f3 _ _ h2
    refine q_when (b := false) (et_test (ev_op (ev_var rfl) ev_c (rv_ixL (SqL.of h3) rfl))) (fun z => nomatch z) (fun _ H4 f4 => ?_)
    have h4 := f4 _ _ h3
    refine q_when (b := false) (et_test (ev_op (ev_var rfl) ev_c (rv_ixL (SqL.of h4) rfl))) (fun z => nomatch z) (fun _ H5 f5 => ?_)
    have h5 := f5 _ _ h4
    have no : ∀ (m : Nat) (z' : V), m < 2 → ([.bl false, .bl false, .bl true, .bl false] ++ [.bl false, .bl false] : List V)[m]? = some z' → eqV z' (.bl true) = false := fun m z' hm hz => by
      match m, hm, hz with
      | 0, _, hz => cases hz; rfl
      | 1, _, hz => cases hz; rfl
      | n + 2, hm, _ => exact absurd hm (by omega)
    refine s_ret (v := .str "BadRule") (ev_ixNew (el_lst (ea_cons ev_c (ea_cons ev_c (ea_cons ev_c (ea_cons ev_c (ea_cons ev_c ea_nil))))) (by decide)) (i := 2) (fun H6 e6 Q q => ⟨_, rfl, .inl ⟨rfl, _, SqL.of (e6 _ _ h5)⟩, l2, _, _, 2, _, rfl, rfl, SqL.of (e6 _ _ h5), rfl, rfl, rfl, rfl, no, q H6 (Ex.refl _)⟩) rfl) fun H6 f6 => ?_
    exact k _ _ (((((f.trans f1).trans f2).trans f3).trans f4).trans (f5.trans f6)) (.str _)
  | some .order, _, k =>
    intro H' f
    refine ⟨true, Y4.te, fun _ a na => ?_, fun z => Bool.noConfusion z⟩
    refine q_asgL (xs := [.bl false, .bl false, .bl false, .bl true]) (el_lst (ea_cons (ev_cb (ea_cons (ev_var rfl) (ea_cons ev_c ea_nil)) fun H1 e1 Q z => ⟨aBadOrder, _, _, false, rfl, rfl, Y4.ic, trivial, .own _, Y4.k1, z H1 (Ex.refl _)⟩) (ea_cons (ev_cb (ea_cons (ev_var rfl) (ea_cons ev_c ea_nil)) fun H1 e1 Q z => ⟨aBadOrder, _, _, false, rfl, rfl, Y4.ic, trivial, .own _, Y4.k2, z H1 (Ex.refl _)⟩) (ea_cons (ev_cb (ea_cons (ev_var rfl) (ea_cons ev_c ea_nil)) fun H1 e1 Q z => ⟨aBadOrder, _, _, false, rfl, rfl, Y4.ic, trivial, .own _, Y4.k3, z H1 (Ex.refl _)⟩) (ea_cons (ev_cb (ea_cons (ev_var rfl) (ea_cons ev_c ea_nil)) fun H1 e1 Q z => ⟨aBadOrder, _, _, true, rfl, rfl, Y4.ic, trivial, .own _, Y4.k4, z H1 (Ex.refl _)⟩) ea_nil)))) (by decide)) fun l1 H1 nl1 f1 h1 => ?_
    refine q_asgL (xs := [.bl false, .bl false, .bl false, .bl true] ++ [.bl false, .bl false]) (el_catV (ev_var rfl) h1 (el_lst (ea_cons (ev_cb (ea_cons (ev_var rfl) (ea_cons ev_c ea_nil)) fun H1 e1 Q z => ⟨aBadOrder, _, _, false, rfl, rfl, Y4.ic, trivial, .own _, Y4.k5, z H1 (Ex.refl _)⟩) (ea_cons (ev_cb (ea_cons (ev_var rfl) (ea_cons ev_c ea_nil)) fun H1 e1 Q z => ⟨aBadOrder, _, _, false, rfl, rfl, Y4.ic, trivial, .own _, Y4.k6, z H1 (Ex.refl _)⟩) ea_nil)) (by decide)) (by decide)) fun l2 H2 nl2 f2 h2 => ?_
    refine q_when (b := false) (et_is (et_or (a := false) (b := false) (et_is (et_test (ev_op (x := .int 1) (y := .int 1) (fun H5 e5 Q q => ⟨_, rfl, .inl ⟨rfl, _, SqL.of (e5 _ _ h2)⟩, l2, _, _, rfl, rfl, SqL.of (e5 _ _ h2), rfl, rfl, q H5 (Ex.refl _)⟩) ev_c (rv_ne rfl))) rfl) (fun _ => et_is (et_not (a := true) (et_test (ev_cb (ea_cons (ev_var rfl) (ea_cons ev_c ea_nil)) fun H1 e1 Q z => ⟨aBadOrder, _, _, true, rfl, rfl, Y4.ic, trivial, .ty _, Y4.k7, z H1 (Ex.refl _)⟩))) rfl)) rfl) (fun z => nomatch z) (fun _ H3 f3 => ?_)
    have h3 := f3 _ _ h2
    refine q_when (b := false) (et_test (ev_op (ev_var rfl) ev_c (rv_ixL (SqL.of h3) rfl))) (fun z => nomatch z) (fun _ H4 f4 => ?_)
    have h4 := f4 _ _ h3
    refine q_when (b := false) (et_test (ev_op (ev_var rfl) ev_c (rv_ixL (SqL.of h4) rfl))) (fun z => nomatch z) (fun _ H5 f5 => ?_)
    have h5 := f5 _ _ h4
    have no : ∀ (m : Nat) (z' : V), m < 3 → ([.bl false, .bl false, .bl false, .bl true] ++ [.bl false, .bl false] : List V)[m]? = some z' → eqV z' (.bl true) = false := fun m z' hm hz => by
      match m, hm, hz with
      | 0, _, hz => cases hz; rfl
      | 1, _, hz => cases hz; rfl
      | 2, _, hz => cases hz; rfl
      | n + 3, hm, _ => exact absurd hm (by omega)
    refine s_ret (v := .str "BadOrder") (ev_ixNew (el_lst (ea_cons ev_c (ea_cons ev_c (ea_cons ev_c (ea_cons ev_c (ea_cons ev_c ea_nil))))) (by decide)) (i := 3) (fun H6 e6 Q q => ⟨_, rfl, .inl ⟨rfl, _, SqL.of (e6 _ _ h5)⟩, l2, _, _, 3, _, rfl, rfl, SqL.of (e6 _ _ h5), rfl, rfl, rfl, rfl, no, q H6 (Ex.refl _)⟩) rfl) fun H6 f6 => ?_
    exact k _ _ (((((f.trans f1).trans f2).trans f3).trans f4).trans (f5.trans f6)) (.str _)
  | some .many, _, k =>
    intro H' f
    refine ⟨true, Y5.te, fun _ a na => ?_, fun z => Bool.noConfusion z⟩
    refine q_asgL (xs := [.bl false, .bl false, .bl false, .bl false]) (el_lst (ea_cons (ev_cb (ea_cons (ev_var rfl) (ea_cons ev_c ea_nil)) fun H1 e1 Q z => ⟨aTooMany, _, _, false, rfl, rfl, Y5.ic, trivial, .own _, Y5.k1, z H1 (Ex.refl _)⟩) (ea_cons (ev_cb (ea_cons (ev_var rfl) (ea_cons ev_c ea_nil)) fun H1 e1 Q z => ⟨aTooMany, _, _, false, rfl, rfl, Y5.ic, trivial, .own _, Y5.k2, z H1 (Ex.refl _)⟩) (ea_cons (ev_cb (ea_cons (ev_var rfl) (ea_cons ev_c ea_nil)) fun H1 e1 Q z => ⟨aTooMany, _, _, false, rfl, rfl, Y5.ic, trivial, .own _, Y5.k3, z H1 (Ex.refl _)⟩) (ea_cons (ev_cb (ea_cons (ev_var rfl) (ea_cons ev_c ea_nil)) fun H1 e1 Q z => ⟨aTooMany, _, _, false, rfl, rfl, Y5.ic, trivial, .own _, Y5.k4, z H1 (Ex.refl _)⟩) ea_nil)))) (by decide)) fun l1 H1 nl1 f1 h1 => ?_
    refine q_asgL (xs := [.bl false, .bl false, .bl false, .bl false] ++ [.bl true, .bl false]) (el_catV (ev_var rfl) h1 (el_lst (ea_cons (ev_cb (ea_cons (ev_var rfl) (ea_cons ev_c ea_nil)) fun H1 e1 Q z => ⟨aTooMany, _, _, true, rfl, rfl, Y5.ic, trivial, .own _, Y5.k5, z H1 (Ex.refl _)⟩) (ea_cons (ev_cb (ea_cons (ev_var rfl) (ea_cons ev_c ea_nil)) fun H1 e1 Q z => ⟨aTooMany, _, _, false, rfl, rfl, Y5.ic, trivial, .own _, Y5.k6, z H1 (Ex.refl _)⟩) ea_nil)) (by decide)) (by decide)) fun l2 H2 nl2 f2 h2 => ?_
    refine q_when (b := false) (et_is (et_or (a := false) (b := false) (et_is (et_test (ev_op (x := .int 1) (y := .int 1) (fun H5 e5 Q q => ⟨_, rfl, .inl ⟨rfl, _, SqL.of (e5 _ _ h2)⟩, l2, _, _, rfl, rfl, SqL.of (e5 _ _ h2), rfl, rfl, q H5 (Ex.refl _)⟩) ev_c (rv_ne rfl))) rfl) (fun _ => et_is (et_not (a := true) (et_test (ev_cb (ea_cons (ev_var rfl) (ea_cons ev_c ea_nil)) fun H1 e1 Q z => ⟨aTooMany, _, _, true, rfl, rfl, Y5.ic, trivial, .ty _, Y5.k7, z H1 (Ex.refl _)⟩))) rfl)) rfl) (fun z => nomatch z) (fun _ H3 f3 => ?_)
    have h3 := f3 _ _ h2
    refine q_when (b := false) (et_test (ev_op (ev_var rfl) ev_c (rv_ixL (SqL.of h3) rfl))) (fun z => nomatch z) (fun _ H4 f4 => ?_)
    have h4 := f4 _ _ h3
    refine q_when (b := false) (et_test (ev_op (ev_var rfl) ev_c (rv_ixL (SqL.of h4) rfl))) (fun z => nomatch z) (fun _ H5 f5 => ?_)
    have h5 := f5 _ _ h4
    have no : ∀ (m : Nat) (z' : V), m < 4 → ([.bl false, .bl false, .bl false, .bl false] ++ [.bl true, .bl false] : List V)[m]? = some z' → eqV z' (.bl true) = false := fun m z' hm hz => by
      match m, hm, hz with
      | 0, _, hz => cases hz; rfl
      | 1, _, hz => cases hz; rfl
      | 2, _, hz => cases hz; rfl
      | 3, _, hz => cases hz; rfl
      | n + 4, hm, _ => exact absurd hm (by omega)
    refine s_ret (v := .str "TooMany") (ev_ixNew (el_lst (ea_cons ev_c (ea_cons ev_c (ea_cons ev_c (ea_cons ev_c (ea_cons ev_c ea_nil))))) (by decide)) (i := 4) (fun H6 e6 Q q => ⟨_, rfl, .inl ⟨rfl, _, SqL.of (e6 _ _ h5)⟩, l2, _, _, 4, _, rfl, rfl, SqL.of (e6 _ _ h5), rfl, rfl, rfl, rfl, no, q H6 (Ex.refl _)⟩) rfl) fun H6 f6 => ?_
    exact k _ _ (((((f.trans f1).trans f2).trans f3).trans f4).trans (f5.trans f6)) (.str _)
  | some (.prog _ _), _, k =>
    intro d H' nd f hd
    have dk : ∀ {H1 : Hp}, Ex H' H1 → DctOk (some d) H1 := fun x => ⟨_, x _ _ hd⟩
    refine ⟨true, Y2.te, fun _ a na => ?_, fun z => Bool.noConfusion z⟩
    refine q_asgL (xs := [.bl false, .bl true, .bl false, .bl false]) (el_lst (ea_cons (ev_cb (ea_cons (ev_var rfl) (ea_cons ev_c ea_nil)) fun H1 e1 Q z => ⟨aBadProgram, _, _, false, rfl, rfl, Y2.ic, dk (e1), .own _, Y2.k1, z H1 (Ex.refl _)⟩) (ea_cons (ev_cb (ea_cons (ev_var rfl) (ea_cons ev_c ea_nil)) fun H1 e1 Q z => ⟨aBadProgram, _, _, true, rfl, rfl, Y2.ic, dk (e1), .own _, Y2.k2, z H1 (Ex.refl _)⟩) (ea_cons (ev_cb (ea_cons (ev_var rfl) (ea_cons ev_c ea_nil)) fun H1 e1 Q z => ⟨aBadProgram, _, _, false, rfl, rfl, Y2.ic, dk (e1), .own _, Y2.k3, z H1 (Ex.refl _)⟩) (ea_cons (ev_cb (ea_cons (ev_var rfl) (ea_cons ev_c ea_nil)) fun H1 e1 Q z => ⟨aBadProgram, _, _, false, rfl, rfl, Y2.ic, dk (e1), .own _, Y2.k4, z H1 (Ex.refl _)⟩) ea_nil)))) (by decide)) fun l1 H1 nl1 f1 h1 => ?_
    refine q_asgL (xs := [.bl false, .bl true, .bl false, .bl false] ++ [.bl false, .bl false]) (el_catV (ev_var rfl) h1 (el_lst (ea_cons (ev_cb (ea_cons (ev_var rfl) (ea_cons ev_c ea_nil)) fun H1 e1 Q z => ⟨aBadProgram, _, _, false, rfl, rfl, Y2.ic, dk (f1.trans e1), .own _, Y2.k5, z H1 (Ex.refl _)⟩) (ea_cons (ev_cb (ea_cons (ev_var rfl) (ea_cons ev_c ea_nil)) fun H1 e1 Q z => ⟨aBadProgram, _, _, false, rfl, rfl, Y2.ic, dk (f1.trans e1), .own _, Y2.k6, z H1 (Ex.refl _)⟩) ea_nil)) (by decide)) (by decide)) fun l2 H2 nl2 f2 h2 => ?_
    refine q_when (b := false) (et_is (et_or (a := false) (b := false) (et_is (et_test (ev_op (x := .int 1) (y := .int 1) (fun H5 e5 Q q => ⟨_, rfl, .inl ⟨rfl, _, SqL.of (e5 _ _ h2)⟩, l2, _, _, rfl, rfl, SqL.of (e5 _ _ h2), rfl, rfl, q H5 (Ex.refl _)⟩) ev_c (rv_ne rfl))) rfl) (fun _ => et_is (et_not (a := true) (et_test (ev_cb (ea_cons (ev_var rfl) (ea_cons ev_c ea_nil)) fun H1 e1 Q z => ⟨aBadProgram, _, _, true, rfl, rfl, Y2.ic, dk ((f1.trans f2).trans e1), .ty _, Y2.k7, z H1 (Ex.refl _)⟩))) rfl)) rfl) (fun z => nomatch z) (fun _ H3 f3 => ?_)
    have h3 := f3 _ _ h2
    have f13 := (f1.trans f2).trans f3
    refine s_when (b := true) (et_test (ev_op (ev_var rfl) ev_c (rv_ixL (SqL.of h3) rfl))) (fun _ H4 f4 => ?_) (fun z => nomatch z)
    have f14 := f13.trans f4
    refine ⟨_, rfl, rfl, rfl, d, _, _, rfl, f14 _ _ hd, rfl, _, rfl, rfl, rfl, d, _, _, rfl, f14 _ _ hd, rfl, by show 3 ≤ sizeLine; decide, fun t nt => ?_⟩
    exact k _ _ ((f.trans f14).trans (Ex.new nt)) (Dp.tup (SqT.of upd_same) (.cons (.str _) (.cons (.int _) (.cons (.int _) .nil))))

theorem eqv_K (r : Option Rf) : PyData.eqv (datK r) (datK r) = true := by
  match r with
  | none => rfl
  | some .mem => rfl
  | some .rule => rfl
  | some .order => rfl
  | some .many => rfl
  | some (.prog a b) => simp [datK, PyData.eqv, PyData.eqvAll]
theorem sh_K (r : Option Rf) (h : ∀ a b, r = some (.prog a b) → a < 1000 ∧ b < 1000) : ∃ n, n ≤ 64 ∧ Sh n (datK r) := by
  match r, h with
  | none, _ => exact ⟨1, by decide, sh_str (by decide +kernel)⟩
  | some .mem, _ => exact ⟨1, by decide, sh_str (by decide +kernel)⟩
  | some .rule, _ => exact ⟨1, by decide, sh_str (by decide +kernel)⟩
  | some .order, _ => exact ⟨1, by decide, sh_str (by decide +kernel)⟩
  | some .many, _ => exact ⟨1, by decide, sh_str (by decide +kernel)⟩
  | some (.prog a b), h => exact ⟨2, by decide, sh_tup fun x hx => by
      simp at hx
      rcases hx with rfl | rfl | rfl <;> first | exact sh_int | exact sh_str (by decide +kernel)⟩
/-- whether all closures end by one refusal -/
def sp_law_are (P : Program) (w : World) (K : PySem.W.Frag) (mg : Str → Option Value) (base : Heap) (Z : Cls) (k : Nat) : Sp := fun vs H Q _ => ∃ (a : Addr) (us : List V) (u : V) (r : Option Rf), vs = [.ref a, u] ∧ SqL K H a us ∧ us.length ≤ 1000 ∧ (∀ v ∈ us, Work P w K mg base Z k H v r) ∧ (∀ a b, r = some (.prog a b) → a < 1000 ∧ b < 1000) ∧ Dp K H u (datK r) ∧ ∀ H' : Hp, Ex H H' → Q (.bl true) H'
theorem d_law_are {Z : Cls} {kw : Nat} (D_law_kind : Dn P w K mg base CX0 "_law_kind" ["_law_work"] (kw + 1) (sp_law_kind P w K mg base Z kw)) (h : Has K mg "_law_are" s_law_are) : Dn P w K mg base CX0 "_law_are" ["_law_works", "_law_word"] (kw + 2) (sp_law_are P w K mg base Z kw) := by
  refine dn_of h (fun f fd F => F.binds fun _ _ _ _ _ _ us hl => match us, hl with | [_, _], _ => rfl) fun f fd F _ => F.ok sc_law_are (fun vs H Q E h => ?_) (fun cdv A outer s H vs Q E hr h => ?_)
  · obtain ⟨_, _, _, _, rfl, _⟩ := h
    rfl
  obtain ⟨a, us, u, r, rfl, ha, hz, hw, hsm, hu, k⟩ := h
  refine ⟨_, (pss_one (ps_ret (pe_cmpR (op_eqDK K rfl hr.units) (pe_lc (own := [("_law_work", 2)]) rfl sc_law_are.nd (pi_list (pv 0)) (blkOk_by (own := [("_law_work", 2)]) (N := ["_law_works", "_law_word", "_law_work"]) (sc := defScope s_law_are) (by decide +kernel)) (fun _ _ _ _ _ => (pg_name (i := 2) sc_law_are.nd rfl (Or.inl rfl))) (fun _ _ _ _ _ => pts_one (pt_cmpR (op_neDK K rfl hr.units) (pe_dn D_law_kind hr (by omega) pass0 (pa_cons (pv 2) pa_nil)) (pv 1) (nomark _))) (fun _ _ _ _ _ => (pv 2))) (pe_lst pa_nil) (nomark _)))), ?_⟩
  obtain ⟨n, hn, sh⟩ := sh_K r hsm
  have hL := el_lcL (K := K) (σ := L2.start ["_law_works", "_law_word", "_law_work"] [.ref a, u]) (H := H) (a := a) (xs := us) (tl := tVar 0) (j := 2) (vs := [2]) (te := tVar 2) (t := tTest (tOp (rNeD K) (tCall (sp_law_kind P w K mg base Z kw) [] E0 (tCons (tVar 2) tNil)) (tVar 1))) (fun _ => false) (fun _ => .non) (ev_var rfl) ha (by omega) (fun x => rfl) (fun i x H1 e1 hi H2 e2 Q z => ⟨_, rfl, x, r, rfl, (hw x (List.mem_of_getElem? hi)).mono (e1.trans e2), hsm, fun v H3 f3 dv => ⟨_, rfl, rv_neD dv (dp_mono ((e1.trans e2).trans f3) _ _ hu) sh sh hn hn H3 (Ex.refl H3) _ fun H4 f4 => ⟨_, rfl, by rw [eqv_K]; exact z H4 (f3.trans f4)⟩⟩⟩) (fun _ _ _ _ _ z => nomatch z)
  have e0 : given us.length (fun _ => false) (fun _ => V.non) = [] := by simp [given]
  rw [e0] at hL
  refine s_ret (v := .bl true) (fun H1 e1 Q q => hL H1 e1 _ fun p H2 np e2 hp => el_lst (H := H2) ea_nil (by decide) H2 (Ex.refl _) _ fun p2 H3 np2 e3 hp2 => ?_) fun H1 f1 => k H1 f1
  exact rv_eqD (d := .list []) (e := .list []) (n := 2) (m := 2) (Dp.lst (SqL.of (e3 _ _ hp)) .nil) (Dp.lst (SqL.of hp2) .nil) (sh_lst fun _ h => nomatch h) (sh_lst fun _ h => nomatch h) (by decide) (by decide) H3 (Ex.refl _) _ fun H4 f4 => q H4 ((e2.trans e3).trans f4)

/-- the i-th of so many draws: a number from 0 on, below m -/
def sp_law_next : Sp := fun vs H Q _ => ∃ (h l : Addr) (m : Int), vs = [.ref h, .int m] ∧ Draw H h l ∧ 0 < m ∧ m < 1073741824 ∧ ∀ (r : Int) (H' : Hp), 0 ≤ r → r < m → Drew H H' h l → Q (.int r) H'
theorem d_law_next (T : Nb mg) (h : Has K mg "_law_next" s_law_next) : Dn P w K mg base CX0 "_law_next" ["_law_h", "_law_many"] 1 sp_law_next := by
  refine dn_of h (fun f fd F => F.binds fun _ _ _ _ _ _ us hl => match us, hl with | [_, _], _ => rfl) fun f fd F _ => F.ok sc_law_next (fun vs H Q E h => ?_) (fun cdv A outer s H vs Q E hr h => ?_)
  · obtain ⟨_, _, _, rfl, _⟩ := h
    rfl
  · obtain ⟨h, l, m, rfl, D, hm, hm2, k⟩ := h
    refine ⟨_, (pss_cons (ps_set (i := 2) sc_law_next.nd rfl (Or.inl rfl) (pe_op op_mod (pe_ix (ix_listK K) (pv 0) pe_int (fun _ _ => rfl)) (pe_callB (call_max2 rfl) (by rfl) T.n_max PyProof.Rows.boot_max (pa_cons pe_int (pa_cons (pe_callB (call_len_seqK K) (by rfl) T.n_len PySem.boot_len (pa_cons (pe_ix (ix_listK K) (pv 0) pe_int (fun _ _ => rfl)) pa_nil)) pa_nil)))))
    (pss_cons (ps_set (i := 3) sc_law_next.nd rfl (Or.inl rfl) (pe_ifExp (pt_cmpR (op_neDK K rfl hr.units) (pe_ix (ix_listK K) (pv 0) pe_int (fun _ _ => rfl)) (pe_lst pa_nil) (nomark _)) (pe_ix (ix_listK K) (pe_ix (ix_listK K) (pv 0) pe_int (fun _ _ => rfl)) (pv 2) (fun _ _ => rfl)) pe_int))
    (pss_cons (ps_if (pt_cmpR op_ge (pv 3) (pe_op op_pow pe_int pe_int) (nomark _)) (pss_cons (ps_asg (pe_op op_fdiv (pv 3) (pv 1)) (pg_sub (pe_ix (ix_listK K) (pv 0) pe_int (fun _ _ => rfl)) (pv 2) set_list))
      (pss_one (ps_ret (pe_op op_mod (pv 3) (pv 1))))) pss_nil)
    (pss_cons (ps_asg (pe_op op_mod (pe_op op_add (pe_op op_add (pe_op op_mul (pe_ix (ix_listK K) (pv 0) pe_int (fun _ _ => rfl)) pe_int) (pe_op op_mul (pv 3) pe_int)) pe_int) pe_int) (pg_sub (pv 0) pe_int set_list))
    (pss_cons (ps_asg (pe_op op_add (pe_ix (ix_listK K) (pv 0) pe_int (fun _ _ => rfl)) pe_int) (pg_sub (pv 0) pe_int set_list))
    (pss_one (ps_ret (pe_op op_mod (pe_op op_fdiv (pe_ix (ix_listK K) (pv 0) pe_int (fun _ _ => rfl)) pe_int) (pv 1))))))))), ?_⟩
    obtain ⟨a, p, ns, e1, e2, e3⟩ := D.st
    have hhl := D.ne
    have hM : (0 : Int) < (if ((ns.map V.int).length : Int) > 1 then ((ns.map V.int).length : Int) else 1) := by split <;> omega
    refine q_asg (v := .int (p % (if ((ns.map V.int).length : Int) > 1 then ((ns.map V.int).length : Int) else 1))) (by walk_at "ev") fun H1 f1 => ?_
    have a0 := Int.emod_nonneg p (Int.ne_of_gt hM)
    have a1 := Int.emod_lt_of_pos p hM
    generalize hat : p % (if ((ns.map V.int).length : Int) > 1 then ((ns.map V.int).length : Int) else 1) = t at *
    have c1 := f1 _ _ e1
    have c2 := f1 _ _ e2
    obtain ⟨c, hc⟩ : ∃ c : Int, Ev (tIf (tTest (tOp (rNeD K) (tOp (rIxL K) (tVar 0) (tC (.int 1))) (tLst tNil))) (tOp (rIxL K) (tOp (rIxL K) (tVar 0) (tC (.int 1))) (tVar 2)) (tC (.int 0))) ((start ["_law_h", "_law_many", "_law_at", "_law_cell"] [.ref h, .int m]).set 2 (some (.int t))) H1 (.int c)
        ∧ (c ≠ 0 → ∃ j : Nat, t = (j : Int) ∧ j < ns.length) := by
      cases ns with
      | nil =>
        refine ⟨0, ev_ifF (et_test (ev_is (ev_opL (xs := []) (by walk_at "ev") (el_lst ea_nil (by decide)) fun p H2 hp f2 => rv_neD (n := 1) (m := 1) (d := .list []) (e := .list []) (.lst (SqL.of (f2 _ _ c2)) .nil) (.lst (SqL.of hp) .nil) (sh_lst fun _ z => nomatch z) (sh_lst fun _ z => nomatch z) (by decide) (by decide)) rfl)) ev_c, fun z => absurd rfl z⟩
      | cons n r =>
        obtain ⟨j, rfl⟩ : ∃ j : Nat, t = (j : Int) := ⟨t.toNat, by omega⟩
        have hj : j < (n :: r).length := by
          have q : ((n :: r).map V.int).length = (n :: r).length := List.length_map ..
          rw [q] at a1
          have q2 : (n :: r).length = r.length + 1 := rfl
          split at a1 <;> omega
        have hx : ((n :: r).map V.int)[j]? = some (.int (n :: r)[j]) := by rw [List.getElem?_map, List.getElem?_eq_getElem hj]; rfl
        refine ⟨(n :: r)[j], ev_ifT (et_test (ev_is (ev_opL (xs := []) (by walk_at "ev") (el_lst ea_nil (by decide)) fun p H2 hp f2 => rv_neD (n := 1) (m := 1) (d := .list ((n :: r).map PyData.int)) (e := .list []) (.lst (SqL.of (f2 _ _ c2)) (dpa_ints _)) (.lst (SqL.of hp) .nil) (sh_ints _) (sh_lst fun _ z => nomatch z) (by decide) (by decide)) rfl)) (by walk_at "ev"), fun _ => ⟨j, rfl, hj⟩⟩
    refine q_asg hc.1 fun H2 f2 => ?_
    have d1 := f2 _ _ c1
    have d2 := f2 _ _ c2
    have f02 := f1.trans f2
    refine q_when (b := decide ((10 : Int) ^ (18 : Int).toNat ≤ c)) (et_test (by walk_at "ev")) (fun hb H3 f3 => ?_) (fun hb H3 f3 => ?_)
    · have hb := of_decide_eq_true hb
      have e18 : (10 : Int) ^ (18 : Int).toNat = 1000000000000000000 := by decide
      rw [e18] at hb
      have e1 := f3 _ _ d1
      have e2 := f3 _ _ d2
      obtain ⟨j, rfl, hj⟩ := hc.2 (by omega)
      refine q_setL (l := l) (v := .int (c / m)) (j := j) e2 (by walk_at "ev") (by walk_at "ev") (by walk_at "ev") (by rw [List.length_map]; exact hj) fun H4 f4 => ?_
      refine s_ret (v := .int (c % m)) (by walk_at "ev") fun H5 f5 => ?_
      have g0 : Bt [h, l] H (upd H4 l (.lst ((ns.map V.int).set j (.int (c / m))))) := (Bt.of_ex ((f02.trans f3).trans f4)).upd (.inl (by simp))
      refine k _ _ (Int.emod_nonneg _ (by omega)) (Int.emod_lt_of_pos _ hm) ⟨Draw.mono f5 ⟨a, p, ns.set j (c / m), ?_, ?_, ?_⟩, g0.trans (Bt.of_ex f5)⟩
      · rw [upd_ne hhl]; exact f4 _ _ e1
      · rw [List.map_set]; exact upd_same
      · rw [List.length_set]; exact e3
    · have e1 := f3 _ _ d1
      have e2 := f3 _ _ d2
      refine q_setL (l := h) (v := .int ((a * 48271 + c * 69621 + 11) % 2147483647)) (j := 0) e1 (by walk_at "ev") (by walk_at "ev") (by walk_at "ev") (by simp) fun H4 f4 => ?_
      have g1 : (upd H4 h (.lst (([.int a, .ref l, .int p] : List V).set 0 (.int ((a * 48271 + c * 69621 + 11) % 2147483647))))) h = some (.lst [.int ((a * 48271 + c * 69621 + 11) % 2147483647), .ref l, .int p]) := upd_same
      refine q_setL (l := h) (v := .int (p + 1)) (j := 2) g1 (by walk_at "ev") (by walk_at "ev") (by walk_at "ev") (by simp) fun H5 f5 => ?_
      have g2 : (upd H5 h (.lst (([.int ((a * 48271 + c * 69621 + 11) % 2147483647), .ref l, .int p] : List V).set 2 (.int (p + 1))))) h = some (.lst [.int ((a * 48271 + c * 69621 + 11) % 2147483647), .ref l, .int (p + 1)]) := upd_same
      refine s_ret (v := .int ((a * 48271 + c * 69621 + 11) % 2147483647 / 7 % m)) (by walk_at "ev") fun H6 f6 => ?_
      refine k _ _ (Int.emod_nonneg _ (by omega)) (Int.emod_lt_of_pos _ hm) ⟨Draw.mono f6 ⟨_, p + 1, ns, g2, ?_, e3⟩, ?_⟩
      · rw [upd_ne hhl.symm]
        refine f5 _ _ ?_
        rw [upd_ne hhl.symm]
        exact f4 _ _ e2
      · have b1 : Bt [h, l] H (upd H4 h (.lst (([.int a, .ref l, .int p] : List V).set 0 (.int ((a * 48271 + c * 69621 + 11) % 2147483647))))) := (Bt.of_ex ((f02.trans f3).trans f4)).upd (.inl (by simp))
        exact ((b1.trans (Bt.of_ex f5)).upd (.inl (by simp))).trans (Bt.of_ex f6)

theorem q_draw {tz : TS} {D : L2.Ends} {σ : L2.St} {H : Hp} {E : XK} {i j : Nat} {tm : TE} {m : Int} {h l : Addr} (hm : Ev tm σ H (.int m)) (hj : σ[j]? = some (some (.ref h))) (G : Draw H h l) (h0 : 0 < m) (h1 : m < 1073741824)
    (k : ∀ (r : Int) (H1 : Hp), 0 ≤ r → r < m → Drew H H1 h l → tz D (σ.set i (some (.int r))) H1) : tSeq (tAsg (tCall sp_law_next [] E (tCons (tVar j) (tCons tm tNil))) (gName i)) tz D σ H :=
  ⟨_, hj, hm H (Ex.refl H) _ fun H1 f1 => ⟨h, l, m, rfl, G.mono f1, h0, h1, fun r H2 r0 r1 D2 => k r H2 r0 r1 (((Drew.refl G).of_ex f1).trans D2)⟩⟩

/-- the draws are laid -/
def sp_law_mix (K : PySem.W.Frag) : Sp := fun vs H Q _ => ∃ (a : Addr) (s : Int) (ns : List Int), vs = [.ref a, .int s] ∧ SqL K H a (ns.map V.int) ∧ ns.length ≤ 63 ∧ ∀ (h l : Addr) (H' : Hp), Ex H H' → Draw H' h l → Q (.ref h) H'
theorem d_law_mix (T : Nb mg) (h : Has K mg "_law_mix" s_law_mix) : Dn P w K mg base CX0 "_law_mix" ["_law_script", "_law_seed"] 1 (sp_law_mix K) := by
  refine dn_of h (fun f fd F => F.binds fun _ _ _ _ _ _ us hl => match us, hl with | [_, _], _ => rfl) fun f fd F _ => F.ok sc_law_mix (fun vs H Q E h => ?_) (fun cdv A outer s H vs Q E hr h => ?_)
  · obtain ⟨_, _, _, rfl, _⟩ := h
    rfl
  · obtain ⟨a, sd, ns, rfl, hS, hn, k⟩ := h
    refine ⟨_, (pss_cons (ps_set (i := 2) sc_law_mix.nd rfl (Or.inl rfl) (pv 1))
    (pss_cons (ps_for PassesOwn.never rfl (pi_list (pv 0)) (pg_name (i := 3) sc_law_mix.nd rfl (Or.inl rfl))
      (pss_one (ps_set (i := 2) sc_law_mix.nd rfl (Or.inl rfl) (pe_op op_mod (pe_op op_add (pe_op op_add (pe_op op_mul (pv 2) pe_int) (pe_op op_mod (pv 3) pe_int)) pe_int) pe_int))))
    (pss_one (ps_ret (pe_lst (pa_cons (pv 2) (pa_cons (pe_callTy (call_list_ofK K) (by rfl) T.n_list PyProof.Rows.boot_list (pa_cons (pv 0) pa_nil)) (pa_cons pe_int pa_nil)))))))), ?_⟩
    refine q_asg (v := .int sd) (by walk_at "ev") fun H1 f1 => ?_
    refine q_forLn (a := a) (xs := ns.map V.int) (by walk_at "ev") (ex_l f1 hS) (fun _ σ' H' => ∃ (z : Int) (v : Option V), σ' = [some (.ref a), some (.int sd), some (.int z), v] ∧ Ex H H')
      (fun H2 f2 => ⟨sd, none, rfl, f1.trans f2⟩) (fun i σ' H' _ ⟨_, _, _, e⟩ => ex_l e hS) ?_ ?_
    · rintro i x σ' H' hi ⟨z, v, rfl, e⟩
      obtain ⟨n, rfl⟩ : ∃ n, x = V.int n := by
        rw [List.getElem?_map] at hi
        cases q : ns[i]? with
        | none => rw [q] at hi; cases hi
        | some n => rw [q] at hi; exact ⟨n, (Option.some.inj hi).symm⟩
      exact s_asg (v := .int ((z * 48271 + n % 2147483629 + 1) % 2147483647)) (by walk_at "ev") fun H2 f2 => ⟨_, _, rfl, e.trans f2⟩
    · rintro σ' H' ⟨z, v, rfl, e⟩
      refine ⟨_, rfl, _, rfl, a, _, rfl, .inl (ex_l e hS), fun l hl => ⟨by show 3 ≤ sizeLine; decide, fun h hh => ?_⟩⟩
      have hlh : l ≠ h := ne_of_none upd_same hh
      refine k h l _ ((e.trans (Ex.new hl)).trans (Ex.new hh)) ⟨z, 0, ns, upd_same, ?_, hn⟩
      rw [upd_ne hlh]
      exact upd_same

/-- a deed at so many cells is drawn -/
def sp_law_deed (K : PySem.W.Frag) : Sp := fun vs H Q _ => ∃ (h l : Addr) (n : Nat), vs = [.ref h, .int n] ∧ Draw H h l ∧ 0 < n ∧ n ≤ 4 ∧ ∀ (v : V) (d : Deed) (H' : Hp), DV K H' v d → d.ok n → Drew H H' h l → Q v H'
theorem d_law_deed (T : Nb mg) (D_law_next : Dn P w K mg base CX0 "_law_next" ["_law_h", "_law_many"] 1 sp_law_next) (h : Has K mg "_law_deed" s_law_deed) : Dn P w K mg base CX0 "_law_deed" ["_law_h", "_law_cells"] 2 (sp_law_deed K) := by
  refine dn_of h (fun f fd F => F.binds fun _ _ _ _ _ _ us hl => match us, hl with | [_, _], _ => rfl) fun f fd F _ => F.ok sc_law_deed (fun vs H Q E h => ?_) (fun cdv A outer s H vs Q E hr h => ?_)
  · obtain ⟨_, _, _, rfl, _⟩ := h
    rfl
  · obtain ⟨h, l, n, rfl, D, hn, hn4, k⟩ := h
    refine ⟨_, (pss_cons (ps_set (i := 2) sc_law_deed.nd rfl (Or.inl rfl) (pe_dn D_law_next hr (by omega) pass0 (pa_cons (pv 0) (pa_cons (pv 1) pa_nil))))
    (pss_one (ps_ret (pe_ix (ix_listK K) (pe_lst (pa_cons (pe_tup (pa_cons pe_str (pa_cons (pv 2) pa_nil))) (pa_cons (pe_tup (pa_cons pe_str (pa_cons (pv 2) (pa_cons (pe_dn D_law_next hr (by omega) pass0 (pa_cons (pv 0) (pa_cons pe_int pa_nil))) pa_nil)))) (pa_cons (pe_tup (pa_cons pe_str (pa_cons (pv 2) pa_nil))) (pa_cons (pe_tup (pa_cons pe_str pa_nil)) pa_nil))))) (pe_op op_fdiv (pe_dn D_law_next hr (by omega) pass0 (pa_cons (pv 0) (pa_cons pe_int pa_nil))) pe_int) (fun _ _ => rfl))))), ?_⟩
    -- the cell
    refine ⟨_, rfl, _, rfl, h, l, n, rfl, D, by omega, by omega, fun c H1 c0 c1 D1 => ?_⟩
    obtain ⟨c, rfl⟩ : ∃ j : Nat, c = (j : Int) := ⟨c.toNat, by omega⟩
    -- the first tuple
    refine ⟨_, rfl, by show 2 ≤ sizeLine; decide, fun p1 n1 => ?_⟩
    have D2 := D1.new (o := .tup [.str "read", .int c]) n1
    -- the second one, its worth
    refine ⟨_, rfl, _, rfl, h, l, 3, rfl, D2.dr, by decide, by decide, fun r H3 r0 r1 D3 => ⟨by show 3 ≤ sizeLine; decide, fun p2 n2 => ?_⟩⟩
    obtain ⟨r, rfl⟩ : ∃ j : Nat, r = (j : Int) := ⟨r.toNat, by omega⟩
    have t1 : SqT K H3 p1 (Deed.rd c).vals := D2.dr.t D3.bt (SqT.of upd_same)
    have D4 := D3.new (o := .tup [.str "write", .int c, .int r]) n2
    -- the third one, the fourth one, the list
    refine ⟨_, rfl, by show 2 ≤ sizeLine; decide, fun p3 n3 => ⟨by show 1 ≤ sizeLine; decide, fun p4 n4 => ⟨by show 4 ≤ sizeLine; decide, fun pl nl => ?_⟩⟩⟩
    have D5 := D4.new (o := .tup [.str "read", .int c]) n3
    have D6 := D5.new (o := .tup [.str "rest"]) n4
    have D7 := D6.new (o := .lst [.ref p1, .ref p2, .ref p3, .ref p4]) nl
    -- which one
    refine ⟨_, rfl, h, l, 7, rfl, D7.dr, by decide, by decide, fun z H8 z0 z1 D8 => ?_⟩
    have e1 : SqT K H8 p1 (Deed.rd c).vals := D7.dr.t D8.bt (ex_t (Ex.new nl) (ex_t (Ex.new n4) (ex_t (Ex.new n3) (ex_t (Ex.new n2) t1))))
    have e2 : SqT K H8 p2 (Deed.wr c r).vals := D7.dr.t D8.bt (ex_t (Ex.new nl) (ex_t (Ex.new n4) (ex_t (Ex.new n3) (SqT.of upd_same))))
    have e3 : SqT K H8 p3 (Deed.rd c).vals := D7.dr.t D8.bt (ex_t (Ex.new nl) (ex_t (Ex.new n4) (SqT.of upd_same)))
    have e4 : SqT K H8 p4 Deed.rs.vals := D7.dr.t D8.bt (ex_t (Ex.new nl) (SqT.of upd_same))
    have hl7 : ¬ pl ∈ [h, l] := by
      obtain ⟨_, _, _, q1, q2, _⟩ := D6.dr.st
      simp only [List.mem_cons, List.not_mem_nil, or_false]
      rintro (rfl | rfl)
      · rw [nl] at q1; cases q1
      · rw [nl] at q2; cases q2
    have el : H8 pl = some (.lst [.ref p1, .ref p2, .ref p3, .ref p4]) := D8.bt _ _ hl7 upd_same
    have DD : Drew H H8 h l := (D2.trans D7).trans D8
    refine ⟨z, 2, rfl, rfl, ⟨by decide, by decide⟩, pl, _, z / 2, ?v, rfl, rfl, SqL.of el, ?w, ?q⟩
    case v => exact if z < 2 then .ref p1 else if z < 4 then .ref p2 else if z < 6 then .ref p3 else .ref p4
    case w =>
      by_cases h2 : z < 2
      · have : z / 2 = 0 := by omega
        rw [this, if_pos h2]; rfl
      · by_cases h4 : z < 4
        · have : z / 2 = 1 := by omega
          rw [this, if_neg h2, if_pos h4]; rfl
        · by_cases h6 : z < 6
          · have : z / 2 = 2 := by omega
            rw [this, if_neg h2, if_neg h4, if_pos h6]; rfl
          · have : z / 2 = 3 := by omega
            rw [this, if_neg h2, if_neg h4, if_neg h6]; rfl
    case q =>
      refine k _ (if z < 2 then .rd c else if z < 4 then .wr c r else if z < 6 then .rd c else .rs) H8 ?_ ?_ DD
      · split
        · exact ⟨p1, rfl, e1⟩
        · split
          · exact ⟨p2, rfl, e2⟩
          · split
            · exact ⟨p3, rfl, e3⟩
            · exact ⟨p4, rfl, e4⟩
      · split
        · show c < n; omega
        · split
          · exact ⟨by omega, by omega⟩
          · split
            · show c < n; omega
            · exact True.intro

/-- a program of up to so many deeds is drawn -/
def sp_law_program (K : PySem.W.Frag) : Sp := fun vs H Q _ => ∃ (h l : Addr) (n m : Nat), vs = [.ref h, .int n, .int m] ∧ Draw H h l ∧ 0 < n ∧ n ≤ 4 ∧ m ≤ 40 ∧
  ∀ (p : Addr) (us : List V) (ds : List Deed) (H' : Hp), H p = none → H' p = some (.lst us) → PV K H' us ds → ds.length ≤ m → (∀ d ∈ ds, d.ok n) → Drew H H' h l → Q (.ref p) H'
theorem d_law_program (T : Nb mg) (D_law_next : Dn P w K mg base CX0 "_law_next" ["_law_h", "_law_many"] 1 sp_law_next) (D_law_deed : Dn P w K mg base CX0 "_law_deed" ["_law_h", "_law_cells"] 2 (sp_law_deed K))
    (h : Has K mg "_law_program" s_law_program) : Dn P w K mg base CX0 "_law_program" ["_law_h", "_law_cells", "_law_most"] 3 (sp_law_program K) := by
  refine dn_of h (fun f fd F => F.binds fun _ _ _ _ _ _ us hl => match us, hl with | [_, _, _], _ => rfl) fun f fd F _ => F.ok sc_law_program (fun vs H Q E h => ?_) (fun cdv A outer s H vs Q E hr h => ?_)
  · obtain ⟨_, _, _, _, rfl, _⟩ := h
    rfl
  · obtain ⟨h, l, n, m, rfl, D, hn, hn4, hm, k⟩ := h
    refine ⟨_, (pss_one (ps_ret (pe_lc (own := [("_law_k", 3)]) rfl sc_law_program.nd (pi_range1 rfl T.n_range (pa_cons (pe_dn D_law_next hr (by omega) pass0 (pa_cons (pv 0) (pa_cons (pe_op op_add (pv 2) pe_int) pa_nil))) pa_nil)) (blkOk_by (own := [("_law_k", 3)]) (N := ["_law_h", "_law_cells", "_law_most", "_law_k"]) (sc := defScope s_law_program) (by decide +kernel)) (fun _ _ _ _ _ => (pg_name (i := 3) sc_law_program.nd rfl (Or.inl rfl))) (fun _ _ _ _ _ => pts_nil) (fun _ _ _ _ _ => (pe_dn D_law_deed hr (by omega) pass0 (pa_cons (pv 0) (pa_cons (pv 1) pa_nil))))))), ?_⟩
    refine ⟨_, rfl, _, rfl, _, _, rfl, rfl, h, l, (m : Int) + 1, rfl, D, by omega, by omega, fun c H1 c0 c1 D1 => ?_⟩
    obtain ⟨c, rfl⟩ : ∃ j : Nat, c = (j : Int) := ⟨c.toNat, by omega⟩
    refine ⟨(c : Int), rfl, by omega, by omega, fun p hp => ?_⟩
    have hp0 : ¬ p ∈ [h, l] := by
      obtain ⟨_, _, _, q1, q2, _⟩ := D1.dr.st
      simp only [List.mem_cons, List.not_mem_nil, or_false]
      rintro (rfl | rfl)
      · rw [hp] at q1; cases q1
      · rw [hp] at q2; cases q2
    refine lc_range (lo := 0) (n := (c : Int).toNat) (fun i H' => ∃ us ds, H' p = some (.lst us) ∧ PV K H' us ds ∧ ds.length = i ∧ (∀ d ∈ ds, d.ok n) ∧ Drew H H' h l)
      ⟨[], [], upd_same, .nil, rfl, (fun _ z => nomatch z), D1.new hp⟩ ?_ ?_
    · rintro i H' hi ⟨us, ds, e1, e2, e3, e4, e5⟩
      refine ⟨rfl, _, rfl, _, rfl, h, l, n, rfl, e5.dr, hn, hn4, fun v d H2 g1 g2 g3 => ⟨us, g3.bt p _ hp0 e1, ?_, us ++ [v], ds ++ [d], upd_same, ?_, ?_, ?_, ?_⟩⟩
      · have q := e2.length
        have q2 : (1000 : Nat) < sizeLine := by decide
        omega
      · have a1 : PV K H2 us ds := e5.dr.pv g3.bt e2
        have a2 := PV.snoc g1 a1
        have b : Bt [p] H2 (upd H2 p (.lst (us ++ [v]))) := (Bt.refl H2).upd (.inl (by simp))
        exact pv_map (fun v d q => dv_but b (g3.bt p _ hp0 e1) q) a2
      · rw [List.length_append, e3]; rfl
      · intro x hx
        rcases List.mem_append.mp hx with hx | hx
        · exact e4 x hx
        · rw [List.mem_singleton.mp hx]; exact g2
      · have g := e5.trans g3
        refine ⟨?_, g.bt.upd (.inr (D1.bt.free hp0 hp))⟩
        obtain ⟨a, p', ns, q1, q2, q3⟩ := g.dr.st
        refine ⟨a, p', ns, ?_, ?_, q3⟩
        · rw [upd_ne (fun z => hp0 (by rw [← z]; simp))]; exact q1
        · rw [upd_ne (fun z => hp0 (by rw [← z]; simp))]; exact q2
    · rintro H' ⟨us, ds, e1, e2, e3, e4, e5⟩
      exact k p us ds H' (D1.bt.free hp0 hp) e1 e2 (by omega) e4 e5

/-- a memory of so many cells is drawn -/
def sp_law_memory (K : PySem.W.Frag) : Sp := fun vs H Q _ => ∃ (h l : Addr) (n : Nat), vs = [.ref h, .int n] ∧ Draw H h l ∧ n ≤ 4 ∧
  ∀ (p : Addr) (ws : List Nat) (H' : Hp), H p = none → H' p = some (.tup (ws.map wV)) → ws.length = n → (∀ x ∈ ws, x < 3) → Drew H H' h l → Q (.ref p) H'
theorem d_law_memory (T : Nb mg) (D_law_next : Dn P w K mg base CX0 "_law_next" ["_law_h", "_law_many"] 1 sp_law_next) (h : Has K mg "_law_memory" s_law_memory) : Dn P w K mg base CX0 "_law_memory" ["_law_h", "_law_cells"] 2 (sp_law_memory K) := by
  refine dn_of h (fun f fd F => F.binds fun _ _ _ _ _ _ us hl => match us, hl with | [_, _], _ => rfl) fun f fd F _ => F.ok sc_law_memory (fun vs H Q E h => ?_) (fun cdv A outer s H vs Q E hr h => ?_)
  · obtain ⟨_, _, _, rfl, _⟩ := h
    rfl
  · obtain ⟨h, l, n, rfl, D, hn4, k⟩ := h
    refine ⟨_, (pss_one (ps_ret (pe_callTy call_tuple_of (by rfl) T.n_tuple PyProof.Rows.boot_tuple (pa_cons (pe_lc (own := [("_law_k", 2)]) rfl sc_law_memory.nd (pi_range1 rfl T.n_range (pa_cons (pv 1) pa_nil)) (blkOk_by (own := [("_law_k", 2)]) (N := ["_law_h", "_law_cells", "_law_k"]) (sc := defScope s_law_memory) (by decide +kernel)) (fun _ _ _ _ _ => (pg_name (i := 2) sc_law_memory.nd rfl (Or.inl rfl))) (fun _ _ _ _ _ => pts_nil) (fun _ _ _ _ _ => (pe_dn D_law_next hr (by omega) pass0 (pa_cons (pv 0) (pa_cons pe_int pa_nil))))) pa_nil)))), ?_⟩
    refine ⟨_, rfl, (n : Int), rfl, by omega, by omega, fun p hp => ?_⟩
    have hp0 : ¬ p ∈ [h, l] := by
      obtain ⟨_, _, _, q1, q2, _⟩ := D.st
      simp only [List.mem_cons, List.not_mem_nil, or_false]
      rintro (rfl | rfl)
      · rw [hp] at q1; cases q1
      · rw [hp] at q2; cases q2
    refine lc_range (lo := 0) (n := (n : Int).toNat) (fun i H' => ∃ ws : List Nat, H' p = some (.lst (ws.map wV)) ∧ ws.length = i ∧ (∀ x ∈ ws, x < 3) ∧ Drew H H' h l)
      ⟨[], upd_same, rfl, (fun _ z => nomatch z), (Drew.refl D).new hp⟩ ?_ ?_
    · rintro i H' hi ⟨ws, e1, e3, e4, e5⟩
      refine ⟨rfl, _, rfl, h, l, 3, rfl, e5.dr, by decide, by decide, fun r H2 r0 r1 g3 => ?_⟩
      obtain ⟨r, rfl⟩ : ∃ j : Nat, r = (j : Int) := ⟨r.toNat, by omega⟩
      refine ⟨ws.map wV, g3.bt p _ hp0 e1, ?_, ws ++ [r], ?_, ?_, ?_, ?_⟩
      · have q2 : (1000 : Nat) < sizeLine := by decide
        rw [List.length_map]
        omega
      · rw [upd_same, List.map_append]
        rfl
      · rw [List.length_append, e3]; rfl
      · intro x hx
        rcases List.mem_append.mp hx with hx | hx
        · exact e4 x hx
        · rw [List.mem_singleton.mp hx]; omega
      · have g := e5.trans g3
        refine ⟨?_, g.bt.upd (.inr hp)⟩
        obtain ⟨a, p', ns, q1, q2, q3⟩ := g.dr.st
        refine ⟨a, p', ns, ?_, ?_, q3⟩
        · rw [upd_ne (fun z => hp0 (by rw [← z]; simp))]; exact q1
        · rw [upd_ne (fun z => hp0 (by rw [← z]; simp))]; exact q2
    · rintro H' ⟨ws, e1, e3, e4, e5⟩
      refine ⟨p, _, rfl, .inl ⟨SqL.of e1, fun t ht => ?_⟩⟩
      exact k t ws _ (e5.bt.free (by
        obtain ⟨_, _, _, q1, q2, _⟩ := e5.dr.st
        simp only [List.mem_cons, List.not_mem_nil, or_false]
        rintro (rfl | rfl)
        · rw [ht] at q1; cases q1
        · rw [ht] at q2; cases q2) ht) upd_same (by omega) e4 (e5.new ht)

/-- what is no deed -/
def oddL (n f : Int) : List Raw := ([some ("read", [n + f]), some ("read", [-1 - f]), some ("write", [n + f, 0]), some ("write", [0, 3 + f]), some ("read", [])] : List Raw) ++
  ([some ("write", [0, -1 - f]), some ("write", [0]), some ("read", [0, 0]), some ("rest", [0]), none, some ("Read", [0]), some ("", [0])] : List Raw)
theorem oddL_no {n f : Int} (hf : 0 ≤ f) : ∀ d ∈ oddL n f, d.ok ∧ isD n d = false := by
  intro d hd
  have s1 : PyData.strOk "read" = true := by decide +kernel
  have s2 : PyData.strOk "write" = true := by decide +kernel
  have s3 : PyData.strOk "rest" = true := by decide +kernel
  have s4 : PyData.strOk "Read" = true := by decide +kernel
  have s5 : PyData.strOk "" = true := by decide +kernel
  have e1 : ¬ (("Read" : Str) = "read") := by decide +kernel
  have e2 : ¬ (("Read" : Str) = "write") := by decide +kernel
  have e3 : ¬ (("" : Str) = "read") := by decide +kernel
  have e4 : ¬ (("" : Str) = "write") := by decide +kernel
  have e5 : ¬ (("write" : Str) = "read") := by decide +kernel
  have e6 : ¬ (("rest" : Str) = "read") := by decide +kernel
  have e7 : ¬ (("rest" : Str) = "write") := by decide +kernel
  unfold oddL at hd
  simp only [List.mem_append, List.mem_cons, List.not_mem_nil, or_false] at hd
  rcases hd with (rfl | rfl | rfl | rfl | rfl) | rfl | rfl | rfl | rfl | rfl | rfl | rfl
  · exact ⟨s1, by simp only [isD, if_pos, isRd, decide_eq_false_iff_not]; omega⟩
  · exact ⟨s1, by simp only [isD, if_pos, isRd, decide_eq_false_iff_not]; omega⟩
  · refine ⟨s2, ?_⟩
    simp only [isD, if_neg e5, if_pos, isWr]
    rw [decide_eq_false (by omega : ¬ (0 ≤ n + f ∧ n + f < n))]
    rfl
  · refine ⟨s2, ?_⟩
    simp only [isD, if_neg e5, if_pos, isWr]
    rw [decide_eq_false (by omega : ¬ (0 ≤ 3 + f ∧ 3 + f < 3)), Bool.and_false]
  · exact ⟨s1, by simp only [isD, if_pos, isRd]⟩
  · refine ⟨s2, ?_⟩
    simp only [isD, if_neg e5, if_pos, isWr]
    rw [decide_eq_false (by omega : ¬ (0 ≤ -1 - f ∧ -1 - f < 3)), Bool.and_false]
  · exact ⟨s2, by simp only [isD, if_neg e5, if_pos, isWr]⟩
  · exact ⟨s1, by simp only [isD, if_pos, isRd]⟩
  · exact ⟨s3, by simp only [isD, if_neg e6, if_neg e7, decide_eq_false_iff_not]; simp⟩
  · exact ⟨True.intro, rfl⟩
  · refine ⟨s4, ?_⟩
    simp only [isD, if_neg e1, if_neg e2, decide_eq_false_iff_not]
    simp
  · refine ⟨s5, ?_⟩
    simp only [isD, if_neg e3, if_neg e4, decide_eq_false_iff_not]
    simp
/-- an odd deed is drawn -/
def sp_law_odd (K : PySem.W.Frag) : Sp := fun vs H Q _ => ∃ (h l : Addr) (n : Nat), vs = [.ref h, .int n] ∧ Draw H h l ∧ ∀ (v : V) (d : Raw) (H' : Hp), RV K H' v d → d.ok → isD n d = false → Drew H H' h l → Q v H'
theorem d_law_odd (D_law_next : Dn P w K mg base CX0 "_law_next" ["_law_h", "_law_many"] 1 sp_law_next) (h : Has K mg "_law_odd" s_law_odd) : Dn P w K mg base CX0 "_law_odd" ["_law_h", "_law_cells"] 2 (sp_law_odd K) := by
  refine dn_of h (fun f fd F => F.binds fun _ _ _ _ _ _ us hl => match us, hl with | [_, _], _ => rfl) fun f fd F _ => F.ok sc_law_odd (fun vs H Q E h => ?_) (fun cdv A outer s H vs Q E hr h => ?_)
  · obtain ⟨_, _, _, rfl, _⟩ := h
    rfl
  obtain ⟨h, l, n, rfl, D, k⟩ := h
  refine ⟨_, (pss_cons (ps_set (i := 2) sc_law_odd.nd rfl (Or.inl rfl) (pe_dn D_law_next hr (by omega) pass0 (pa_cons (pv 0) (pa_cons (pe_op op_pow pe_int pe_int) pa_nil))))
    (pss_cons (ps_set (i := 3) sc_law_odd.nd rfl (Or.inl rfl) (pe_lst (pa_cons (pe_tup (pa_cons pe_str (pa_cons (pe_op op_add (pv 1) (pv 2)) pa_nil))) (pa_cons (pe_tup (pa_cons pe_str (pa_cons (pe_op op_sub (pe_un un_neg pe_int) (pv 2)) pa_nil))) (pa_cons (pe_tup (pa_cons pe_str (pa_cons (pe_op op_add (pv 1) (pv 2)) (pa_cons pe_int pa_nil)))) (pa_cons (pe_tup (pa_cons pe_str (pa_cons pe_int (pa_cons (pe_op op_add pe_int (pv 2)) pa_nil)))) (pa_cons (pe_tup (pa_cons pe_str pa_nil)) pa_nil)))))))
    (pss_cons (ps_set (i := 3) sc_law_odd.nd rfl (Or.inl rfl) (pe_op op_cat (pv 3) (pe_lst (pa_cons (pe_tup (pa_cons pe_str (pa_cons pe_int (pa_cons (pe_op op_sub (pe_un un_neg pe_int) (pv 2)) pa_nil)))) (pa_cons (pe_tup (pa_cons pe_str (pa_cons pe_int pa_nil))) (pa_cons (pe_tup (pa_cons pe_str (pa_cons pe_int (pa_cons pe_int pa_nil)))) (pa_cons (pe_tup (pa_cons pe_str (pa_cons pe_int pa_nil))) (pa_cons (pe_tup pa_nil) (pa_cons (pe_tup (pa_cons pe_str (pa_cons pe_int pa_nil))) (pa_cons (pe_tup (pa_cons pe_str (pa_cons pe_int pa_nil))) pa_nil))))))))))
    (pss_one (ps_ret (pe_ix (ix_listK K) (pv 3) (pe_dn D_law_next hr (by omega) pass0 (pa_cons (pv 0) (pa_cons pe_int pa_nil))) (fun _ _ => rfl))))))), ?_⟩
  refine q_draw (m := (10 : Int) ^ (6 : Int).toNat) (by walk_at "ev") rfl D (by decide) (by decide) fun f H1 f0 f1 D1 => ?_
  have n1 : ∀ {H' : Hp}, Ev (tUn (rU fun i => .int (-i)) (tC (.int 1))) [some (.ref h), some (.int n), some (.int f), none] H' (.int (-1)) := fun {H'} => ev_un ev_c ru_neg
  refine q_asgR (K := K) (ds := [some ("read", [n + f]), some ("read", [-1 - f]), some ("write", [n + f, 0]), some ("write", [0, 3 + f]), some ("read", [])]) (erl_lst (er_cons (ea_cons ev_c (ea_cons (by walk_at "ev") ea_nil)) (er_cons (ea_cons ev_c (ea_cons (ev_op n1 (ev_var rfl) rv_I0) ea_nil)) (er_cons (ea_cons ev_c (ea_cons (by walk_at "ev") (ea_cons ev_c ea_nil)))
    (er_cons (ea_cons ev_c (ea_cons ev_c (ea_cons (by walk_at "ev") ea_nil))) (er_cons (ea_cons ev_c ea_nil) er_nil)))))) fun p us H2 np e2 hp rp => ?_
  have n2 : ∀ {H' : Hp}, Ev (tUn (rU fun i => .int (-i)) (tC (.int 1))) [some (.ref h), some (.int n), some (.int f), some (.ref p)] H' (.int (-1)) := fun {H'} => ev_un ev_c ru_neg
  refine q_asgR (K := K) (ds := oddL n f) (erl_catV (ev_var rfl) hp rp (erl_lst (er_cons (ea_cons ev_c (ea_cons ev_c (ea_cons (ev_op n2 (ev_var rfl) rv_I0) ea_nil))) (er_cons (ea_cons ev_c (ea_cons ev_c ea_nil)) (er_cons (ea_cons ev_c (ea_cons ev_c (ea_cons ev_c ea_nil)))
    (er_cons (ea_cons ev_c (ea_cons ev_c ea_nil)) (er_cons (d := none) ea_nil (er_cons (ea_cons ev_c (ea_cons ev_c ea_nil)) (er_cons (ea_cons ev_c (ea_cons ev_c ea_nil)) er_nil)))))))) (Nat.le_of_ble_eq_true rfl)) fun q xs H3 nq e3 hq rq => ?_
  have D3 := D1.of_ex (e2.trans e3)
  have nq' := (D1.dr.mono e2).out nq
  refine ⟨_, rfl, _, rfl, h, l, 12, rfl, D3.dr, by decide, by decide, fun z H4 z0 z1 D4 => ?_⟩
  obtain ⟨z, rfl⟩ : ∃ j : Nat, z = (j : Int) := ⟨z.toNat, by omega⟩
  have hq4 := D4.bt q _ nq' hq
  have hlen := rq.length
  have hzl : z < xs.length := by rw [hlen]; show z < 12; omega
  have hx : xs[z]? = some xs[z] := List.getElem?_eq_getElem hzl
  obtain ⟨d, hd, rv⟩ := rq.get hx
  obtain ⟨o1, o2⟩ := oddL_no f0 d (List.mem_of_getElem? hd)
  refine ⟨q, _, (z : Int), _, rfl, rfl, SqL.of hq4, atI_nat hx, ?_⟩
  obtain ⟨a, ea, sa⟩ := rv
  exact k _ d H4 ⟨a, ea, D3.dr.t D4.bt sa⟩ o1 o2 (D3.trans D4)

/-- a program that can't be, and its first bad place -/
def sp_law_bad (K : PySem.W.Frag) : Sp := fun vs H Q _ => ∃ (h l p : Addr) (n : Nat) (us : List V) (ds : List Deed), vs = [.ref h, .int n, .ref p] ∧ Draw H h l ∧ ¬ p ∈ [h, l] ∧ H p = some (.lst us) ∧ PV K H us ds ∧ ds.length ≤ 9 ∧ (∀ d ∈ ds, d.ok n) ∧
  ∀ (t q : Addr) (at' : Nat) (xs : List V) (rs : List Raw) (H' : Hp), H' t = some (.tup [.ref q, .int at']) ∧ H' q = some (.lst xs) ∧ RVs K H' xs rs ∧ rs.length ≤ 40 ∧ (∀ d ∈ rs, d.ok) ∧ at' ≤ 9 ∧ (∀ m : Nat, 9 ≤ m → firstBad n m rs = some at') → H q = none → Drew H H' h l → Q (.ref t) H'
theorem d_law_bad (T : Nb mg) (D_law_next : Dn P w K mg base CX0 "_law_next" ["_law_h", "_law_many"] 1 sp_law_next) (D_law_odd : Dn P w K mg base CX0 "_law_odd" ["_law_h", "_law_cells"] 2 (sp_law_odd K)) (h : Has K mg "_law_bad" s_law_bad) : Dn P w K mg base CX0 "_law_bad" ["_law_h", "_law_cells", "_law_program_here"] 3 (sp_law_bad K) := by
  refine dn_of h (fun f fd F => F.binds fun _ _ _ _ _ _ us hl => match us, hl with | [_, _, _], _ => rfl) fun f fd F _ => F.ok sc_law_bad (fun vs H Q E h => ?_) (fun cdv A outer s H vs Q E hr h => ?_)
  · obtain ⟨_, _, _, _, _, _, rfl, _⟩ := h
    rfl
  obtain ⟨h, l, p, n, us, ds, rfl, D, np, hp, pv', hz, hok, k⟩ := h
  refine ⟨_, (pss_cons (ps_set (i := 3) sc_law_bad.nd rfl (Or.inl rfl) (pe_dn D_law_next hr (by omega) pass0 (pa_cons (pv 0) (pa_cons (pe_op op_add (pe_callB (call_len_seqK K) (by rfl) T.n_len PySem.boot_len (pa_cons (pv 2) pa_nil)) pe_int) pa_nil))))
    (pss_one (ps_ret (pe_tup (pa_cons (pe_op op_cat (pe_op op_cat (pe_op op_cat (pe_slice sl_list (pv 2) po_none (po_some (pv 3))) (pe_lst (pa_cons (pe_dn D_law_odd hr (by omega) pass0 (pa_cons (pv 0) (pa_cons (pv 1) pa_nil))) pa_nil))) (pe_slice sl_list (pv 2) (po_some (pv 3)) po_none)) (pe_op op_rep (pe_lst (pa_cons (pe_tup pa_nil) pa_nil)) (pe_dn D_law_next hr (by omega) pass0 (pa_cons (pv 0) (pa_cons pe_int pa_nil))))) (pa_cons (pv 3) pa_nil)))))), ?_⟩
  have hl := pv'.length
  refine q_draw (m := (us.length : Int) + 1) (by walk_at "ev") rfl D (by omega) (by omega) fun a H1 a0 a1 D1 => ?_
  obtain ⟨a, rfl⟩ : ∃ j : Nat, a = (j : Int) := ⟨a.toNat, by omega⟩
  have ha : a ≤ ds.length := by omega
  have hp1 := D1.bt p _ np hp
  have s1 : ∀ {H' : Hp}, H' p = some (.lst us) → EvL (tSl (rSlL K) (tVar 2) tNoPart (tPart (tVar 3))) [some (.ref h), some (.int n), some (.ref p), some (.int a)] H' (us.take a) := fun {H'} e => ev_slL (ev_var rfl) eo_none (eo_some (ev_var rfl)) (SqL.of e) (cutV_to _ _)
  have s2 : ∀ {H' : Hp}, H' p = some (.lst us) → EvL (tSl (rSlL K) (tVar 2) (tPart (tVar 3)) tNoPart) [some (.ref h), some (.int n), some (.ref p), some (.int a)] H' (us.drop a) := fun {H'} e => ev_slL (ev_var rfl) (eo_some (ev_var rfl)) eo_none (SqL.of e) (cutV_from _ _)
  -- the deeds before it
  refine op_bind (op_bind (op_bindL (s1 hp1) fun p1 H2 np1 e2 h1 => ?_))
  have D2 := D1.of_ex e2
  have o1 := D1.dr.out np1
  refine ⟨_, rfl, _, rfl, h, l, n, rfl, D2.dr, fun v d H3 rv dok dno D3 => ⟨by show 1 ≤ sizeLine; decide, fun p2 np2 => ?_⟩⟩
  have D03 := D2.trans D3
  have x4 := Ex.new (o := .lst [v]) np2
  have h2 := upd_same (H := H3) (a := p2) (o := .lst [v])
  have h1' := x4 _ _ (D3.bt _ _ o1 h1)
  have hp4 := x4 _ _ (D3.bt _ _ np (e2 _ _ hp1))
  have rv4 : RV K (upd H3 p2 (.lst [v])) v d := by
    obtain ⟨b, e, sb⟩ := rv
    exact ⟨b, e, ex_t x4 sb⟩
  have D04 := D03.of_ex x4
  generalize upd H3 p2 (.lst [v]) = H4 at x4 h2 h1' hp4 rv4 D04 ⊢
  have lt : (us.take a).length ≤ 30 := by rw [List.length_take]; omega
  have ld : (us.drop a).length ≤ 30 := by rw [List.length_drop]; omega
  refine ⟨p1, p2, _, _, rfl, rfl, h1', h2, sz_of (by simp only [List.length_singleton]; omega), fun p3 np3 => ?_⟩
  have x5 := Ex.new (o := .lst (us.take a ++ [v])) np3
  have h3 := upd_same (H := H4) (a := p3) (o := .lst (us.take a ++ [v]))
  have hp5 := x5 _ _ hp4
  generalize upd H4 p3 (.lst (us.take a ++ [v])) = H5 at x5 h3 hp5 ⊢
  refine s2 hp5 H5 (Ex.refl _) _ fun p4 H6 np4 e6 h4 => ⟨p3, p4, _, _, rfl, rfl, e6 _ _ h3, h4, sz_of (by simp only [List.length_append, List.length_singleton]; omega), fun p5 np5 => ?_⟩
  have x7 := Ex.new (o := .lst (us.take a ++ [v] ++ us.drop a)) np5
  have h5 := upd_same (H := H6) (a := p5) (o := .lst (us.take a ++ [v] ++ us.drop a))
  have f7 := (x5.trans e6).trans x7
  have D07 := D04.of_ex f7
  have rv7 : RV K (upd H6 p5 (.lst (us.take a ++ [v] ++ us.drop a))) v d := by
    obtain ⟨b, e, sb⟩ := rv4
    exact ⟨b, e, ex_t f7 sb⟩
  have o5 := (D04.of_ex (x5.trans e6)).dr.out np5
  generalize upd H6 p5 (.lst (us.take a ++ [v] ++ us.drop a)) = H7 at h5 D07 rv7 ⊢
  -- worse ones behind
  refine ⟨by show 0 ≤ sizeLine; decide, fun t0 nt0 => ⟨by show 1 ≤ sizeLine; decide, fun p6 np6 => ⟨_, rfl, h, l, 2, rfl, (D07.new nt0 |>.new np6).dr, by decide, by decide, fun z H9 z0 z1 D9 => ?_⟩⟩⟩
  obtain ⟨z, rfl⟩ : ∃ j : Nat, z = (j : Int) := ⟨z.toNat, by omega⟩
  have D08 := D07.new (o := .tup []) nt0
  have D09 := D08.new (o := .lst [.ref t0]) np6
  have o6 := D08.dr.out np6
  have h6 := D9.bt p6 _ o6 upd_same
  have t9 : RV K H9 (.ref t0) none := ⟨t0, rfl, D09.dr.t D9.bt (ex_t (Ex.new np6) (SqT.of upd_same))⟩
  have h5' := D9.bt p5 _ o5 (Ex.new np6 _ _ (Ex.new nt0 _ _ h5))
  have rv9 : RV K H9 v d := D09.dr.rv D9.bt (by
    obtain ⟨b, e, sb⟩ := rv7
    exact ⟨b, e, ex_t (Ex.new np6) (ex_t (Ex.new nt0) sb)⟩)
  have DD := D09.trans D9
  refine ⟨p6, (z : Int), _, rfl, rfl, h6, by omega, by omega, by rw [Int.toNat_natCast]; exact sz_of (by simp only [List.length_singleton]; omega), fun p7 np7 => ?_⟩
  rw [Int.toNat_natCast, repsW]
  have x10 := Ex.new (o := .lst (List.replicate z (.ref t0))) np7
  refine ⟨p5, p7, _, _, rfl, rfl, x10 _ _ h5', upd_same, sz_of (by simp only [List.length_append, List.length_singleton, List.length_replicate]; omega), fun q nq => ?_⟩
  have x11 := Ex.new (o := .lst (us.take a ++ [v] ++ us.drop a ++ List.replicate z (.ref t0))) nq
  have hq := upd_same (H := upd H9 p7 (.lst (List.replicate z (.ref t0)))) (a := q) (o := .lst (us.take a ++ [v] ++ us.drop a ++ List.replicate z (.ref t0)))
  refine ⟨_, rfl, by show 2 ≤ sizeLine; decide, fun t nt => ?_⟩
  have x12 := Ex.new (o := .tup [.ref q, .int a]) nt
  have f12 := (x10.trans x11).trans x12
  have DE := DD.of_ex f12
  refine k t q a _ ((ds.map Deed.raw).take a ++ [d] ++ (ds.map Deed.raw).drop a ++ List.replicate z none) _ ⟨upd_same, x12 _ _ hq, ?_, ?_, ?_, by omega, ?_⟩ ?_ DE
  · have r0 : RVs K _ us (ds.map Deed.raw) := (D.pv DE.bt pv').raw
    have rvE := (show RVs K H9 [v] [d] from .cons rv9 .nil).mono f12
    exact RVs.append ((RVs.reps t9 z).mono f12) (RVs.append (r0.drop a) (RVs.append rvE (r0.take a)))
  · simp only [List.length_append, List.length_take, List.length_drop, List.length_map, List.length_singleton, List.length_replicate]
    omega
  · intro x hx
    simp only [List.mem_append, List.mem_singleton] at hx
    rcases hx with ((hx | rfl) | hx) | hx
    · exact raws_ok x (List.mem_of_mem_take hx)
    · exact dok
    · exact raws_ok x (List.mem_of_mem_drop hx)
    · rw [List.eq_of_mem_replicate hx]
      exact True.intro
  · intro m9 hm9
    have e : ((ds.map Deed.raw).take a ++ [d] ++ (ds.map Deed.raw).drop a ++ List.replicate z none) = (ds.take a).map Deed.raw ++ d :: ((ds.map Deed.raw).drop a ++ List.replicate z none) := by simp
    rw [e, firstBad_odd (by rw [List.length_take]; omega) (fun x hx => hok x (List.mem_of_mem_take hx)) dno, List.length_take, Nat.min_eq_left ha]
  · exact (DD.of_ex x10).bt.free ((DD.of_ex x10).dr.out nq) nq

open LamX
/-! ### the makers of closures -/
abbrev lq (x : Str) : Str := x ++ ".<locals>." ++ "<lambda>"
/-- a def that makes lambdas: its code object, its table -/
structure HasC (K : PySem.W.Frag) (mg : Str → Option Value) (x : Str) (st : Stmt) (cc : Addr) : Prop where
  ex : ∃ f fd, Fun K x x st f fd ∧ mg x = some (.ref f) ∧ fd.code = .ref cc
structure TabH (T : List (Addr × Str)) (base : Heap) (mg : Str → Option Value) (x : Str) (cc : Addr) : Prop where
  ex : ∃ Pt, TabB base mg cc Pt ∧ (Pt, lq x) ∈ T ∧ ∀ p ∈ T, p.1 = Pt → p.2 = lq x
theorem dnC_of {CX : CXT} {x : Str} {ps : List Str} {k : Nat} {sp : Sp} {st : Stmt} {cc : Addr} (h : HasC K mg x st cc)
    (hb : ∀ f fd, Fun K x x st f fd → Binds K fd ps []) (hf : ∀ f fd, Fun K x x st f fd → fd.code = .ref cc → FnOk P w K mg base CX k f fd ps sp) : Dn P w K mg base CX x ps k sp := by
  obtain ⟨f, fd, F, hm, hc⟩ := h.ex
  exact ⟨f, fd, hf f fd F hc, hm, F.kp, hb f fd F⟩
theorem extN_new {H : Hp} {p : Addr} {o : HO} (n : H p = none) : ExtN H (upd H p o) := ExtN.of (Ex.new n)
/-- all that is handed a memory and two programs, refused -/
def sp_law_small (P : Program) (w : World) (K : PySem.W.Frag) (mg : Str → Option Value) (base : Heap) (Z : Cls) (kw : Nat) (T : List (Addr × Str)) : Sp := fun vs H Q _ => ∃ (m p q : Addr) (ls : List Int) (us xs : List V) (ds es : List Raw) (r : Rf), vs = [.ref m, .ref p, .ref q] ∧ Tabs T H ∧ SqT K H m (ls.map V.int) ∧ ls.length ≤ 1000 ∧
  SqL K H p us ∧ RVs K H us ds ∧ ds.length ≤ 900 ∧ (∀ d ∈ ds, d.ok) ∧ SqL K H q xs ∧ RVs K H xs es ∧ es.length ≤ 900 ∧ (∀ d ∈ es, d.ok) ∧ refRun "old" ls ds es = some r ∧ refOrdered "x" ls ds es = some r ∧ refExplained ls [] ds es = some r ∧ refOutcomes ls ds es = some r ∧
  ∀ (a : Addr) (ws : List V) (H' : Hp), ExtN H H' → Tabs T H' → H' a = some (.lst ws) → ws.length = 4 → (∀ v ∈ ws, Work P w K mg base Z kw H' v (some r)) → Q (.ref a) H'
theorem d_law_small {Z : Cls} {T : List (Addr × Str)} {cc : Addr} (HT : TabH T base mg "_law_small" cc) (D_run : Dn P w K mg base (L2.CX P w) "run" ["rule", "memory", "left", "right"] 6 (sp_runX K Z)) (D_ordered : Dn P w K mg base (L2.CX P w) "ordered" ["memory", "left", "right", "order"] 6 (sp_orderedX K Z)) (D_explained : Dn P w K mg base (L2.CX P w) "explained" ["memory", "left", "right", "seen", "others", "last"] 6 (sp_explainedX K Z)) (D_outcomes : Dn P w K mg base (L2.CX P w) "outcomes" ["memory", "left", "right"] 6 (sp_outcomesX K Z))
    (h : HasC K mg "_law_small" s_law_small cc) : Dn P w K mg base CX0 "_law_small" ["_law_memory_here", "_law_left", "_law_right"] 9 (sp_law_small P w K mg base Z 8 T) := by
  obtain ⟨Pt, TB, hm, hu⟩ := HT.ex
  refine dnC_of h (fun f fd F => F.binds fun _ _ _ _ _ _ us hl => match us, hl with | [_, _, _], _ => rfl) fun f fd F hcc => maker_ok F sc_law_small (by decide +kernel) (fun vs H Q E h => ?_) hcc (fun A outer s H vs Q E hr h => ?_)
  · obtain ⟨_, _, _, _, _, _, _, _, _, rfl, _⟩ := h
    rfl
  obtain ⟨m, p, q, ls, us, xs, ds, es, r, rfl, hT, hM, hz, hp, hP, hl, okl, hq, hX, hr9, okr, r1, r2, r3, r4, k⟩ := h
  refine ⟨_, (psk_cons (ps_set (i := 3) sc_law_small.nd rfl (Or.inl rfl) (pe_lst (pa_cons (pe_lam (T := T) TB rfl hm hu rfl rfl (NdefX.ndef_free (sc := defScope s_law_small) (fr := ["_law_memory_here", "_law_left", "_law_right"]) (by decide +kernel))) (pa_cons (pe_lamD (T := T) TB rfl hm hu ⟨_, rfl, pe_int⟩ rfl (NdefX.ndef_free (sc := defScope s_law_small) (fr := ["_law_memory_here", "_law_left", "_law_right"]) (by decide +kernel))) pa_nil))))
    (psk_cons (ps_set (i := 3) sc_law_small.nd rfl (Or.inl rfl) (pe_op op_cat (pv 3) (pe_lst (pa_cons (pe_lam (T := T) TB rfl hm hu rfl rfl (NdefX.ndef_free (sc := defScope s_law_small) (fr := ["_law_memory_here", "_law_left", "_law_right"]) (by decide +kernel))) (pa_cons (pe_lamD (T := T) TB rfl hm hu ⟨_, rfl, pe_int⟩ rfl (NdefX.ndef_free (sc := defScope s_law_small) (fr := ["_law_memory_here", "_law_left", "_law_right"]) (by decide +kernel))) pa_nil)))))
    (psk_ret (pv 3)))), ?_⟩
  refine ⟨hT, fun f1 c1 H1 e1 T1 n1 g1 i1 => ⟨T1, fun d2 f2 c2 H2 e2 T2 m2 n2 j2 g2 i2 => ⟨by show 2 ≤ sizeLine; decide, fun a na => ?_⟩⟩⟩
  refine gn ?_
  dsimp only
  have x3 : ExtN H2 _ := extN_new (o := .lst [.ref f1, .ref f2]) na
  have ha := upd_same (H := H2) (a := a) (o := .lst [.ref f1, .ref f2])
  have T3 := tabs_ex (Ex.new (o := .lst [.ref f1, .ref f2]) na) T2
  generalize upd H2 a (.lst [.ref f1, .ref f2]) = H3 at x3 ha T3 ⊢
  refine ⟨_, rfl, T3, fun f4 c4 H4 e4 T4 n4 g4 i4 => ⟨T4, fun d5 f5 c5 H5 e5 T5 m5 n5 j5 g5 i5 => ⟨by show 2 ≤ sizeLine; decide, fun b nb => ?_⟩⟩⟩
  have x6 : ExtN H5 _ := extN_new (o := .lst [.ref f4, .ref f5]) nb
  have hb := upd_same (H := H5) (a := b) (o := .lst [.ref f4, .ref f5])
  have T6 := tabs_ex (Ex.new (o := .lst [.ref f4, .ref f5]) nb) T5
  generalize upd H5 b (.lst [.ref f4, .ref f5]) = H6 at x6 hb T6 ⊢
  have x46 := (e4.trans e5).trans x6
  refine ⟨a, b, _, _, rfl, rfl, x46 _ _ ha nb_lst, hb, by show 4 ≤ sizeLine; decide, fun cL nc => ?_⟩
  have x7 := extN_new (o := .lst ([.ref f1, .ref f2] ++ [.ref f4, .ref f5])) nc
  have hc := upd_same (H := H6) (a := cL) (o := .lst ([.ref f1, .ref f2] ++ [.ref f4, .ref f5]))
  have T7 := tabs_ex (Ex.new (o := .lst ([.ref f1, .ref f2] ++ [.ref f4, .ref f5])) nc) T6
  generalize upd H6 cL (.lst ([.ref f1, .ref f2] ++ [.ref f4, .ref f5])) = H7 at x7 hc T7 ⊢
  refine gn ?_
  dsimp only
  refine ⟨_, rfl, fun H8 TR => ?_⟩
  have y5 := (x6.trans x7)
  have y4 := e5.trans y5
  have y2 := ((x3.trans e4).trans y4)
  have y1 := e2.trans y2
  have y0 := e1.trans y1
  have g1 := y1 _ _ g1 lamO_ne
  have i1 := y1 _ _ i1 codeO_ne
  have g2 := y2 _ _ g2 lamO_ne
  have i2 := y2 _ _ i2 codeO_ne
  have j2 := y2 _ _ j2 nb_tup
  have g4 := y4 _ _ g4 lamO_ne
  have i4 := y4 _ _ i4 codeO_ne
  have g5 := y5 _ _ g5 lamO_ne
  have i5 := y5 _ _ i5 codeO_ne
  have j5 := y5 _ _ j5 nb_tup
  refine k cL _ H8 (fun b o e n => (TR.up b o (y0 _ _ e n)).1) (T7.ext fun b o e => (TR.up b o e).1) (TR.up _ _ hc).1 rfl fun v hv => ?_
  simp only [List.cons_append, List.nil_append, List.mem_cons, List.not_mem_nil, or_false] at hv
  rcases hv with rfl | rfl | rfl | rfl
  · refine work_lam ["_law_memory_here", "_law_left", "_law_right"] ["_law_memory_here", "_law_left", "_law_right"] [0, 1, 2] [.ref m, .ref p, .ref q] (defScope s_law_small) TR g1 i1 (by decide +kernel) rfl (by decide +kernel) rfl rfl (fun _ _ _ _ _ => rfl) (fun F f A outer s H9 Q E eq es hr hx hE => ?_)
    obtain ⟨_, _, _, _, _, _, _⟩ := F
    cases eq
    cases es
    have z := y0.trans hx
    refine ⟨_, pe_dnS D_run hr (by omega) (fun σ => passAt (takes_of rfl rfl rfl rfl) σ) (pa_cons pe_str (pa_cons (pv 0) (pa_cons (pv 1) (pa_cons (pv 2) pa_nil)))), ?_⟩
    exact ⟨_, rfl, _, rfl, _, rfl, "old", m, p, q, ls, us, xs, ds, es, r, rfl, sqt_N z hM, hz, sql_N z hp, rvs_N z hP, hl, okl, sql_N z hq, rvs_N z hX, hr9, okr, r1, hE.some⟩
  · refine work_lamD ["_law_a", "_law_memory_here", "_law_left", "_law_right"] ["_law_memory_here", "_law_left", "_law_right"] [0, 1, 2] [.ref m, .ref p, .ref q] (defScope s_law_small) TR g2 i2 j2 (by decide +kernel) rfl (by decide +kernel) rfl rfl (fun _ _ _ _ _ _ => ⟨_, rfl, rfl⟩) (fun F f A outer s H9 Q E eq es hr hx hE => ?_)
    obtain ⟨_, _, _, _, _, _, _⟩ := F
    cases eq
    cases es
    have z := y0.trans hx
    refine ⟨_, pe_dnS D_ordered hr (by omega) (fun σ => passAt (takes_of rfl rfl rfl rfl) σ) (pa_cons (pv 1) (pa_cons (pv 2) (pa_cons (pv 3) (pa_cons pe_str pa_nil)))), ?_⟩
    exact ⟨_, rfl, _, rfl, _, rfl, "x", m, p, q, ls, us, xs, ds, es, r, rfl, sqt_N z hM, hz, sql_N z hp, rvs_N z hP, hl, okl, sql_N z hq, rvs_N z hX, hr9, okr, by decide, r2, hE.some⟩
  · refine work_lam ["_law_memory_here", "_law_left", "_law_right"] ["_law_memory_here", "_law_left", "_law_right"] [0, 1, 2] [.ref m, .ref p, .ref q] (defScope s_law_small) TR g4 i4 (by decide +kernel) rfl (by decide +kernel) rfl rfl (fun _ _ _ _ _ => rfl) (fun F f A outer s H9 Q E eq es hr hx hE => ?_)
    obtain ⟨_, _, _, _, _, _, _⟩ := F
    cases eq
    cases es
    have z := y0.trans hx
    refine ⟨_, pe_dnS D_explained hr (by omega) (fun σ => passAt (takes_of rfl rfl rfl rfl) σ) (pa_cons (pv 0) (pa_cons (pv 1) (pa_cons (pv 2) (pa_cons (pe_lst pa_nil) (pa_cons (pe_lst pa_nil) (pa_cons (pe_tup pa_nil) pa_nil)))))), ?_⟩
    refine ⟨_, rfl, _, rfl, _, rfl, by show 0 ≤ sizeLine; decide, fun o1 no1 => ⟨by show 0 ≤ sizeLine; decide, fun o2 no2 => ⟨by show 0 ≤ sizeLine; decide, fun o3 no3 => ?_⟩⟩⟩
    have xx := ((Ex.new (o := .lst []) no1).trans (Ex.new (o := .lst []) no2)).trans (Ex.new (o := .tup []) no3)
    have zz := z.trans (ExtN.of xx)
    exact ⟨m, p, q, o1, o2, o3, ls, [], us, xs, ds, es, r, rfl, sqt_N zz hM, hz, sql_N zz hp, rvs_N zz hP, hl, okl, sql_N zz hq, rvs_N zz hX, hr9, okr, SqT.of upd_same, by decide, r3, (hE.back xx).some⟩
  · refine work_lamD ["_law_a", "_law_memory_here", "_law_left", "_law_right"] ["_law_memory_here", "_law_left", "_law_right"] [0, 1, 2] [.ref m, .ref p, .ref q] (defScope s_law_small) TR g5 i5 j5 (by decide +kernel) rfl (by decide +kernel) rfl rfl (fun _ _ _ _ _ _ => ⟨_, rfl, rfl⟩) (fun F f A outer s H9 Q E eq es hr hx hE => ?_)
    obtain ⟨_, _, _, _, _, _, _⟩ := F
    cases eq
    cases es
    have z := y0.trans hx
    refine ⟨_, pe_dnS D_outcomes hr (by omega) (fun σ => passAt (takes_of rfl rfl rfl rfl) σ) (pa_cons (pv 1) (pa_cons (pv 2) (pa_cons (pv 3) pa_nil))), ?_⟩
    exact ⟨_, rfl, _, rfl, _, rfl, m, p, q, ls, us, xs, ds, es, r, rfl, sqt_N z hM, hz, sql_N z hp, rvs_N z hP, hl, okl, sql_N z hq, rvs_N z hX, hr9, okr, r4, hE.some⟩

open LamX
theorem Good.monoN {H H' : Hp} {n : Nat} {us xs : List V} {r : Option Rf} (e : ExtN H H') (g : Good K H n us xs r) : Good K H' n us xs r := fun z => by
  obtain ⟨ds, es, a1, a2, a3, a4, a5, a6⟩ := g z
  exact ⟨ds, es, pv_N e a1, a2, a3, pv_N e a4, a5, a6⟩
/-- all that is handed programs of four cells -/
def sp_law_large (P : Program) (w : World) (K : PySem.W.Frag) (mg : Str → Option Value) (base : Heap) (Z : Cls) (kw : Nat) (T : List (Addr × Str)) : Sp := fun vs H Q _ => ∃ (p q : Addr) (us xs : List V) (ds es : List Raw) (r : Option Rf) (r' : Rf), vs = [.ref p, .ref q] ∧ Tabs T H ∧
  SqL K H p us ∧ RVs K H us ds ∧ ds.length ≤ 900 ∧ (∀ d ∈ ds, d.ok) ∧ SqL K H q xs ∧ RVs K H xs es ∧ es.length ≤ 900 ∧ (∀ d ∈ es, d.ok) ∧ refPP 4 40 ds es = r ∧ refPP 4 20 ds es = some r' ∧ Good K H 4 us xs r ∧
  ∀ (a : Addr) (ws1 ws2 : List V) (H' : Hp), ExtN H H' → Tabs T H' → H' a = some (.lst (ws1 ++ ws2)) → ws1.length = 3 → ws2.length = 2 → (∀ v ∈ ws1, Work P w K mg base Z kw H' v r) → (∀ v ∈ ws2, Work P w K mg base Z kw H' v (some r')) → Q (.ref a) H'
theorem d_law_large {Z : Cls} {T : List (Addr × Str)} {cc : Addr} (HT : TabH T base mg "_law_large" cc) (D_clashes : Dn P w K mg base (L2.CX P w) "clashes" ["left", "right"] 6 (sp_clashesX K Z)) (D_written : Dn P w K mg base (L2.CX P w) "written" ["left", "right"] 6 (sp_writtenX K Z)) (D_parting : Dn P w K mg base (L2.CX P w) "parting" ["cells", "left", "right"] 7 (sp_partingX K Z)) (D_fitted : Dn P w K mg base (L2.CX P w) "fitted" ["left", "right"] 6 (sp_fittedX K Z)) (D_shows : Dn P w K mg base (L2.CX P w) "shows" ["left", "right", "reason"] 6 (sp_showsX K Z))
    (h : HasC K mg "_law_large" s_law_large cc) : Dn P w K mg base CX0 "_law_large" ["_law_left", "_law_right"] 9 (sp_law_large P w K mg base Z 8 T) := by
  obtain ⟨Pt, TB, hm, hu⟩ := HT.ex
  refine dnC_of h (fun f fd F => F.binds fun _ _ _ _ _ _ us hl => match us, hl with | [_, _], _ => rfl) fun f fd F hcc => maker_ok F sc_law_large (by decide +kernel) (fun vs H Q E h => ?_) hcc (fun A outer s H vs Q E hr h => ?_)
  · obtain ⟨_, _, _, _, _, _, _, _, rfl, _⟩ := h
    rfl
  obtain ⟨p, q, us, xs, ds, es, r, r', rfl, hT, hp, hP, hl, okl, hq, hX, hr9, okr, r1, r2, gd, k⟩ := h
  refine ⟨_, (psk_cons (ps_set (i := 2) sc_law_large.nd rfl (Or.inl rfl) (pe_lst (pa_cons (pe_lam (T := T) TB rfl hm hu rfl rfl (NdefX.ndef_free (sc := defScope s_law_large) (fr := ["_law_left", "_law_right"]) (by decide +kernel))) (pa_cons (pe_lamD (T := T) TB rfl hm hu ⟨_, rfl, pe_int⟩ rfl (NdefX.ndef_free (sc := defScope s_law_large) (fr := ["_law_left", "_law_right"]) (by decide +kernel))) (pa_cons (pe_lamD (T := T) TB rfl hm hu ⟨_, rfl, pe_int⟩ rfl (NdefX.ndef_free (sc := defScope s_law_large) (fr := ["_law_left", "_law_right"]) (by decide +kernel))) pa_nil)))))
    (psk_ret (pe_op op_cat (pv 2) (pe_lst (pa_cons (pe_lam (T := T) TB rfl hm hu rfl rfl (NdefX.ndef_free (sc := defScope s_law_large) (fr := ["_law_left", "_law_right"]) (by decide +kernel))) (pa_cons (pe_lamD (T := T) TB rfl hm hu ⟨_, rfl, pe_int⟩ rfl (NdefX.ndef_free (sc := defScope s_law_large) (fr := ["_law_left", "_law_right"]) (by decide +kernel))) pa_nil)))))), ?_⟩
  refine ⟨hT, fun f1 c1 H1 e1 T1 n1 g1 i1 => ⟨T1, fun d2 f2 c2 H2 e2 T2 m2 n2 j2 g2 i2 => ⟨T2, fun d3 f3 c3 H3 e3 T3 m3 n3 j3 g3 i3 => ⟨by show 3 ≤ sizeLine; decide, fun a na => ?_⟩⟩⟩⟩
  refine gn ?_
  dsimp only
  have x4 : ExtN H3 _ := extN_new (o := .lst [.ref f1, .ref f2, .ref f3]) na
  have ha := upd_same (H := H3) (a := a) (o := .lst [.ref f1, .ref f2, .ref f3])
  have T4 := tabs_ex (Ex.new (o := .lst [.ref f1, .ref f2, .ref f3]) na) T3
  generalize upd H3 a (.lst [.ref f1, .ref f2, .ref f3]) = H4 at x4 ha T4 ⊢
  refine ⟨_, rfl, T4, fun f5 c5 H5 e5 T5 n5 g5 i5 => ⟨T5, fun d6 f6 c6 H6 e6 T6 m6 n6 j6 g6 i6 => ⟨by show 2 ≤ sizeLine; decide, fun b nb => ?_⟩⟩⟩
  have x7 : ExtN H6 _ := extN_new (o := .lst [.ref f5, .ref f6]) nb
  have hb := upd_same (H := H6) (a := b) (o := .lst [.ref f5, .ref f6])
  have T7 := tabs_ex (Ex.new (o := .lst [.ref f5, .ref f6]) nb) T6
  generalize upd H6 b (.lst [.ref f5, .ref f6]) = H7 at x7 hb T7 ⊢
  have x57 := (e5.trans e6).trans x7
  refine ⟨a, b, _, _, rfl, rfl, x57 _ _ ha nb_lst, hb, by show 5 ≤ sizeLine; decide, fun cL nc => ?_⟩
  have x8 := extN_new (o := .lst ([.ref f1, .ref f2, .ref f3] ++ [.ref f5, .ref f6])) nc
  have hc := upd_same (H := H7) (a := cL) (o := .lst ([.ref f1, .ref f2, .ref f3] ++ [.ref f5, .ref f6]))
  have T8 := tabs_ex (Ex.new (o := .lst ([.ref f1, .ref f2, .ref f3] ++ [.ref f5, .ref f6])) nc) T7
  generalize upd H7 cL (.lst ([.ref f1, .ref f2, .ref f3] ++ [.ref f5, .ref f6])) = H8 at x8 hc T8 ⊢
  intro H9 TR
  have y6 := (x7.trans x8)
  have y5 := e6.trans y6
  have y3 := ((x4.trans e5).trans y5)
  have y2 := e3.trans y3
  have y1 := e2.trans y2
  have y0 := e1.trans y1
  have g1 := y1 _ _ g1 lamO_ne
  have i1 := y1 _ _ i1 codeO_ne
  have g2 := y2 _ _ g2 lamO_ne
  have i2 := y2 _ _ i2 codeO_ne
  have j2 := y2 _ _ j2 nb_tup
  have g3 := y3 _ _ g3 lamO_ne
  have i3 := y3 _ _ i3 codeO_ne
  have j3 := y3 _ _ j3 nb_tup
  have g5 := y5 _ _ g5 lamO_ne
  have i5 := y5 _ _ i5 codeO_ne
  have g6 := y6 _ _ g6 lamO_ne
  have i6 := y6 _ _ i6 codeO_ne
  have j6 := y6 _ _ j6 nb_tup
  refine k cL _ _ H9 (fun b o e n => (TR.up b o (y0 _ _ e n)).1) (T8.ext fun b o e => (TR.up b o e).1) (TR.up _ _ hc).1 rfl rfl (fun v hv => ?_) fun v hv => ?_
  all_goals simp only [List.mem_cons, List.not_mem_nil, or_false] at hv
  · rcases hv with rfl | rfl | rfl
    · refine work_lam ["_law_left", "_law_right"] ["_law_left", "_law_right"] [0, 1] [.ref p, .ref q] (defScope s_law_large) TR g1 i1 (by decide +kernel) rfl (by decide +kernel) rfl rfl (fun _ _ _ _ _ => rfl) (fun F f A outer s H9 Q E eq es hr hx hE => ?_)
      obtain ⟨_, _, _, _, _, _, _⟩ := F
      cases eq
      cases es
      have z := y0.trans hx
      refine ⟨_, pe_dnS D_clashes hr (by omega) (fun σ => passAt (takes_of rfl rfl rfl rfl) σ) (pa_cons (pv 0) (pa_cons (pv 1) pa_nil)), ?_⟩
      exact ⟨_, rfl, _, rfl, p, q, us, xs, ds, es, rfl, sql_N z hp, rvs_N z hP, hl, okl, sql_N z hq, rvs_N z hX, hr9, okr, by rw [r1]; exact gd.monoN z, by rw [r1]; exact hE⟩
    · refine work_lamD ["_law_a", "_law_left", "_law_right"] ["_law_left", "_law_right"] [0, 1] [.ref p, .ref q] (defScope s_law_large) TR g2 i2 j2 (by decide +kernel) rfl (by decide +kernel) rfl rfl (fun _ _ _ _ _ _ => ⟨_, rfl, rfl⟩) (fun F f A outer s H9 Q E eq es hr hx hE => ?_)
      obtain ⟨_, _, _, _, _, _, _⟩ := F
      cases eq
      cases es
      have z := y0.trans hx
      refine ⟨_, pe_dnS D_written hr (by omega) (fun σ => passAt (takes_of rfl rfl rfl rfl) σ) (pa_cons (pv 1) (pa_cons (pv 2) pa_nil)), ?_⟩
      exact ⟨_, rfl, _, rfl, p, q, us, xs, ds, es, rfl, sql_N z hp, rvs_N z hP, hl, okl, sql_N z hq, rvs_N z hX, hr9, okr, by rw [r1]; exact gd.monoN z, by rw [r1]; exact hE⟩
    · refine work_lamD ["_law_b", "_law_left", "_law_right"] ["_law_left", "_law_right"] [0, 1] [.ref p, .ref q] (defScope s_law_large) TR g3 i3 j3 (by decide +kernel) rfl (by decide +kernel) rfl rfl (fun _ _ _ _ _ _ => ⟨_, rfl, rfl⟩) (fun F f A outer s H9 Q E eq es hr hx hE => ?_)
      obtain ⟨_, _, _, _, _, _, _⟩ := F
      cases eq
      cases es
      have z := y0.trans hx
      refine ⟨_, pe_dnS D_parting hr (by omega) (fun σ => passAt (takes_of rfl rfl rfl rfl) σ) (pa_cons pe_int (pa_cons (pv 1) (pa_cons (pv 2) pa_nil))), ?_⟩
      exact ⟨_, rfl, _, rfl, 4, p, q, us, xs, ds, es, rfl, sql_N z hp, rvs_N z hP, hl, okl, sql_N z hq, rvs_N z hX, hr9, okr, by rw [show refParting 4 ds es = r from r1]; exact gd.monoN z, by rw [show refParting 4 ds es = r from r1]; exact hE⟩
  · rcases hv with rfl | rfl
    · refine work_lam ["_law_left", "_law_right"] ["_law_left", "_law_right"] [0, 1] [.ref p, .ref q] (defScope s_law_large) TR g5 i5 (by decide +kernel) rfl (by decide +kernel) rfl rfl (fun _ _ _ _ _ => rfl) (fun F f A outer s H9 Q E eq es hr hx hE => ?_)
      obtain ⟨_, _, _, _, _, _, _⟩ := F
      cases eq
      cases es
      have z := y0.trans hx
      refine ⟨_, pe_dnS D_fitted hr (by omega) (fun σ => passAt (takes_of rfl rfl rfl rfl) σ) (pa_cons (pv 0) (pa_cons (pv 1) pa_nil)), ?_⟩
      exact ⟨_, rfl, _, rfl, p, q, us, xs, ds, es, r', rfl, sql_N z hp, rvs_N z hP, hl, okl, sql_N z hq, rvs_N z hX, hr9, okr, r2, hE.some⟩
    · refine work_lamD ["_law_a", "_law_left", "_law_right"] ["_law_left", "_law_right"] [0, 1] [.ref p, .ref q] (defScope s_law_large) TR g6 i6 j6 (by decide +kernel) rfl (by decide +kernel) rfl rfl (fun _ _ _ _ _ _ => ⟨_, rfl, rfl⟩) (fun F f A outer s H9 Q E eq es hr hx hE => ?_)
      obtain ⟨_, _, _, _, _, _, _⟩ := F
      cases eq
      cases es
      have z := y0.trans hx
      refine ⟨_, pe_dnS D_shows hr (by omega) (fun σ => passAt (takes_of rfl rfl rfl rfl) σ) (pa_cons (pv 1) (pa_cons (pv 2) (pa_cons (pe_lst (pa_cons (pe_tup (pa_cons pe_int (pa_cons pe_int pa_nil))) pa_nil)) pa_nil))), ?_⟩
      refine ⟨_, rfl, _, rfl, by show 2 ≤ sizeLine; decide, fun o1 no1 => ⟨by show 1 ≤ sizeLine; decide, fun o2 no2 => ?_⟩⟩
      have xx := (Ex.new (o := .tup [.int 0, .int 9]) no1).trans (Ex.new (o := .lst [.ref o1]) no2)
      have zz := z.trans (ExtN.of xx)
      exact ⟨p, q, o2, us, xs, ds, es, r', rfl, sql_N zz hp, rvs_N zz hP, hl, okl, sql_N zz hq, rvs_N zz hX, hr9, okr, r2, (hE.back xx).some⟩

theorem badOrd_len {s : Str} {a b : Nat} (h : s.length ≠ a + b) : badOrd s a b = true := by
  unfold badOrd
  rw [decide_eq_true h]
  rfl
theorem badOrd_cnt {s : Str} {a b : Nat} (h : Txt.count s "l" ≠ a) : badOrd s a b = true := by
  unfold badOrd
  rw [decide_eq_true h, Bool.true_or, Bool.or_true]
def big (c : Nat) : Nat := if c = 108 then 76 else c
theorem repl_big : ∀ l : List Nat, StrLaws.replL [108] [76] l = l.map big
  | [] => StrLaws.replL_nil
  | c :: r => by
    by_cases h : c = 108
    · subst h
      rw [StrLaws.replL_hit (by decide) rfl]
      show [76] ++ StrLaws.replL [108] [76] r = _
      rw [repl_big r]
      rfl
    · rw [StrLaws.replL_miss (y := [108]) (fun z => h (List.cons.inj (show c :: [] = [108] from z)).1), repl_big r, List.map_cons]
      unfold big
      rw [if_neg h]
theorem replace_big (L : List Nat) : Txt.replace (tS L) "l" "L" = tS (L.map big) := by
  have e1 : ("l" : Str).cps.toList = [108] := by decide +kernel
  have e2 : ("L" : Str).cps.toList = [76] := by decide +kernel
  have h := StrLaws.replace_list (x := tS L) (y := "l") (z := "L") (by decide +kernel)
  rw [e1, e2, tS_list, repl_big] at h
  rw [← h, tS_of]
theorem cnt_big : ∀ l : List Nat, PyProof.Rows.cnt 108 (l.map big) = 0
  | [] => rfl
  | c :: r => by
    rw [List.map_cons, PyProof.Rows.cnt_cons, cnt_big r]
    have : big c ≠ 108 := by
      unfold big
      split <;> omega
    simp [this]
def ordL (a b : Nat) : List Nat := List.replicate a 108 ++ List.replicate b 114
theorem ordL_len (a b : Nat) : (ordL a b).length = a + b := by unfold ordL; simp
def cand (L : List Nat) : List (List Nat) := [L ++ [108], L.drop 1, L ++ [120], L.map big, L ++ [108, 114]]
theorem cand_bad {a b : Nat} : ∀ c ∈ cand (ordL a b), c ≠ ordL a b → badOrd (tS c) a b = true ∧ c.length ≤ a + b + 2 := by
  intro c hc hn
  have hl := ordL_len a b
  unfold cand at hc
  simp only [List.mem_cons, List.not_mem_nil, or_false] at hc
  rcases hc with rfl | rfl | rfl | rfl | rfl
  · have e : (ordL a b ++ [108]).length = a + b + 1 := by rw [List.length_append, hl]; rfl
    exact ⟨badOrd_len (by rw [tS_len, e]; omega), by omega⟩
  · have e : ((ordL a b).drop 1).length = a + b - 1 := by rw [List.length_drop, hl]
    refine ⟨badOrd_len (by
      rw [tS_len, e]
      intro z
      have z0 : a + b = 0 := by omega
      have z1 : ordL a b = [] := List.length_eq_zero_iff.mp (by omega)
      rw [z1] at hn
      exact hn rfl), by omega⟩
  · have e : (ordL a b ++ [120]).length = a + b + 1 := by rw [List.length_append, hl]; rfl
    exact ⟨badOrd_len (by rw [tS_len, e]; omega), by omega⟩
  · refine ⟨badOrd_cnt fun z => ?_, by rw [List.length_map, hl]; omega⟩
    have h := PyProof.Rows.count_cnt (tS ((ordL a b).map big)) 108
    rw [tS_list, cnt_big] at h
    have e1 : ("l" : Str) = ⟨#[108]⟩ := by decide +kernel
    rw [e1, h] at z
    have z : a = 0 := by omega
    subst z
    refine hn ?_
    unfold ordL
    have e2 : big 114 = 114 := by decide
    rw [List.replicate_zero, List.nil_append, List.map_replicate, e2]
  · have e : (ordL a b ++ [108, 114]).length = a + b + 2 := by rw [List.length_append, hl]; rfl
    exact ⟨badOrd_len (by rw [tS_len, e]; omega), by omega⟩
/-- whether odd orders are refused -/
def sp_law_orders_right (K : PySem.W.Frag) (T : List (Addr × Str)) : Sp := fun vs H Q _ => ∃ (h l m p q : Addr) (ls : List Int) (us xs : List V) (ds es : List Raw), vs = [.ref h, .ref m, .ref p, .ref q] ∧ LamX.Tabs T H ∧ Draw H h l ∧ ¬ p ∈ [h, l] ∧ ¬ q ∈ [h, l] ∧ SqT K H m (ls.map V.int) ∧ ls.length ≤ 1000 ∧
  H p = some (.lst us) ∧ RVs K H us ds ∧ ds.length ≤ 40 ∧ (∀ d ∈ ds, d.ok) ∧ H q = some (.lst xs) ∧ RVs K H xs es ∧ es.length ≤ 40 ∧ (∀ d ∈ es, d.ok) ∧ refM ls = none ∧ refPP ls.length 40 ds es = none ∧ ∀ H' : Hp, Draw H' h l → LamX.Tabs T H' → Q (.bl true) H'
theorem d_law_orders_right {Z : Cls} {TT : List (Addr × Str)} {cc : Addr} (HT : TabH TT base mg "_law_orders_right" cc) (T : Nb mg) (D_law_next : Dn P w K mg base CX0 "_law_next" ["_law_h", "_law_many"] 1 sp_law_next) (D_law_kind : Dn P w K mg base CX0 "_law_kind" ["_law_work"] 9 (sp_law_kind P w K mg base Z 8)) (D_ordered : Dn P w K mg base (L2.CX P w) "ordered" ["memory", "left", "right", "order"] 6 (sp_orderedX K Z))
    (h : HasC K mg "_law_orders_right" s_law_orders_right cc) : Dn P w K mg base CX0 "_law_orders_right" ["_law_h", "_law_memory_here", "_law_left", "_law_right"] 10 (sp_law_orders_right K TT) := by
  obtain ⟨Pt, TB, hm, hu⟩ := HT.ex
  refine dnC_of h (fun f fd F => F.binds fun _ _ _ _ _ _ us hl => match us, hl with | [_, _, _, _], _ => rfl) fun f fd F hcc => okC F hcc sc_law_orders_right (fun vs H Q E h => ?_) (fun A outer s H vs Q E hr h => ?_)
  · obtain ⟨_, _, _, _, _, _, _, _, _, _, rfl, _⟩ := h
    rfl
  obtain ⟨h, l, m, p, q, ls, us, xs, ds, es, rfl, hT, D, np, nq, hM, hz, hp, hP, hl, okl, hq, hX, hr9, okr, rm, rp, k⟩ := h
  refine ⟨_, (pss_set1 (i := 4) sc_law_orders_right.nd rfl (Or.inr rfl) (pe1_op op_add_str (pe1_op Zen.op_mulS pe1_str (pe_callB (call_len_seqK K) (by rfl) T.n_len PySem.boot_len (pa_cons (pv 2) pa_nil))) (pe_op Zen.op_mulS pe_str (pe_callB (call_len_seqK K) (by rfl) T.n_len PySem.boot_len (pa_cons (pv 3) pa_nil))))
  (psst_cons (pst_set (i := 5) sc_law_orders_right.nd rfl (Or.inl rfl) (pet_lst (pat_cons (CwR.PET.of (pe_op op_add_str (pv 4) pe_str)) (pat_cons (CwR.PET.of (pe_slice sl_str (pv 4) (po_some pe_int) po_none)) (pat_cons (CwR.PET.of (pe_op op_add_str (pv 4) pe_str)) (pat_cons (CwR.pet_replC (pv 4)) (pat_cons (CwR.PET.of (pe_op op_add_str (pv 4) pe_str)) pat_nil)))))))
  (PSsT.of (pss_cons (ps_setLc (i := 5) (own := [("_law_one", 7)]) rfl sc_law_orders_right.nd rfl rfl (sw_true rfl rfl rfl (by decide +kernel)) (pi_list (pv 5)) (blkOk_by (own := [("_law_one", 7)]) (N := ["_law_h", "_law_memory_here", "_law_left", "_law_right", "_law_order", "_law_some", "_law_odd_here", "_law_one"]) (sc := defScope s_law_orders_right) (by decide +kernel)) (fun _ _ _ _ _ => (pg_name (i := 7) sc_law_orders_right.nd rfl (Or.inl rfl))) (fun _ _ _ _ _ => pts_one (pt_cmpR op_ne (pv 7) (pv 4) (nomark _))) (fun _ _ _ _ _ => (pv 7)))
    (pss_cons (ps_set (i := 6) sc_law_orders_right.nd rfl (Or.inr rfl) (pe_ix (ix_listK K) (pv 5) (pe_dn D_law_next hr (by omega) pass0 (pa_cons (pv 0) (pa_cons (pe_callB (call_len_seqK K) (by rfl) T.n_len PySem.boot_len (pa_cons (pv 5) pa_nil)) pa_nil))) (fun _ _ => rfl)))
    (pss_one (ps_ret (pe_cmpR (op_eqDK K rfl hr.units) (pe_kindL (T := TT) (js := [1, 2, 3, 6]) (N := ["_law_memory_here", "_law_left", "_law_right", "_law_odd_here"]) (fr := ["_law_memory_here", "_law_left", "_law_right", "_law_odd_here"]) D_law_kind hr (by omega) (by omega) TB rfl hm hu rfl rfl (fun F h1 h2 doc pm ctv => by obtain ⟨_, _, _, _, _, _, _⟩ := F; cases h1; cases h2; rfl) (NdefX.nscope_by (by decide +kernel)) (fun y hy e => ⟨cell_by (sc := defScope s_law_orders_right) (by decide +kernel) y hy e, rfl⟩) rfl rfl) pe_str (nomark _))))))))), ?_⟩
  have lu := hP.length
  have lx := hX.length
  have hL := ordL_len us.length xs.length
  have e1 : ("l" : Str) = tS [108] := by decide +kernel
  have e2 : ("x" : Str) = tS [120] := by decide +kernel
  have e3 : ("lr" : Str) = tS [108, 114] := by decide +kernel
  refine q_asg (v := .str (tS (ordL us.length xs.length))) ?_ fun H1 f1 => ?_
  · refine ev_catS (a := List.replicate us.length 108) (b := List.replicate xs.length 114) ?_ ?_ (by rw [List.length_replicate, List.length_replicate]; omega)
    · exact ev_is (ev_op (x := .str (oS [false])) (y := .int (us.length : Int)) (by rw [← oS_l]; exact ev_c) (ev_cb (ea_cons (ev_var (i := 2) (v := .ref p) rfl) ea_nil) (rc_lenL (SqL.of hp))) (rv_mulS (b := false) (n := us.length) (by omega))) (by rw [← oS_rep]; rfl)
    · exact ev_is (ev_op (x := .str (oS [true])) (y := .int (xs.length : Int)) (by rw [← oS_r]; exact ev_c) (ev_cb (ea_cons (ev_var (i := 3) (v := .ref q) rfl) ea_nil) (rc_lenL (SqL.of hq))) (rv_mulS (b := true) (n := xs.length) (by omega))) (by rw [← oS_rep]; rfl)
  generalize hO : ordL us.length xs.length = L at hL
  have oV : ∀ {H' : Hp} {x : Option V}, Ev (tVar 4) [some (.ref h), some (.ref m), some (.ref p), some (.ref q), some (.str (tS L)), x, none, none] H' (.str (tS L)) := fun {H' x} => ev_var rfl
  refine q_asgL (xs := ((cand L).map tS).map V.str) (el_lst (ea_cons (ev_catS oV (by rw [e1]; exact ev_c) (by simp only [List.length_singleton]; omega)) (ea_cons (ev_slFrom (a := 1) oV (eo_some ev_c) eo_none (by omega)) (ea_cons (ev_catS oV (by rw [e2]; exact ev_c) (by simp only [List.length_singleton]; omega)) (ea_cons (fun H2 f2 Q z => oV H2 f2 _ fun H3 f3 => ⟨_, rfl, by
      rw [tS_len, hL]
      have : ("L" : Str).length = 1 := by decide +kernel
      rw [this]
      omega, by rw [replace_big]; exact z H3 f3⟩) (ea_cons (ev_catS oV (by rw [e3]; exact ev_c) (by simp only [List.length_cons, List.length_nil]; omega)) ea_nil))))) (by simp [cand])) fun sl H2 nsl f2 hsl => ?_
  have cl : (cand L).length = 5 := rfl
  have at5 : ∀ {i : Nat} {x : V}, (((cand L).map tS).map V.str)[i]? = some x → ∃ c, (cand L)[i]? = some c ∧ x = .str (tS c) := fun {i x} hi => by
    rw [List.getElem?_map, List.getElem?_map] at hi
    cases q : (cand L)[i]? with
    | none => rw [q] at hi; cases hi
    | some c => rw [q] at hi; exact ⟨c, rfl, (Option.some.inj hi).symm⟩
  refine q_asgL (xs := given (((cand L).map tS).map V.str).length (fun i => decide ((cand L).getD i [] ≠ L)) fun i => V.str (tS ((cand L).getD i []))) (el_lcL (K := K) (a := sl) (j := 7) (vs := [7]) _ _ (ev_var rfl) (SqL.of hsl) (by simp [cand]) (fun x => rfl) (fun i x H3 f3 hi => ?_) fun i x H3 f3 hi _ => ?_) fun sm H3 nsm f3 hsm => ?_
  · obtain ⟨c, hc, rfl⟩ := at5 hi
    have eg : (cand L).getD i [] = c := by rw [List.getD_eq_getElem?_getD, hc]; rfl
    exact et_is (et_test (ev_op (x := .str (tS c)) (y := .str (tS L)) (ev_var rfl) (ev_var rfl) (rv_ne rfl))) (by rw [tS_is, eg, ← decide_not])
  · obtain ⟨c, hc, rfl⟩ := at5 hi
    have eg : (cand L).getD i [] = c := by rw [List.getD_eq_getElem?_getD, hc]; rfl
    rw [eg]
    exact ev_var rfl
  have gl := given_len (((cand L).map tS).map V.str).length (fun i => decide ((cand L).getD i [] ≠ L)) fun i => V.str (tS ((cand L).getD i []))
  have g0 : V.str (tS (L ++ [108])) ∈ given (((cand L).map tS).map V.str).length (fun i => decide ((cand L).getD i [] ≠ L)) fun i => V.str (tS ((cand L).getD i [])) := by
    unfold given
    refine List.mem_map.mpr ⟨0, List.mem_filter.mpr ⟨List.mem_range.mpr (by simp [cand]), decide_eq_true ?_⟩, rfl⟩
    show L ++ [108] ≠ L
    intro z
    have := congrArg List.length z
    rw [List.length_append] at this
    simp at this
  have ga : ∀ y ∈ given (((cand L).map tS).map V.str).length (fun i => decide ((cand L).getD i [] ≠ L)) (fun i => V.str (tS ((cand L).getD i []))), ∃ c, y = V.str (tS c) ∧ c ∈ cand L ∧ c ≠ L := by
    intro y hy
    unfold given at hy
    obtain ⟨i, hi, rfl⟩ := List.mem_map.mp hy
    obtain ⟨hr', hf⟩ := List.mem_filter.mp hi
    have hi5 : i < (cand L).length := by
      have := List.mem_range.mp hr'
      rwa [List.length_map, List.length_map] at this
    have hc : (cand L)[i]? = some (cand L)[i] := List.getElem?_eq_getElem hi5
    have eg : (cand L).getD i [] = (cand L)[i] := by rw [List.getD_eq_getElem?_getD, hc]; rfl
    rw [eg] at hf
    exact ⟨_, by rw [eg], List.getElem_mem hi5, of_decide_eq_true hf⟩
  generalize given (((cand L).map tS).map V.str).length (fun i => decide ((cand L).getD i [] ≠ L)) (fun i => V.str (tS ((cand L).getD i []))) = ws at hsm gl g0 ga ⊢
  have gl : ws.length ≤ 5 := by
    have : (((cand L).map tS).map V.str).length = 5 := by simp [cand]
    omega
  have gp : 0 < ws.length := List.length_pos_of_mem g0
  have f13 := (f1.trans f2).trans f3
  have D3 := (Drew.refl D).of_ex f13
  have nsm' := (D.mono (f1.trans f2)).out nsm
  refine q_set_bind ⟨_, rfl, _, rfl, (ea_cons (ev_cb (ea_cons (ev_var (v := .ref sm) rfl) ea_nil) (rc_lenL (SqL.of hsm))) ea_nil) _ (Ex.refl _) _ fun H4 f4 => ?_⟩
  refine ⟨h, l, (ws.length : Int), rfl, (D3.of_ex f4).dr, by omega, by omega, fun z H5 z0 z1 D5 => ?_⟩
  obtain ⟨z, rfl⟩ : ∃ j : Nat, z = (j : Int) := ⟨z.toNat, by omega⟩
  have hzl : z < ws.length := by omega
  have hwz : ws[z]? = some ws[z] := List.getElem?_eq_getElem hzl
  obtain ⟨c, ec, hc1, hc2⟩ := ga _ (List.getElem_mem hzl)
  rw [ec] at hwz
  have hb5 := D5.bt sm _ nsm' (f4 _ _ hsm)
  refine ⟨sm, ws, (z : Int), _, rfl, rfl, SqL.of hb5, atI_nat hwz, ?_⟩
  dsimp only
  have D05 := (D3.of_ex f4).trans D5
  rw [← hO] at hc1 hc2
  obtain ⟨bad, cl2⟩ := cand_bad c hc1 hc2
  have T5 := D.tabs D05.bt hT
  have hM5 := D.t D05.bt hM
  have hp5 := D05.bt p _ np hp
  have hq5 := D05.bt q _ nq hq
  have hP5 := D.rvs D05.bt hP
  have hX5 := D.rvs D05.bt hX
  refine ⟨T5, [.ref m, .ref p, .ref q, .str (tS c)], some .order, rfl, ?_, (fun _ _ e => nomatch e), fun u H6 e6 T6 du => ?_⟩
  · refine fun F f A outer s H9 Q E eq es hr hx hE => ?_
    obtain ⟨_, _, _, _, _, _, _⟩ := F
    cases eq
    cases es
    refine ⟨_, pe_dnS D_ordered hr (by omega) (fun σ => passAt (takes_of rfl rfl rfl rfl) σ) (pa_cons (pv 0) (pa_cons (pv 1) (pa_cons (pv 2) (pa_cons (pv 3) pa_nil)))), ?_⟩
    refine ⟨_, rfl, _, rfl, _, rfl, _, rfl, tS c, m, p, q, ls, us, xs, ds, _, .order, rfl, sqt_N hx hM5, hz, sql_N hx (SqL.of hp5), rvs_N hx hP5, by omega, okl, sql_N hx (SqL.of hq5), rvs_N hx hX5, by omega, okr, by rw [tS_len]; omega, ?_, hE.some⟩
    unfold refOrdered
    rw [rm, rp, ← lu, ← lx, bad]
    rfl
  · cases du
    refine ⟨.str "BadOrder", .str "BadOrder", .str _, .str _, (sh_str (by decide +kernel)).shaped (by decide : 1 ≤ 64), (sh_str (by decide +kernel)).shaped (by decide : 1 ≤ 64), ?_⟩
    have ee : PyData.eqv (.str "BadOrder") (.str "BadOrder") = true := by decide +kernel
    rw [ee]
    exact k H6 (draw_N e6 D05.dr) T6

open LamX
/-! ### lists of closures that end by one refusal -/
section
variable {σ : L2.St} {H : Hp} {te ta tb tm t1 t2 tw : TE} {Z : Cls} {TT : List (Addr × Str)} {r : Option Rf} {n m : Nat} {ds es : List Raw} {ls : List Int} {r' : Rf}
/-- n closures that end so -/
def LW (P : Program) (w : World) (K : PySem.W.Frag) (mg : Str → Option Value) (base : Heap) (Z : Cls) (r : Option Rf) (n : Nat) (v : V) (H : Hp) : Prop := ∃ a ws, v = .ref a ∧ H a = some (.lst ws) ∧ ws.length = n ∧ ∀ x ∈ ws, Work P w K mg base Z 8 H x r
theorem LW.mono {H' : Hp} {v : V} (e : ExtN H H') (h : LW P w K mg base Z r n v H) : LW P w K mg base Z r n v H' := by
  obtain ⟨a, ws, e1, h1, h2, h3⟩ := h
  exact ⟨a, ws, e1, e _ _ h1 nb_lst, h2, fun x hx => (h3 x hx).monoN e⟩
def EvM (TT : List (Addr × Str)) (te : TE) (σ : L2.St) (H : Hp) (R : V → Hp → Prop) : Prop := ∀ H1, ExtN H H1 → Tabs TT H1 → ∀ Q : VK, (∀ v H2, ExtN H1 H2 → Tabs TT H2 → R v H2 → Q v H2) → te σ H1 Q
/-- a list of deeds, good or odd -/
def EvProg (K : PySem.W.Frag) (te : TE) (σ : L2.St) (H : Hp) (ds : List Raw) : Prop := ∀ H1, ExtN H H1 → ∀ Q : VK, (∀ p us H2, Ex H1 H2 → SqL K H2 p us → RVs K H2 us ds → Q (.ref p) H2) → te σ H1 Q
def EvMem (K : PySem.W.Frag) (te : TE) (σ : L2.St) (H : Hp) (ls : List Int) : Prop := ∀ H1, ExtN H H1 → ∀ Q : VK, (∀ p H2, Ex H1 H2 → SqT K H2 p (ls.map V.int) → Q (.ref p) H2) → te σ H1 Q
theorem ep_var {i : Nat} {p : Addr} {us : List V} (h : σ[i]? = some (some (.ref p))) (hp : SqL K H p us) (hr : RVs K H us ds) : EvProg K (tVar i) σ H ds := fun H1 e Q q => ⟨_, h, q p us H1 (Ex.refl H1) (sql_N e hp) (rvs_N e hr)⟩
theorem em_var {i : Nat} {p : Addr} (h : σ[i]? = some (some (.ref p))) (hp : SqT K H p (ls.map V.int)) : EvMem K (tVar i) σ H ls := fun H1 e Q q => ⟨_, h, q p H1 (Ex.refl H1) (sqt_N e hp)⟩
theorem ep_nil : EvProg K (tLst tNil) σ H [] := fun H1 e Q q => ⟨by show 0 ≤ sizeLine; decide, fun p hp => q p [] _ (Ex.new hp) (SqL.of upd_same) .nil⟩
theorem ep_unit : EvProg K (tLst (tCons (tTup tNil) tNil)) σ H [none] := fun H1 e Q q => ⟨by show 0 ≤ sizeLine; decide, fun t ht => ⟨by show 1 ≤ sizeLine; decide, fun p hp => q p [.ref t] _ ((Ex.new ht).trans (Ex.new hp)) (SqL.of upd_same) (.cons ⟨t, rfl, ex_t (Ex.new hp) (SqT.of upd_same)⟩ .nil)⟩⟩
theorem PV.of_raw : ∀ {us : List V} {ds : List Deed}, RVs K H us (ds.map Deed.raw) → PV K H us ds
  | [], [], _ => .nil
  | v :: vs, d :: ds, h => by
    cases h with
    | cons a t =>
      obtain ⟨b, e, s⟩ := a
      exact .cons ⟨b, e, by rw [← Deed.raw_vals]; exact s⟩ (PV.of_raw t)
  | [], d :: ds, h => by cases h
  | v :: vs, [], h => by cases h
/-- what is asked of two programs of four cells -/
structure Lg (ds es : List Raw) (r : Option Rf) (r' : Rf) : Prop where
  l1 : ds.length ≤ 900
  l2 : es.length ≤ 900
  o1 : ∀ d ∈ ds, d.ok
  o2 : ∀ d ∈ es, d.ok
  e1 : refPP 4 40 ds es = r
  e2 : refPP 4 20 ds es = some r'
  gd : r = none → ∃ ds' es' : List Deed, ds = ds'.map Deed.raw ∧ es = es'.map Deed.raw ∧ ds'.length ≤ 40 ∧ es'.length ≤ 40 ∧ (∀ d ∈ ds', d.ok 4) ∧ ∀ d ∈ es', d.ok 4
theorem Lg.good {us xs : List V} (g : Lg ds es r r') (h1 : RVs K H us ds) (h2 : RVs K H xs es) : Good K H 4 us xs r := fun z => by
  obtain ⟨ds', es', rfl, rfl, a1, a2, a3, a4⟩ := g.gd z
  exact ⟨ds', es', PV.of_raw h1, a1, a3, PV.of_raw h2, a2, a4⟩
theorem em_large (h1 : EvProg K t1 σ H ds) (h2 : EvProg K t2 σ H es) (g : Lg ds es r r') : ∀ H1, ExtN H H1 → Tabs TT H1 → ∀ Q : VK, (∀ a ws1 ws2 H2, ExtN H1 H2 → Tabs TT H2 → H2 a = some (.lst (ws1 ++ ws2)) → ws1.length = 3 → ws2.length = 2 → (∀ v ∈ ws1, Work P w K mg base Z 8 H2 v r) → (∀ v ∈ ws2, Work P w K mg base Z 8 H2 v (some r')) → Q (.ref a) H2) →
    tCall (sp_law_large P w K mg base Z 8 TT) [] E0 (tCons t1 (tCons t2 tNil)) σ H1 Q := fun H1 e T1 Q q =>
  h1 H1 e _ fun p us H2 e2 hp rp => h2 H2 (e.trans (ExtN.of e2)) _ fun p' xs H3 e3 hq rq => ⟨p, p', us, xs, ds, es, r, r', rfl, tabs_ex e3 (tabs_ex e2 T1), ex_l e3 hp, rp.mono e3, g.l1, g.o1, hq, rq, g.l2, g.o2, g.e1, g.e2, g.good (rp.mono e3) rq,
    fun a ws1 ws2 H4 e4 T4 ha l1 l2 w1 w2 => q a ws1 ws2 H4 ((ExtN.of (e2.trans e3)).trans e4) T4 ha l1 l2 w1 w2⟩
theorem em_large3 (h1 : EvProg K t1 σ H ds) (h2 : EvProg K t2 σ H es) (g : Lg ds es r r') : EvM TT (tSl (rSlL K) (tCall (sp_law_large P w K mg base Z 8 TT) [] E0 (tCons t1 (tCons t2 tNil))) tNoPart (tPart (tC (.int 3)))) σ H (LW P w K mg base Z r 3) := fun H1 e T1 Q q =>
  em_large h1 h2 g H1 e T1 _ fun a ws1 ws2 H4 e4 T4 ha l1 l2 w1 w2 => (el_sl (K := K) (σ := σ) (te := tC (.ref a)) ev_c eo_none (eo_some (i := 3) ev_c) (SqL.of ha)) H4 (Ex.refl _) _ fun p H5 np e5 hp => by
    have ec : cutV (ws1 ++ ws2) none (some (3 : Int)) = ws1 := by rw [show (3 : Int) = ((3 : Nat) : Int) from rfl, cutV_to, List.take_left' l1]
    rw [ec] at hp
    exact q _ H5 (e4.trans (ExtN.of e5)) (tabs_ex e5 T4) ⟨p, ws1, rfl, hp, l1, fun x hx => (w1 x hx).mono e5⟩
theorem em_large2 (h1 : EvProg K t1 σ H ds) (h2 : EvProg K t2 σ H es) (g : Lg ds es r r') : EvM TT (tSl (rSlL K) (tCall (sp_law_large P w K mg base Z 8 TT) [] E0 (tCons t1 (tCons t2 tNil))) (tPart (tC (.int 3))) tNoPart) σ H (LW P w K mg base Z (some r') 2) := fun H1 e T1 Q q =>
  em_large h1 h2 g H1 e T1 _ fun a ws1 ws2 H4 e4 T4 ha l1 l2 w1 w2 => (el_sl (K := K) (σ := σ) (te := tC (.ref a)) ev_c (eo_some (i := 3) ev_c) eo_none (SqL.of ha)) H4 (Ex.refl _) _ fun p H5 np e5 hp => by
    have ec : cutV (ws1 ++ ws2) (some (3 : Int)) none = ws2 := by rw [show (3 : Int) = ((3 : Nat) : Int) from rfl, cutV_from, List.drop_left' l1]
    rw [ec] at hp
    exact q _ H5 (e4.trans (ExtN.of e5)) (tabs_ex e5 T4) ⟨p, ws2, rfl, hp, l2, fun x hx => (w2 x hx).mono e5⟩
theorem em_large5 (h1 : EvProg K t1 σ H ds) (h2 : EvProg K t2 σ H es) (g : Lg ds es (some r') r') : EvM TT (tCall (sp_law_large P w K mg base Z 8 TT) [] E0 (tCons t1 (tCons t2 tNil))) σ H (LW P w K mg base Z (some r') 5) := fun H1 e T1 Q q =>
  em_large h1 h2 g H1 e T1 _ fun a ws1 ws2 H4 e4 T4 ha l1 l2 w1 w2 => q _ H4 e4 T4 ⟨a, _, rfl, ha, by rw [List.length_append, l1, l2], fun x hx => (List.mem_append.mp hx).elim (w1 x) (w2 x)⟩
/-- what is asked of a memory and two programs -/
structure Sm (ls : List Int) (ds es : List Raw) (r : Rf) : Prop where
  l0 : ls.length ≤ 1000
  l1 : ds.length ≤ 900
  l2 : es.length ≤ 900
  o1 : ∀ d ∈ ds, d.ok
  o2 : ∀ d ∈ es, d.ok
  e1 : (refM ls).or (refPP ls.length 40 ds es) = some r
theorem Sm.all (g : Sm ls ds es r') : refRun "old" ls ds es = some r' ∧ refOrdered "x" ls ds es = some r' ∧ refExplained ls [] ds es = some r' ∧ refOutcomes ls ds es = some r' := by
  have e : inV (.str "old") ruleNames = true := by decide +kernel
  have h := g.e1
  unfold refRun refOrdered refExplained refOutcomes
  rw [e, if_pos rfl]
  cases h1 : refM ls with
  | some x =>
    rw [h1] at h
    exact ⟨h, h, h, h⟩
  | none =>
    rw [h1] at h
    have h : refPP ls.length 40 ds es = some r' := h
    rw [h]
    exact ⟨rfl, rfl, rfl, rfl⟩
theorem em_small (h0 : EvMem K tm σ H ls) (h1 : EvProg K t1 σ H ds) (h2 : EvProg K t2 σ H es) (g : Sm ls ds es r') : EvM TT (tCall (sp_law_small P w K mg base Z 8 TT) [] E0 (tCons tm (tCons t1 (tCons t2 tNil)))) σ H (LW P w K mg base Z (some r') 4) := fun H1 e T1 Q q =>
  h0 H1 e _ fun mm H2 e2 hm => h1 H2 (e.trans (ExtN.of e2)) _ fun p us H3 e3 hp rp => h2 H3 (e.trans (ExtN.of (e2.trans e3))) _ fun p' xs H4 e4 hq rq => by
    obtain ⟨a1, a2, a3, a4⟩ := g.all
    exact ⟨mm, p, p', ls, us, xs, ds, es, r', rfl, tabs_ex e4 (tabs_ex e3 (tabs_ex e2 T1)), ex_t (e3.trans e4) hm, g.l0, ex_l e4 hp, rp.mono e4, g.l1, g.o1, hq, rq, g.l2, g.o2, a1, a2, a3, a4,
      fun a ws H5 e5 T5 ha hl hw => q _ H5 ((ExtN.of ((e2.trans e3).trans e4)).trans e5) T5 ⟨a, ws, rfl, ha, hl, hw⟩⟩
theorem em_take2 (h : EvM TT te σ H (LW P w K mg base Z r 4)) : EvM TT (tSl (rSlL K) te tNoPart (tPart (tC (.int 2)))) σ H (LW P w K mg base Z r 2) := fun H1 e T1 Q q => h H1 e T1 _ fun v H2 e2 T2 ⟨a, ws, ev, ha, hl, hw⟩ => by
  subst ev
  refine (el_sl (K := K) (σ := σ) (te := tC (.ref a)) ev_c eo_none (eo_some (i := 2) ev_c) (SqL.of ha)) H2 (Ex.refl _) _ fun p H5 np e5 hp => ?_
  rw [show (2 : Int) = ((2 : Nat) : Int) from rfl, cutV_to] at hp
  exact q _ H5 (e2.trans (ExtN.of e5)) (tabs_ex e5 T2) ⟨p, _, rfl, hp, by rw [List.length_take, hl]; rfl, fun x hx => (hw x (List.mem_of_mem_take hx)).mono e5⟩
theorem em_cat (h1 : EvM TT ta σ H (LW P w K mg base Z r n)) (h2 : EvM TT tb σ H (LW P w K mg base Z r m)) (hz : n + m ≤ 1000) : EvM TT (tOp rCat ta tb) σ H (LW P w K mg base Z r (n + m)) := fun H1 e T1 Q q =>
  h1 H1 e T1 _ fun v H2 e2 T2 hv => h2 H2 (e.trans e2) T2 _ fun u H3 e3 T3 hu => by
    obtain ⟨a, ws, rfl, ha, hl, hw⟩ := hv.mono e3
    obtain ⟨b, xs, rfl, hb, hl2, hx⟩ := hu
    exact ⟨a, b, ws, xs, rfl, rfl, ha, hb, sz_of (by omega), fun p hp => q _ _ (e2.trans (e3.trans (ExtN.of (Ex.new hp)))) (tabs_ex (Ex.new hp) T3) ⟨p, _, rfl, upd_same, by rw [List.length_append, hl, hl2], fun x h => ((List.mem_append.mp h).elim (hw x) (hx x)).mono (Ex.new hp)⟩⟩
/-- all of them do -/
theorem em_are (h : EvM TT te σ H (LW P w K mg base Z r n)) (hn : n ≤ 1000) (hw : ∀ H', EvD K tw σ H' (datK r)) (hsm : ∀ a b, r = some (.prog a b) → a < 1000 ∧ b < 1000) : ∀ H1, ExtN H H1 → Tabs TT H1 → ∀ Q : VK, (∀ H2, ExtN H1 H2 → Tabs TT H2 → Q (.bl true) H2) →
    tCall (sp_law_are P w K mg base Z 8) [] E0 (tCons te (tCons tw tNil)) σ H1 Q := fun H1 e T1 Q q =>
  h H1 e T1 _ fun v H2 e2 T2 ⟨a, ws, ev, ha, hl, hk⟩ => by
    subst ev
    exact hw H2 H2 (Ex.refl H2) _ fun u H3 e3 hu => ⟨a, ws, u, r, rfl, SqL.of (e3 _ _ ha), by omega, fun x hx => (hk x hx).mono e3, hsm, hu, fun H4 e4 => q H4 (e2.trans (ExtN.of (e3.trans e4))) (tabs_ex (e3.trans e4) T2)⟩
/-- the word of a refusal with a door and a place -/
theorem ed_prog {tp : TE} {d p : Nat} (hd : ∀ H', Ev td σ H' (.int (d : Int))) (hp : ∀ H', Ev tp σ H' (.int (p : Int))) (H' : Hp) : EvD K (tTup (tCons (tC (.str "BadProgram")) (tCons td (tCons tp tNil)))) σ H' (datK (some (.prog d p))) := fun H1 e Q q =>
  (eu_tup (ea_cons ev_c (ea_cons (hd H') (ea_cons (hp H') ea_nil))) (by simp)) H1 e _ fun t H2 nt e2 ht => q _ H2 e2 (.tup (SqT.of ht) (.cons (.str _) (.cons (.int _) (.cons (.int _) .nil))))
end

open LamX
/-! ### programs of rests, odd memories -/
def RR (k : Nat) : List Raw := (List.replicate k Deed.rs).map Deed.raw
theorem RR_len (k : Nat) : (RR k).length = k := by unfold RR; rw [List.length_map, List.length_replicate]
theorem RR_ok {k : Nat} : ∀ d ∈ RR k, d.ok := raws_ok
theorem RR_at {k j : Nat} (h : j < k) : (RR k)[j]? = some Deed.rs.raw := by
  unfold RR
  rw [List.getElem?_map, List.getElem?_replicate, if_pos h]
  rfl
theorem rs_ok {k n : Nat} : ∀ d ∈ List.replicate k Deed.rs, d.ok n := fun d hd => by
  rw [List.eq_of_mem_replicate hd]
  exact True.intro
theorem isD_rs (n : Int) : isD n Deed.rs.raw = true := by
  show (if ("rest" : Str) = "read" then isRd n [] else if ("rest" : Str) = "write" then isWr n [] else decide (("rest" : Str) = "rest" ∧ ([] : List Int) = [])) = true
  rw [if_neg (by decide +kernel), if_neg (by decide +kernel)]
  exact decide_eq_true ⟨rfl, rfl⟩
theorem bad_RR {n : Int} {m k : Nat} (h : m < k) : firstBad n m (RR k) = some m := firstBad_at (RR_at h) (by rw [decide_eq_true rfl, Bool.true_or]) fun j d' hj e => by
  rw [RR_at (by omega)] at e
  cases e
  rw [isD_rs, decide_eq_false (by omega)]
  rfl
theorem good_RR {n : Int} {m k : Nat} (h : k ≤ m) : firstBad n m (RR k) = none := firstBad_no fun j d' e => by
  have hj := (List.getElem?_eq_some_iff.mp e).1
  rw [RR_len] at hj
  rw [RR_at hj] at e
  cases e
  rw [isD_rs, decide_eq_false (by omega)]
  rfl
theorem good_nil {n : Int} {m : Nat} : firstBad n m [] = none := rfl
theorem rvs_RR {H : Hp} {t : Addr} (h : SqT K H t [.str "rest"]) (k : Nat) : RVs K H (List.replicate k (.ref t)) (RR k) := by
  unfold RR
  rw [List.map_replicate]
  exact RVs.reps ⟨t, rfl, h⟩ k
def oddM (ls : List Int) (f : Nat) : List (List Int) := [[], [0, 0, 0, 0, 0], ls.drop 1 ++ [3 + (f : Int)], ls.drop 1 ++ [-1 - (f : Int)]]
theorem oddM_bad {ls : List Int} {f j : Nat} {os : List Int} (hl : ls.length ≤ 4) (h : (oddM ls f)[j]? = some os) : memBad os = true ∧ os.length ≤ 10 := by
  have hd : (ls.drop 1).length ≤ 4 := by rw [List.length_drop]; omega
  have hm : os ∈ oddM ls f := List.mem_of_getElem? h
  unfold oddM at hm
  simp only [List.mem_cons, List.not_mem_nil, or_false] at hm
  rcases hm with rfl | rfl | rfl | rfl
  · exact ⟨memBad_len (by decide), by decide⟩
  · exact ⟨memBad_len (by decide), by decide⟩
  · exact ⟨memBad_at (i := 3 + (f : Int)) (List.mem_append.mpr (.inr List.mem_cons_self)) (by omega), by rw [List.length_append, List.length_singleton]; omega⟩
  · exact ⟨memBad_at (i := -1 - (f : Int)) (List.mem_append.mpr (.inr List.mem_cons_self)) (by omega), by rw [List.length_append, List.length_singleton]; omega⟩
/-! ### tuples of whole numbers -/
section
variable {σ : L2.St} {H : Hp} {te ta tb : TE} {tr : TA} {t : TT} {xs ys : List V}
theorem eq_catX (ha : EvQ K ta σ H xs) (hb : EvQ K tb σ H ys) (hz : xs.length + ys.length ≤ 100000) : EvQ K (tOp (rCatA K) ta tb) σ H (xs ++ ys) := fun H1 e Q q =>
  ha H1 e _ fun p H2 f hp => hb H2 (e.trans f) _ fun r H3 g hr => ⟨p, r, xs, ys, rfl, rfl, ex_t g hp, hr, Nat.le_trans hz (by decide), fun z => by
    subst z
    exact q r H3 (f.trans g) hr, fun _ z => by
    subst z
    rw [List.append_nil] at q
    exact q p H3 (f.trans g) (ex_t g hp), fun _ _ l hl => q l _ ((f.trans g).trans (Ex.new hl)) (SqT.of upd_same)⟩
theorem eq_rep {k : Nat} (ha : EvQ K ta σ H xs) (hb : Ev tb σ H (.int (k : Int))) (h0 : xs ≠ []) (h1 : 2 ≤ k) (h2 : k ≤ 1000) (hz : xs.length ≤ 1000) : EvQ K (tOp (rRepT K) ta tb) σ H (List.replicate k xs).flatten := fun H1 e Q q =>
  ha H1 e _ fun p H2 f hp => hb H2 (e.trans f) _ fun H3 g => ⟨p, k, xs, rfl, rfl, ex_t g hp, h0, by omega, by omega, hz, fun l hl => by
    rw [Int.toNat_natCast]
    exact q l _ ((f.trans g).trans (Ex.new hl)) (SqT.of upd_same)⟩
theorem eq_if {b : Bool} (h : EvT t σ H b) (h1 : b = true → EvQ K ta σ H xs) (h2 : b = false → EvQ K tb σ H xs) : EvQ K (tIf t ta tb) σ H xs := fun H1 e Q q => h H1 e _ fun H2 e2 => by
  cases b with
  | true =>
    show ta σ H2 Q
    exact h1 rfl H2 (e.trans e2) Q fun p H3 e3 h3 => q p H3 (e2.trans e3) h3
  | false =>
    show tb σ H2 Q
    exact h2 rfl H2 (e.trans e2) Q fun p H3 e3 h3 => q p H3 (e2.trans e3) h3
def TVs (K : PySem.W.Frag) (H : Hp) (vs : List V) (oss : List (List V)) : Prop := Paired (fun v os => ∃ a, v = V.ref a ∧ SqT K H a os) vs oss
def EvTs (K : PySem.W.Frag) (tr : TA) (σ : L2.St) (H : Hp) (oss : List (List V)) : Prop := ∀ H1, Ex H H1 → ∀ Q : List V → Hp → Prop, (∀ vs H2, Ex H1 H2 → TVs K H2 vs oss → Q vs H2) → tr σ H1 Q
theorem TVs.get {H : Hp} : ∀ {vs : List V} {oss : List (List V)} {i : Nat} {os : List V}, TVs K H vs oss → oss[i]? = some os → ∃ a, vs[i]? = some (.ref a) ∧ SqT K H a os
  | _, _, _, _, .nil, e => by simp at e
  | _, _, 0, _, .cons r _, e => by
    simp at e
    subst e
    obtain ⟨a, e1, s⟩ := r
    exact ⟨a, by rw [e1]; rfl, s⟩
  | _, _, i + 1, _, .cons _ t, e => by
    obtain ⟨u, h1, h2⟩ := TVs.get (i := i) t (by simpa using e)
    exact ⟨u, by simpa using h1, h2⟩
theorem ets_nil : EvTs K tNil σ H [] := fun H1 _ _ q => q _ H1 (Ex.refl H1) .nil
theorem ets_cons {oss : List (List V)} (h : EvQ K te σ H xs) (k : EvTs K tr σ H oss) : EvTs K (tCons te tr) σ H (xs :: oss) := fun H1 e Q q =>
  h H1 e _ fun p H2 e2 hp => k H2 (e.trans e2) _ fun vs H3 e3 r => q _ H3 (e2.trans e3) (.cons ⟨p, rfl, ex_t e3 hp⟩ r)
theorem eq_ix {oss : List (List V)} {j : Nat} {os : List V} (h : EvTs K tr σ H oss) (hi : Ev tb σ H (.int (j : Int))) (hz : oss.length ≤ 1000) (hj : oss[j]? = some os) : EvQ K (tOp (rIxL K) (tLst tr) tb) σ H os := fun H1 e Q q =>
  h H1 e _ fun vs H2 e2 r => ⟨sz_of (by rw [show vs.length = oss.length from Paired.length r]; omega), fun p hp => hi _ ((e.trans e2).trans (Ex.new hp)) _ fun H3 e3 => by
    obtain ⟨a, h1, h2⟩ := r.get hj
    exact ⟨p, vs, (j : Int), _, rfl, rfl, SqL.of (e3 _ _ upd_same), atI_nat h1, q a H3 ((e2.trans (Ex.new hp)).trans e3) (ex_t ((Ex.new hp).trans e3) h2)⟩⟩
theorem eu_nil0 : EvU (tTup tNil) σ H [] := eu_tup ea_nil (by simp)
end
/-! ### what stays where the list of words grows -/
theorem sqt_put {H : Hp} {w' a : Addr} {us ws xs : List V} (hw : H w' = some (.lst us)) (h : SqT K H a xs) : SqT K (upd H w' (.lst ws)) a xs := by
  rcases h with (h | ⟨o, h⟩) | h
  · refine .inl (.inl ?_)
    rw [upd_ne (by rintro rfl; rw [hw] at h; cases h)]
    exact h
  · refine .inl (.inr ⟨o, ?_⟩)
    rw [upd_ne (by rintro rfl; rw [hw] at h; cases h)]
    exact h
  · exact .inr h
theorem tabs_put {H : Hp} {TT : List (Addr × Str)} {w' : Addr} {us ws : List V} (hw : H w' = some (.lst us)) (h : Tabs TT H) : Tabs TT (upd H w' (.lst ws)) := fun p hp => by
  obtain ⟨ps, a1, a2, a3⟩ := h p hp
  refine ⟨ps, by rw [upd_ne (by intro z; rw [z, hw] at a1; cases a1)]; exact a1, a2, fun pos cv hc => ?_⟩
  obtain ⟨c, e1, e2⟩ := a3 pos cv hc
  exact ⟨c, e1, by rw [upd_ne (by intro z; rw [z, hw] at e2; exact codeO_nel (Option.some.inj e2).symm)]; exact e2⟩
/-- while the words are gathered -/
structure Gat (K : PySem.W.Frag) (TT : List (Addr × Str)) (m od ot rs t0 : Addr) (ls os ts : List Int) (H0 H : Hp) (wl : Addr) (ws : List V) : Prop where
  ext : ExtN H0 H
  fw : ∀ o, H0 wl = some o → (∀ ps, o ≠ .tbl ps) → False
  tab : Tabs TT H
  wd : H wl = some (.lst ws)
  mem : SqT K H m (ls.map V.int)
  odd : SqT K H od (os.map V.int)
  oth : SqT K H ot (ts.map V.int)
  rst : H rs = some (.lst (List.replicate 41 (.ref t0)))
  ne : rs ≠ wl
  r0 : SqT K H t0 [.str "rest"]
section
variable {TT : List (Addr × Str)} {m od ot rs t0 wl : Addr} {ls os ts : List Int} {H0 H H' : Hp} {ws : List V}
theorem Gat.next (G : Gat K TT m od ot rs t0 ls os ts H0 H wl ws) (e : ExtN H H') (T : Tabs TT H') : Gat K TT m od ot rs t0 ls os ts H0 H' wl ws :=
  ⟨G.ext.trans e, G.fw, T, e _ _ G.wd nb_lst, sqt_N e G.mem, sqt_N e G.odd, sqt_N e G.oth, e _ _ G.rst nb_lst, G.ne, sqt_N e G.r0⟩
theorem Gat.put (G : Gat K TT m od ot rs t0 ls os ts H0 H wl ws) (v : V) : Gat K TT m od ot rs t0 ls os ts H0 (upd H wl (.lst (ws ++ [v]))) wl (ws ++ [v]) :=
  ⟨fun b o h n => by rw [upd_ne (by rintro rfl; exact G.fw o h n)]; exact G.ext b o h n, G.fw, tabs_put G.wd G.tab, upd_same, sqt_put G.wd G.mem, sqt_put G.wd G.odd, sqt_put G.wd G.oth, by rw [upd_ne G.ne]; exact G.rst, G.ne, sqt_put G.wd G.r0⟩
end
/-! ### _law_kind(lambda: ..), its word -/
theorem km {σ : L2.St} {H : Hp} {Z : Cls} {TT : List (Addr × Str)} {js : List Nat} {N : List Str} {qual : Str} {params : Arguments} {body : Expr} {scope : Scope} {vs : List V} {r : Rf} {x : Str} {Q : VK} (hws : js.map (NdefX.slotAt σ) = vs.map some) (hd : datK (some r) = .str x) (T : Tabs TT H)
    (hB : BodyOk P w K mg base Z 7 N qual params body scope [] vs H (some r)) (q : ∀ H', ExtN H H' → Tabs TT H' → Q (.str x) H') : tKindL P w K mg base Z 7 TT js N qual params body scope σ H Q := by
  refine ⟨T, vs, some r, hws, hB, fun a b e => ?_, fun u H' e T' du => ?_⟩
  · cases e
    cases hd
  · rw [hd] at du
    cases du
    exact q H' e T'
theorem app_k {σ : L2.St} {D : L2.Ends} {tz : TS} {Z : Cls} {TT : List (Addr × Str)} {m od ot rs t0 wl : Addr} {ls os ts : List Int} {H0 H : Hp} {ws vs : List V} {js : List Nat} {N : List Str} {qual : Str} {params : Arguments} {body : Expr} {scope : Scope} {r : Rf} {x : Str} (G : Gat K TT m od ot rs t0 ls os ts H0 H wl ws) (hσ : σ[3]? = some (some (.ref wl))) (hl : ws.length < 100)
    (hws : js.map (NdefX.slotAt σ) = vs.map some) (hd : datK (some r) = .str x) (hB : BodyOk P w K mg base Z 7 N qual params body scope [] vs H (some r)) (k : ∀ H', Gat K TT m od ot rs t0 ls os ts H0 H' wl (ws ++ [.str x]) → tz D σ H') :
    tSeq (tDrop (tBM K "list" rAppend (tVar 3) (tCons (tKindL P w K mg base Z 7 TT js N qual params body scope) tNil))) tz D σ H :=
  ⟨_, hσ, Or.inl ⟨rfl, _, SqL.of G.wd⟩, km hws hd G.tab hB fun H' e T' => ⟨wl, ws, _, rfl, rfl, (G.next e T').wd, Nat.lt_of_lt_of_le hl (by decide), k _ ((G.next e T').put _)⟩⟩

open LamX
/-- whether programs of too many deeds, odd memories, rules and counts are refused; those at the bounds let by -/
def sp_law_counts_right (K : PySem.W.Frag) (TT : List (Addr × Str)) : Sp := fun vs H Q _ => ∃ (m : Addr) (f : Nat) (ls : List Int), vs = [.ref m, .int f] ∧ Tabs TT H ∧ SqT K H m (ls.map V.int) ∧ 1 ≤ ls.length ∧ ls.length ≤ 4 ∧ refM ls = none ∧ ∀ H' : Hp, ExtN H H' → Tabs TT H' → Q (.bl true) H'
theorem d_law_counts_right {Z : Cls} {TT : List (Addr × Str)} {cc : Addr} (HT : TabH TT base mg "_law_counts_right" cc) (T : Nb mg) (D_law_kind : Dn P w K mg base CX0 "_law_kind" ["_law_work"] 9 (sp_law_kind P w K mg base Z 8)) (D_law_are : Dn P w K mg base CX0 "_law_are" ["_law_works", "_law_word"] 10 (sp_law_are P w K mg base Z 8)) (D_law_small : Dn P w K mg base CX0 "_law_small" ["_law_memory_here", "_law_left", "_law_right"] 9 (sp_law_small P w K mg base Z 8 TT)) (D_law_large : Dn P w K mg base CX0 "_law_large" ["_law_left", "_law_right"] 9 (sp_law_large P w K mg base Z 8 TT))
    (D_run : Dn P w K mg base (L2.CX P w) "run" ["rule", "memory", "left", "right"] 6 (sp_runX K Z)) (D_explained : Dn P w K mg base (L2.CX P w) "explained" ["memory", "left", "right", "seen", "others", "last"] 6 (sp_explainedX K Z)) (D_outcomes : Dn P w K mg base (L2.CX P w) "outcomes" ["memory", "left", "right"] 6 (sp_outcomesX K Z)) (D_parting : Dn P w K mg base (L2.CX P w) "parting" ["cells", "left", "right"] 7 (sp_partingX K Z))
    (h : HasC K mg "_law_counts_right" s_law_counts_right cc) : Dn P w K mg base CX0 "_law_counts_right" ["_law_memory_here", "_law_far"] 11 (sp_law_counts_right K TT) := by
  obtain ⟨Pt, TB, hm, hu⟩ := HT.ex
  refine dnC_of h (fun f fd F => F.binds fun _ _ _ _ _ _ us hl => match us, hl with | [_, _], _ => rfl) fun f fd F hcc => okC F hcc sc_law_counts_right (fun vs H Q E h => ?_) (fun A outer s H vs Q E hr h => ?_)
  · obtain ⟨_, _, _, rfl, _⟩ := h
    rfl
  obtain ⟨m, f, ls, rfl, hT, hM, l1, l4, rm, k⟩ := h
  refine ⟨_, (pss_cons (ps_set (i := 6) sc_law_counts_right.nd rfl (Or.inr rfl) (pe_op op_rep (pe_lst (pa_cons (pe_tup (pa_cons pe_str pa_nil)) pa_nil)) pe_int))
    (pss_cons (ps_set (i := 2) sc_law_counts_right.nd rfl (Or.inl rfl) (pe_slice sl_list (pv 6) po_none (po_some (pe_op op_add pe_int (pe_op op_mod (pv 1) pe_int)))))
    (pss_cons (ps_if (pt_not (pt_val (pe_dn D_law_are hr (by omega) pass0 (pa_cons (pe_op op_cat (pe_slice sl_list (pe_dn D_law_large hr (by omega) pass0 (pa_cons (pv 6) (pa_cons (pe_lst pa_nil) pa_nil))) po_none (po_some pe_int)) (pe_slice sl_list (pe_dn D_law_small hr (by omega) pass0 (pa_cons (pv 0) (pa_cons (pv 6) (pa_cons (pe_lst pa_nil) pa_nil)))) po_none (po_some pe_int))) (pa_cons (pe_tup (pa_cons pe_str (pa_cons pe_int (pa_cons pe_int pa_nil)))) pa_nil))))) (pss_one (ps_ret pe_bl)) pss_nil)
    (pss_cons (ps_if (PW.pt (pw_or (pt_not (pt_val (pe_dn D_law_are hr (by omega) pass0 (pa_cons (pe_slice sl_list (pe_dn D_law_large hr (by omega) pass0 (pa_cons (pe_lst pa_nil) (pa_cons (pv 2) pa_nil))) (po_some pe_int) po_none) (pa_cons (pe_tup (pa_cons pe_str (pa_cons pe_int (pa_cons pe_int pa_nil)))) pa_nil))))) (pw_or1 (pt_not (pt_val (pe_dn D_law_are hr (by omega) pass0 (pa_cons (pe_slice sl_list (pe_dn D_law_large hr (by omega) pass0 (pa_cons (pv 2) (pa_cons (pv 2) pa_nil))) po_none (po_some pe_int)) (pa_cons pe_str pa_nil)))))))) (pss_one (ps_ret pe_bl)) pss_nil)
    (pss_cons (ps_set (i := 4) sc_law_counts_right.nd rfl (Or.inr rfl) (pe_ix (ix_listK K) (pe_lst (pa_cons (pe_tup pa_nil) (pa_cons (pe_op op_repT (pe_tup (pa_cons pe_int pa_nil)) pe_int) (pa_cons (pe_op op_catA (pe_slice (sl_tupAK K) (pv 0) (po_some pe_int) po_none) (pe_tup (pa_cons (pe_op op_add pe_int (pv 1)) pa_nil))) (pa_cons (pe_op op_catA (pe_slice (sl_tupAK K) (pv 0) (po_some pe_int) po_none) (pe_tup (pa_cons (pe_op op_sub (pe_un un_neg pe_int) (pv 1)) pa_nil))) pa_nil))))) (pe_op op_mod (pv 1) pe_int) (fun _ _ => rfl)))
    (pss_cons (ps_set (i := 5) sc_law_counts_right.nd rfl (Or.inr rfl) (pe_ifExp (pt_cmpR op_lt (pe_callB (call_len_seqK K) (by rfl) T.n_len PySem.boot_len (pa_cons (pv 0) pa_nil)) pe_int (nomark _)) (pe_op op_catA (pv 0) (pe_tup (pa_cons pe_int pa_nil))) (pe_slice (sl_tupAK K) (pv 0) (po_some pe_int) po_none)))
    (pss_cons (ps_set (i := 3) sc_law_counts_right.nd rfl (Or.inl rfl) (pe_lst (pa_cons (pe_kindL (T := TT) (js := [1]) (N := ["_law_far"]) (fr := ["_law_far"]) D_law_kind hr (by omega) (by omega) TB rfl hm hu rfl rfl (fun F h1 h2 doc pm ctv => by obtain ⟨_, _, _, _, _, _, _⟩ := F; cases h1; cases h2; rfl) (NdefX.nscope_by (by decide +kernel)) (fun y hy e => ⟨cell_by (sc := defScope s_law_counts_right) (by decide +kernel) y hy e, rfl⟩) rfl rfl) pa_nil)))
    (pss_cons (ps_expr (pe_bm PySem.F.plainAttrs_list PySem.F.slot_list_append PySem.F.type_list_append mt_append (pv 3) (pa_cons (pe_kindL (T := TT) (js := [1, 4]) (N := ["_law_far", "_law_odd_here"]) (fr := ["_law_far", "_law_odd_here"]) D_law_kind hr (by omega) (by omega) TB rfl hm hu rfl rfl (fun F h1 h2 doc pm ctv => by obtain ⟨_, _, _, _, _, _, _⟩ := F; cases h1; cases h2; rfl) (NdefX.nscope_by (by decide +kernel)) (fun y hy e => ⟨cell_by (sc := defScope s_law_counts_right) (by decide +kernel) y hy e, rfl⟩) rfl rfl) pa_nil)))
    (pss_cons (ps_expr (pe_bm PySem.F.plainAttrs_list PySem.F.slot_list_append PySem.F.type_list_append mt_append (pv 3) (pa_cons (pe_kindL (T := TT) (js := [0, 4, 6]) (N := ["_law_memory_here", "_law_odd_here", "_law_rests"]) (fr := ["_law_memory_here", "_law_odd_here", "_law_rests"]) D_law_kind hr (by omega) (by omega) TB rfl hm hu rfl rfl (fun F h1 h2 doc pm ctv => by obtain ⟨_, _, _, _, _, _, _⟩ := F; cases h1; cases h2; rfl) (NdefX.nscope_by (by decide +kernel)) (fun y hy e => ⟨cell_by (sc := defScope s_law_counts_right) (by decide +kernel) y hy e, rfl⟩) rfl rfl) pa_nil)))
    (pss_cons (ps_expr (pe_bm PySem.F.plainAttrs_list PySem.F.slot_list_append PySem.F.type_list_append mt_append (pv 3) (pa_cons (pe_kindL (T := TT) (js := [0, 6]) (N := ["_law_memory_here", "_law_rests"]) (fr := ["_law_memory_here", "_law_rests"]) D_law_kind hr (by omega) (by omega) TB rfl hm hu rfl rfl (fun F h1 h2 doc pm ctv => by obtain ⟨_, _, _, _, _, _, _⟩ := F; cases h1; cases h2; rfl) (NdefX.nscope_by (by decide +kernel)) (fun y hy e => ⟨cell_by (sc := defScope s_law_counts_right) (by decide +kernel) y hy e, rfl⟩) rfl rfl) pa_nil)))
    (pss_cons (ps_expr (pe_bm PySem.F.plainAttrs_list PySem.F.slot_list_append PySem.F.type_list_append mt_append (pv 3) (pa_cons (pe_kindL (T := TT) (js := [0, 5]) (N := ["_law_memory_here", "_law_other"]) (fr := ["_law_memory_here", "_law_other"]) D_law_kind hr (by omega) (by omega) TB rfl hm hu rfl rfl (fun F h1 h2 doc pm ctv => by obtain ⟨_, _, _, _, _, _, _⟩ := F; cases h1; cases h2; rfl) (NdefX.nscope_by (by decide +kernel)) (fun y hy e => ⟨cell_by (sc := defScope s_law_counts_right) (by decide +kernel) y hy e, rfl⟩) rfl rfl) pa_nil)))
    (pss_cons (ps_expr (pe_bm PySem.F.plainAttrs_list PySem.F.slot_list_append PySem.F.type_list_append mt_append (pv 3) (pa_cons (pe_kindL (T := TT) (js := [0, 6]) (N := ["_law_memory_here", "_law_rests"]) (fr := ["_law_memory_here", "_law_rests"]) D_law_kind hr (by omega) (by omega) TB rfl hm hu rfl rfl (fun F h1 h2 doc pm ctv => by obtain ⟨_, _, _, _, _, _, _⟩ := F; cases h1; cases h2; rfl) (NdefX.nscope_by (by decide +kernel)) (fun y hy e => ⟨cell_by (sc := defScope s_law_counts_right) (by decide +kernel) y hy e, rfl⟩) rfl rfl) pa_nil)))
    (pss_cons (ps_if (pt_not (pt_val (pe_dn D_law_are hr (by omega) pass0 (pa_cons (pe_dn D_law_small hr (by omega) pass0 (pa_cons (pv 4) (pa_cons (pe_lst (pa_cons (pe_tup pa_nil) pa_nil)) (pa_cons (pe_lst pa_nil) pa_nil)))) (pa_cons pe_str pa_nil))))) (pss_one (ps_ret pe_bl)) pss_nil)
    (pss_one (ps_ret (pe_cmpR (op_eqDK K rfl hr.units) (pv 3) (pe_lst (pa_cons pe_str (pa_cons pe_str (pa_cons pe_str (pa_cons pe_str (pa_cons pe_str (pa_cons pe_str pa_nil))))))) (nomark _))))))))))))))))), ?_⟩
  -- the rests
  refine q_set_bind ⟨by show 1 ≤ sizeLine; decide, fun t0 nt0 => ⟨by show 1 ≤ sizeLine; decide, fun l0 nl0 => ⟨l0, 41, _, rfl, rfl, upd_same, by decide, by decide, sz_of (by simp), fun rs nrs => ?_⟩⟩⟩
  rw [show ((41 : Int).toNat) = 41 from rfl, repsW]
  have x1 := (Ex.new (o := .tup [.str "rest"]) nt0).trans (Ex.new (o := .lst [.ref t0]) nl0)
  have x2 := x1.trans (Ex.new (o := .lst (List.replicate 41 (.ref t0))) nrs)
  have hrs := upd_same (H := upd (upd H t0 (.tup [.str "rest"])) l0 (.lst [.ref t0])) (a := rs) (o := .lst (List.replicate 41 (.ref t0)))
  have ht0 : SqT K (upd (upd (upd H t0 (.tup [.str "rest"])) l0 (.lst [.ref t0])) rs (.lst (List.replicate 41 (.ref t0)))) t0 [.str "rest"] := ex_t ((Ex.new nl0).trans (Ex.new nrs)) (SqT.of upd_same)
  generalize upd (upd (upd H t0 (.tup [.str "rest"])) l0 (.lst [.ref t0])) rs (.lst (List.replicate 41 (.ref t0))) = H1 at x2 hrs ht0 ⊢
  have T1 := tabs_ex x2 hT
  have hM1 := ex_t x2 hM
  -- few of them
  have hk : 21 + f % 20 ≤ 40 := by omega
  refine q_asgL (xs := List.replicate (21 + f % 20) (.ref t0)) (ev_slL (lo := none) (hi := some ((21 + f % 20 : Nat) : Int)) (ev_var (v := .ref rs) rfl) eo_none (eo_some (ev_is (ev_op (x := .int 21) (y := .int ((f : Int) % 20)) ev_c (by walk_at "ev") rv_I0) (by rw [show ((21 + f % 20 : Nat) : Int) = 21 + (f : Int) % 20 by omega]))) (SqL.of hrs) (by rw [cutV_to, List.take_replicate, Nat.min_eq_left (by omega)])) fun fw H2 nfw f2 hfw => ?_
  have T2 := tabs_ex f2 T1
  have hM2 := ex_t f2 hM1
  have hrs2 := f2 _ _ hrs
  have ht2 := ex_t f2 ht0
  have rA : ∀ {H' : Hp}, ExtN H2 H' → RVs K H' (List.replicate 41 (.ref t0)) (RR 41) := fun {H'} e => rvs_RR (sqt_N e ht2) 41
  have rF : ∀ {H' : Hp}, ExtN H2 H' → RVs K H' (List.replicate (21 + f % 20) (.ref t0)) (RR (21 + f % 20)) := fun {H'} e => rvs_RR (sqt_N e ht2) _
  have no : ∀ d ∈ ([] : List Raw), d.ok := fun _ z => nomatch z
  -- too many
  refine q_whenX (R := fun H' => ExtN H2 H' ∧ Tabs TT H') (fun Q q => ?_) (fun H3 ⟨e3, T3⟩ => ?_)
  · have g1 : Lg (RR 41) [] (some (.prog 0 40)) (.prog 0 20) := ⟨by rw [RR_len]; decide, by decide, RR_ok, no, by unfold refPP refP; rw [bad_RR (by decide)]; rfl, by unfold refPP refP; rw [bad_RR (by decide)]; rfl, fun z => nomatch z⟩
    have g2 : Sm ls (RR 41) [] (.prog 0 40) := ⟨by omega, by rw [RR_len]; decide, by decide, RR_ok, no, by unfold refPP refP; rw [rm, bad_RR (by decide)]; rfl⟩
    exact em_are (em_cat (em_large3 (ep_var rfl (SqL.of hrs2) (rA (ExtN.refl _))) ep_nil g1) (em_take2 (em_small (em_var rfl hM2) (ep_var rfl (SqL.of hrs2) (rA (ExtN.refl _))) ep_nil g2)) (by decide)) (by decide) (ed_prog (d := 0) (p := 40) (fun _ => ev_c) (fun _ => ev_c)) (fun a b e => by cases e; decide) H2 (ExtN.refl H2) T2 _ fun H' e' t' => ⟨true, rfl, q H' ⟨e', t'⟩⟩
  have hfw3 := e3 _ _ hfw nb_lst
  -- few, and at the bounds
  refine q_whenX (R := fun H' => ExtN H3 H' ∧ Tabs TT H') (fun Q q => ?_) (fun H4 ⟨e4, T4⟩ => ?_)
  · have g1 : Lg [] (RR (21 + f % 20)) none (.prog 1 20) := ⟨by decide, by rw [RR_len]; omega, no, RR_ok, by unfold refPP refP; rw [good_nil, good_RR hk]; rfl, by unfold refPP refP; rw [good_nil, bad_RR (by omega)]; rfl, fun _ => ⟨[], _, rfl, rfl, by decide, by rw [List.length_replicate]; exact hk, (fun _ z => nomatch z), rs_ok⟩⟩
    have g2 : Lg (RR (21 + f % 20)) (RR (21 + f % 20)) none (.prog 0 20) := ⟨by rw [RR_len]; omega, by rw [RR_len]; omega, RR_ok, RR_ok, by unfold refPP refP; rw [good_RR hk]; rfl, by unfold refPP refP; rw [bad_RR (by omega)]; rfl, fun _ => ⟨_, _, rfl, rfl, by rw [List.length_replicate]; exact hk, by rw [List.length_replicate]; exact hk, rs_ok, rs_ok⟩⟩
    exact em_are (em_large2 ep_nil (ep_var rfl (SqL.of hfw3) (rF e3)) g1) (by decide) (ed_prog (d := 1) (p := 20) (fun _ => ev_c) (fun _ => ev_c)) (fun a b e => by cases e; decide) H3 (ExtN.refl H3) T3 _ fun H' e' t' => ⟨true, rfl, iteF (
      em_are (em_large3 (ep_var rfl (SqL.of (e' _ _ hfw3 nb_lst)) (rF (e3.trans e'))) (ep_var rfl (SqL.of (e' _ _ hfw3 nb_lst)) (rF (e3.trans e'))) g2) (by decide) (fun _ => ed_ev ev_c (.str _)) (fun a b e => nomatch e) H' (ExtN.refl H') t' _ fun H'' e'' t'' => ⟨true, rfl, q H'' ⟨e'.trans e'', t''⟩⟩)⟩
  have e24 := e3.trans e4
  have hM4 := sqt_N e24 hM2
  -- an odd memory
  have sl1 : ∀ {σ : L2.St} {H' : Hp}, σ[0]? = some (some (.ref m)) → SqT K H' m (ls.map V.int) → EvQ K (tSl (rSlA K) (tVar 0) (tPart (tC (.int 1))) tNoPart) σ H' ((ls.drop 1).map V.int) := fun {σ H'} h1 h2 =>
    eq_is (eq_slA (lo := some 1) (hi := none) (ev_var h1) (eo_some ev_c) eo_none h2) (by rw [show (1 : Int) = ((1 : Nat) : Int) from rfl, cutV_from, List.map_drop])
  have mod4 : (f : Int) % 4 = ((f % 4 : Nat) : Int) := by omega
  have hj4 : f % 4 < 4 := Nat.mod_lt _ (by decide)
  obtain ⟨os, hos⟩ : ∃ os, (oddM ls f)[f % 4]? = some os := ⟨_, List.getElem?_eq_getElem (show f % 4 < (oddM ls f).length from hj4)⟩
  obtain ⟨bad, lo10⟩ := oddM_bad l4 hos
  have n1 : ∀ {σ : L2.St} {H' : Hp}, Ev (tUn (rU fun i => .int (-i)) (tC (.int 1))) σ H' (.int (-1)) := fun {σ H'} => ev_un ev_c ru_neg
  refine q_asgQ (K := K) (xs := os.map V.int) (eq_ix (oss := (oddM ls f).map fun l => l.map V.int) (j := f % 4) (ets_cons (eq_U eu_nil0) (ets_cons (eq_is (eq_rep (k := 5) (xs := [.int 0]) (eq_U (eu_tup (ea_cons ev_c ea_nil) (by decide))) ev_c (by simp) (by decide) (by decide) (by decide)) (by rw [repsW]; rfl))
    (ets_cons (eq_is (eq_catX (sl1 rfl hM4) (eq_U (eu_tup (ea_cons (ev_op (x := .int 3) (y := .int (f : Int)) ev_c (ev_var rfl) rv_I0) ea_nil) (by simp))) (by rw [List.length_map, List.length_drop]; simp only [List.length_singleton]; omega)) (by show _ = List.map V.int (ls.drop 1 ++ _); rw [List.map_append]; rfl))
    (ets_cons (eq_is (eq_catX (sl1 rfl hM4) (eq_U (eu_tup (ea_cons (ev_op (x := .int (-1)) (y := .int (f : Int)) n1 (ev_var rfl) rv_I0) ea_nil) (by simp))) (by rw [List.length_map, List.length_drop]; simp only [List.length_singleton]; omega)) (by show _ = List.map V.int (ls.drop 1 ++ _); rw [List.map_append]; rfl)) ets_nil)))) (ev_is (v := .int ((f : Int) % 4)) (by walk_at "ev") (by rw [mod4])) (Nat.le_of_ble_eq_true rfl) (by rw [List.getElem?_map, hos]; rfl)) fun od H5 f5 hod => ?_
  have T5 := tabs_ex f5 T4
  have hM5 := ex_t f5 hM4
  -- one of another length
  obtain ⟨ts, hts, tl⟩ : ∃ ts : List Int, ts = (if ls.length < 4 then ls ++ [0] else ls.drop 1) ∧ ts.length ≠ ls.length ∧ ts.length ≤ 10 := by
    refine ⟨_, rfl, ?_⟩
    split
    · rw [List.length_append, List.length_singleton]
      omega
    · rw [List.length_drop]
      omega
  refine q_asgQ (K := K) (xs := ts.map V.int) (eq_if (b := decide (((ls.map V.int).length : Int) < 4)) (et_test (by walk_at "ev")) (fun hb => ?_) (fun hb => ?_)) fun ot H6 f6 hot => ?_
  · have hb := of_decide_eq_true hb
    rw [List.length_map] at hb
    rw [hts, if_pos (by omega), List.map_append]
    exact eq_catX (eq_ev (ev_var rfl) hM5) (eq_U (eu_tup (ea_cons ev_c ea_nil) (by simp))) (by simp; omega)
  · have hb := of_decide_eq_false hb
    rw [List.length_map] at hb
    rw [hts, if_neg (by omega)]
    exact sl1 rfl hM5
  have T6 := tabs_ex f6 T5
  have e26 := (e24.trans (ExtN.of f5)).trans (ExtN.of f6)
  have e06 := (ExtN.of (x2.trans f2)).trans e26
  have hod6 := ex_t f6 hod
  have hM6 := ex_t f6 hM5
  have mb : memBad ls = false := by
    unfold refM at rm
    cases z : memBad ls with
    | false => rfl
    | true => rw [z] at rm; cases rm
  -- the words
  have ok1 : ∀ d ∈ ([none] : List Raw), d.ok := fun d hd => by
    rw [List.mem_singleton.mp hd]
    exact True.intro
  obtain ⟨n, hn⟩ : ∃ n, ([0, 5, 5 + (f : Int), -1 - (f : Int)] : List Int)[f % 4]? = some n := ⟨_, List.getElem?_eq_getElem (show f % 4 < 4 from hj4)⟩
  have hn2 : ¬ (1 ≤ n ∧ n ≤ 4) := by
    have := List.mem_of_getElem? hn
    simp only [List.mem_cons, List.not_mem_nil, or_false] at this
    omega
  refine q_set_bind (km (vs := [.int f]) (r := .mem) rfl rfl T6 (fun F f' A outer s H9 Q E eq es hr hx hE => by
    obtain ⟨_, _, _, _, _, _, _⟩ := F
    cases eq
    cases es
    refine ⟨_, (pe_dnS D_parting hr (by omega) (fun σ => passAt (takes_of rfl rfl rfl rfl) σ) (pa_cons (pe_ix (ix_listK K) (pe_lst (pa_cons pe_int (pa_cons pe_int (pa_cons (pe_op op_add pe_int (pv 0)) (pa_cons (pe_op op_sub (pe_un un_neg pe_int) (pv 0)) pa_nil))))) (pe_op op_mod (pv 0) pe_int) (fun _ _ => rfl)) (pa_cons (pe_lst (pa_cons (pe_tup pa_nil) pa_nil)) (pa_cons (pe_lst (pa_cons (pe_tup pa_nil) pa_nil)) pa_nil)))), ?_⟩
    refine (ev_ixNew (xs := [.int 0, .int 5, .int (5 + (f : Int)), .int (-1 - (f : Int))]) (i := ((f % 4 : Nat) : Int)) (v := .int n) (el_lst (ea_cons ev_c (ea_cons ev_c (ea_cons (ev_op (x := .int 5) (y := .int (f : Int)) ev_c (ev_var rfl) rv_I0) (ea_cons (ev_op (x := .int (-1)) (y := .int (f : Int)) n1 (ev_var rfl) rv_I0) ea_nil)))) (by simp)) (ev_is (v := .int ((f : Int) % 4)) (by walk_at "ev") (by rw [mod4])) (atI_nat (by rw [show ([.int 0, .int 5, .int (5 + (f : Int)), .int (-1 - (f : Int))] : List V) = ([0, 5, 5 + (f : Int), -1 - (f : Int)] : List Int).map V.int from rfl, List.getElem?_map, hn]; rfl))) H9 (Ex.refl _) _ fun HA eA => ?_
    refine ep_unit (K := K) HA (ExtN.refl _) _ fun p1 u1 HB eB hp1 hr1 => ep_unit (K := K) HB (ExtN.refl _) _ fun p2 u2 HC eC hp2 hr2 => ?_
    have rp : refParting n [none] [none] = some .mem := by
      unfold refParting
      rw [if_neg hn2]
      rfl
    exact ⟨n, p1, p2, u1, u2, [none], [none], rfl, ex_l eC hp1, hr1.mono eC, by decide, ok1, hp2, hr2, by decide, ok1, (by rw [rp]; exact fun z => nomatch z), by rw [rp]; exact hE.back ((eA.trans eB).trans eC)⟩) fun H7 e7 T7 => ⟨by show 1 ≤ sizeLine; decide, fun wl nwl => ?_⟩)
  have G : Gat K TT m od ot rs t0 ls os ts H (upd H7 wl (.lst [.str "BadMemory"])) wl [.str "BadMemory"] := by
    have e07 := e06.trans e7
    have x8 := Ex.new (o := .lst [.str "BadMemory"]) nwl
    have hrs7 := (e26.trans e7) _ _ hrs2 nb_lst
    exact ⟨e07.trans (ExtN.of x8), (fun o h n => by
      have z := e07 _ _ h n
      rw [nwl] at z
      cases z), tabs_ex x8 T7, upd_same, ex_t x8 (sqt_N e7 hM6), ex_t x8 (sqt_N e7 hod6), ex_t x8 (sqt_N e7 hot), x8 _ _ hrs7, ne_of_none hrs7 nwl, ex_t x8 (sqt_N (e26.trans e7) ht2)⟩
  refine gn ?_
  dsimp only
  generalize upd H7 wl (.lst [.str "BadMemory"]) = H8 at G ⊢
  obtain ⟨s0, hs⟩ : ∃ s, (["", "Old", "first", "olds"] : List Str)[f % 4]? = some s := ⟨_, List.getElem?_eq_getElem (show f % 4 < 4 from hj4)⟩
  have hs2 : inV (.str s0) ruleNames = false := by
    have := List.mem_of_getElem? hs
    simp only [List.mem_cons, List.not_mem_nil, or_false] at this
    rcases this with rfl | rfl | rfl | rfl <;> decide +kernel
  -- an odd rule
  refine app_k G rfl (by decide) (vs := [.int f, .ref od]) (r := .rule) rfl rfl (fun F f' A outer s H9 Q E eq es hr hx hE => by
    obtain ⟨_, _, _, _, _, _, _⟩ := F
    cases eq
    cases es
    refine ⟨_, (pe_dnS D_run hr (by omega) (fun σ => passAt (takes_of rfl rfl rfl rfl) σ) (pa_cons (pe_ix (ix_listK K) (pe_lst (pa_cons pe_str (pa_cons pe_str (pa_cons pe_str (pa_cons pe_str pa_nil))))) (pe_op op_mod (pv 0) pe_int) (fun _ _ => rfl)) (pa_cons (pv 1) (pa_cons (pe_lst (pa_cons (pe_tup pa_nil) pa_nil)) (pa_cons (pe_lst (pa_cons (pe_tup pa_nil) pa_nil)) pa_nil))))), ?_⟩
    refine (ev_ixNew (xs := [.str "", .str "Old", .str "first", .str "olds"]) (i := ((f % 4 : Nat) : Int)) (v := .str s0) (el_lst (ea_cons ev_c (ea_cons ev_c (ea_cons ev_c (ea_cons ev_c ea_nil)))) (by simp)) (ev_is (v := .int ((f : Int) % 4)) (by walk_at "ev") (by rw [mod4])) (atI_nat (by rw [show ([.str "", .str "Old", .str "first", .str "olds"] : List V) = (["", "Old", "first", "olds"] : List Str).map V.str from rfl, List.getElem?_map, hs]; rfl))) H9 (Ex.refl _) _ fun HA eA => ⟨_, rfl, ?_⟩
    refine ep_unit (K := K) HA (ExtN.refl _) _ fun p1 u1 HB eB hp1 hr1 => ep_unit (K := K) HB (ExtN.refl _) _ fun p2 u2 HC eC hp2 hr2 => ?_
    refine ⟨s0, od, p1, p2, os, u1, u2, [none], [none], .rule, rfl, ex_t ((eA.trans eB).trans eC) (sqt_N hx G.odd), by omega, ex_l eC hp1, hr1.mono eC, by decide, ok1, hp2, hr2, by decide, ok1, ?_, (hE.back ((eA.trans eB).trans eC)).some⟩
    unfold refRun
    rw [hs2, if_neg Bool.false_ne_true]
    rfl) fun H10 G => ?_
  refine app_k G rfl (by simp) (vs := [.ref m, .ref od, .ref rs]) (r := .mem) rfl rfl (fun F f' A outer s H9 Q E eq es hr hx hE => by
    obtain ⟨_, _, _, _, _, _, _⟩ := F
    cases eq
    cases es
    refine ⟨_, (pe_dnS D_explained hr (by omega) (fun σ => passAt (takes_of rfl rfl rfl rfl) σ) (pa_cons (pv 0) (pa_cons (pe_slice sl_list (pv 2) po_none (po_some pe_int)) (pa_cons (pe_lst pa_nil) (pa_cons (pe_lst pa_nil) (pa_cons (pe_lst pa_nil) (pa_cons (pv 1) pa_nil))))))), ?_⟩
    have hrs9 := hx _ _ G.rst nb_lst
    have ht9 := sqt_N hx G.r0
    have hM9 := sqt_N hx G.mem
    have sl7 : ∀ {i : Nat} {σ : L2.St} {H' : Hp}, σ[i]? = some (some (.ref rs)) → H' rs = some (.lst (List.replicate 41 (.ref t0))) → EvL (tSl (rSlL K) (tVar i) tNoPart (tPart (tC (.int 7)))) σ H' (List.replicate 7 (.ref t0)) := fun {i σ H'} h1 h2 =>
      ev_slL (lo := none) (hi := some ((7 : Nat) : Int)) (ev_var h1) eo_none (eo_some ev_c) (SqL.of h2) (by rw [cutV_to, List.take_replicate]; rfl)
    refine ⟨_, rfl, sl7 rfl hrs9 H9 (Ex.refl _) _ fun p1 HA nA eA hp1 => ep_nil (K := K) HA (ExtN.refl _) _ fun p2 u2 HB eB hp2 hr2 => ⟨by show 0 ≤ sizeLine; decide, fun o1 no1 => ⟨by show 0 ≤ sizeLine; decide, fun o2 no2 => ⟨_, rfl, ?_⟩⟩⟩⟩
    have y := (eA.trans eB).trans ((Ex.new (o := .lst []) no1).trans (Ex.new (o := .lst []) no2))
    have yB := (Ex.new (o := .lst []) no1).trans (Ex.new (o := .lst []) no2)
    refine ⟨m, p1, p2, o1, o2, od, ls, os, _, u2, RR 7, [], .mem, rfl, ex_t y hM9, by omega, ex_l (eB.trans yB) (SqL.of hp1), rvs_RR (ex_t y ht9) 7, by rw [RR_len]; decide, RR_ok, ex_l yB hp2, hr2.mono yB, by decide, no, ex_t y (sqt_N hx G.odd), by omega, ?_, (hE.back y).some⟩
    unfold refExplained refPP refP
    rw [rm, good_RR (by decide), good_nil, if_pos (Or.inl bad)]
    rfl) fun H11 G => ?_
  refine app_k G rfl (by simp) (vs := [.ref m, .ref rs]) (r := .many) rfl rfl (fun F f' A outer s H9 Q E eq es hr hx hE => by
    obtain ⟨_, _, _, _, _, _, _⟩ := F
    cases eq
    cases es
    refine ⟨_, (pe_dnS D_explained hr (by omega) (fun σ => passAt (takes_of rfl rfl rfl rfl) σ) (pa_cons (pv 0) (pa_cons (pe_lst pa_nil) (pa_cons (pe_slice sl_list (pv 1) po_none (po_some pe_int)) (pa_cons (pe_lst pa_nil) (pa_cons (pe_lst pa_nil) (pa_cons (pv 0) pa_nil))))))), ?_⟩
    have hrs9 := hx _ _ G.rst nb_lst
    have ht9 := sqt_N hx G.r0
    have hM9 := sqt_N hx G.mem
    have sl7 : ∀ {i : Nat} {σ : L2.St} {H' : Hp}, σ[i]? = some (some (.ref rs)) → H' rs = some (.lst (List.replicate 41 (.ref t0))) → EvL (tSl (rSlL K) (tVar i) tNoPart (tPart (tC (.int 7)))) σ H' (List.replicate 7 (.ref t0)) := fun {i σ H'} h1 h2 =>
      ev_slL (lo := none) (hi := some ((7 : Nat) : Int)) (ev_var h1) eo_none (eo_some ev_c) (SqL.of h2) (by rw [cutV_to, List.take_replicate]; rfl)
    refine ⟨_, rfl, ep_nil (K := K) H9 (ExtN.refl _) _ fun p2 u2 HA eA hp2 hr2 => sl7 rfl (eA _ _ hrs9) HA (Ex.refl _) _ fun p1 HB nB eB hp1 => ⟨by show 0 ≤ sizeLine; decide, fun o1 no1 => ⟨by show 0 ≤ sizeLine; decide, fun o2 no2 => ⟨_, rfl, ?_⟩⟩⟩⟩
    have y := (eA.trans eB).trans ((Ex.new (o := .lst []) no1).trans (Ex.new (o := .lst []) no2))
    have yB := (Ex.new (o := .lst []) no1).trans (Ex.new (o := .lst []) no2)
    refine ⟨m, p2, p1, o1, o2, m, ls, ls, u2, _, [], RR 7, .many, rfl, ex_t y hM9, by omega, ex_l (eB.trans yB) hp2, hr2.mono (eB.trans yB), by decide, no, ex_l yB (SqL.of hp1), rvs_RR (ex_t y ht9) 7, by rw [RR_len]; decide, RR_ok, ex_t y hM9, by omega, ?_, (hE.back y).some⟩
    have lst : ¬ (memBad ls = true ∨ ls.length ≠ ls.length) := by
      rintro (z | z)
      · rw [mb] at z; cases z
      · exact z rfl
    unfold refExplained refPP refP refFew
    rw [rm, good_RR (by decide), good_nil, if_neg lst, if_neg (by rw [RR_len]; decide)]
    rfl) fun H12 G => ?_
  refine app_k G rfl (by simp) (vs := [.ref m, .ref ot]) (r := .mem) rfl rfl (fun F f' A outer s H9 Q E eq es hr hx hE => by
    obtain ⟨_, _, _, _, _, _, _⟩ := F
    cases eq
    cases es
    refine ⟨_, (pe_dnS D_explained hr (by omega) (fun σ => passAt (takes_of rfl rfl rfl rfl) σ) (pa_cons (pv 0) (pa_cons (pe_lst pa_nil) (pa_cons (pe_lst pa_nil) (pa_cons (pe_lst pa_nil) (pa_cons (pe_lst pa_nil) (pa_cons (pv 1) pa_nil))))))), ?_⟩
    have hrs9 := hx _ _ G.rst nb_lst
    have ht9 := sqt_N hx G.r0
    have hM9 := sqt_N hx G.mem
    have sl7 : ∀ {i : Nat} {σ : L2.St} {H' : Hp}, σ[i]? = some (some (.ref rs)) → H' rs = some (.lst (List.replicate 41 (.ref t0))) → EvL (tSl (rSlL K) (tVar i) tNoPart (tPart (tC (.int 7)))) σ H' (List.replicate 7 (.ref t0)) := fun {i σ H'} h1 h2 =>
      ev_slL (lo := none) (hi := some ((7 : Nat) : Int)) (ev_var h1) eo_none (eo_some ev_c) (SqL.of h2) (by rw [cutV_to, List.take_replicate]; rfl)
    refine ⟨_, rfl, ep_nil (K := K) H9 (ExtN.refl _) _ fun p2 u2 HA eA hp2 hr2 => ep_nil (K := K) HA (ExtN.refl _) _ fun p1 u1 HB eB hp1 hr1 => ⟨by show 0 ≤ sizeLine; decide, fun o1 no1 => ⟨by show 0 ≤ sizeLine; decide, fun o2 no2 => ⟨_, rfl, ?_⟩⟩⟩⟩
    have y := (eA.trans eB).trans ((Ex.new (o := .lst []) no1).trans (Ex.new (o := .lst []) no2))
    have yB := (Ex.new (o := .lst []) no1).trans (Ex.new (o := .lst []) no2)
    refine ⟨m, p2, p1, o1, o2, ot, ls, ts, u2, u1, [], [], .mem, rfl, ex_t y hM9, by omega, ex_l (eB.trans yB) hp2, hr2.mono (eB.trans yB), by decide, no, ex_l yB hp1, hr1.mono yB, by decide, no, ex_t y (sqt_N hx G.oth), by omega, ?_, (hE.back y).some⟩
    unfold refExplained refPP refP
    rw [rm, good_nil, if_pos (Or.inr tl.1)]
    rfl) fun H13 G => ?_
  refine app_k G rfl (by simp) (vs := [.ref m, .ref rs]) (r := .many) rfl rfl (fun F f' A outer s H9 Q E eq es hr hx hE => by
    obtain ⟨_, _, _, _, _, _, _⟩ := F
    cases eq
    cases es
    refine ⟨_, (pe_dnS D_outcomes hr (by omega) (fun σ => passAt (takes_of rfl rfl rfl rfl) σ) (pa_cons (pv 0) (pa_cons (pe_slice sl_list (pv 1) po_none (po_some pe_int)) (pa_cons (pe_lst pa_nil) pa_nil)))), ?_⟩
    have hrs9 := hx _ _ G.rst nb_lst
    have ht9 := sqt_N hx G.r0
    have hM9 := sqt_N hx G.mem
    have sl7 : ∀ {i : Nat} {σ : L2.St} {H' : Hp}, σ[i]? = some (some (.ref rs)) → H' rs = some (.lst (List.replicate 41 (.ref t0))) → EvL (tSl (rSlL K) (tVar i) tNoPart (tPart (tC (.int 7)))) σ H' (List.replicate 7 (.ref t0)) := fun {i σ H'} h1 h2 =>
      ev_slL (lo := none) (hi := some ((7 : Nat) : Int)) (ev_var h1) eo_none (eo_some ev_c) (SqL.of h2) (by rw [cutV_to, List.take_replicate]; rfl)
    refine ⟨_, rfl, sl7 rfl hrs9 H9 (Ex.refl _) _ fun p1 HA nA eA hp1 => ep_nil (K := K) HA (ExtN.refl _) _ fun p2 u2 HB eB hp2 hr2 => ?_⟩
    have y := eA.trans eB
    refine ⟨m, p1, p2, ls, _, u2, RR 7, [], .many, rfl, ex_t y hM9, by omega, ex_l eB (SqL.of hp1), rvs_RR (ex_t y ht9) 7, by rw [RR_len]; decide, RR_ok, hp2, hr2, by decide, no, ?_, (hE.back y).some⟩
    unfold refOutcomes refPP refP refFew
    rw [rm, good_RR (by decide), good_nil, if_neg (by rw [RR_len]; decide)]
    rfl) fun H14 G => ?_
  -- with an odd memory, all
  refine q_whenX (R := fun H' => Gat K TT m od ot rs t0 ls os ts H H' wl [.str "BadMemory", .str "BadRule", .str "BadMemory", .str "TooMany", .str "BadMemory", .str "TooMany"]) (fun Q q => ?_) (fun H15 G => ?_)
  · have g2 : Sm os [none] [] .mem := ⟨by omega, by decide, by decide, ok1, no, by unfold refM; rw [if_pos bad]; rfl⟩
    exact em_are (em_small (em_var rfl G.odd) ep_unit ep_nil g2) (by decide) (fun _ => ed_ev ev_c (.str _)) (fun a b e => nomatch e) H14 (ExtN.refl H14) G.tab _ fun H' e' t' => ⟨true, rfl, q H' (G.next e' t')⟩
  -- the words that are wanted
  have e6 : ∀ {H' : Hp} {p : Addr}, SqL K H' p [.str "BadMemory", .str "BadRule", .str "BadMemory", .str "TooMany", .str "BadMemory", .str "TooMany"] → Dp K H' (.ref p) (.list [.str "BadMemory", .str "BadRule", .str "BadMemory", .str "TooMany", .str "BadMemory", .str "TooMany"]) := fun {H' p} h =>
    .lst h (.cons (.str _) (.cons (.str _) (.cons (.str _) (.cons (.str _) (.cons (.str _) (.cons (.str _) .nil))))))
  have sh6 : Sh 2 (.list [.str "BadMemory", .str "BadRule", .str "BadMemory", .str "TooMany", .str "BadMemory", .str "TooMany"]) := sh_lst fun x hx => by
    simp only [List.mem_cons, List.not_mem_nil, or_false] at hx
    rcases hx with rfl | rfl | rfl | rfl | rfl | rfl <;> exact sh_str (by decide +kernel)
  have ee : PyData.eqv (.list [.str "BadMemory", .str "BadRule", .str "BadMemory", .str "TooMany", .str "BadMemory", .str "TooMany"]) (.list [.str "BadMemory", .str "BadRule", .str "BadMemory", .str "TooMany", .str "BadMemory", .str "TooMany"]) = true := by decide +kernel
  refine s_ret (v := .bl true) (ev_is (ev_opL (xs := [.str "BadMemory", .str "BadRule", .str "BadMemory", .str "TooMany", .str "BadMemory", .str "TooMany"]) (ev_var (v := .ref wl) rfl) (el_lst (ea_cons ev_c (ea_cons ev_c (ea_cons ev_c (ea_cons ev_c (ea_cons ev_c (ea_cons ev_c ea_nil)))))) (by simp)) fun p H16 hp f16 => rv_eqD (n := 2) (m := 2) (e6 (SqL.of (f16 _ _ G.wd))) (e6 (SqL.of hp)) sh6 sh6 (by decide) (by decide)) (by rw [ee])) fun H16 f16 => ?_
  exact k H16 (G.ext.trans (ExtN.of f16)) (tabs_ex f16 G.tab)

open LamX
theorem refM_good {ws : List Nat} (h1 : 1 ≤ ws.length) (h4 : ws.length ≤ 4) (h : ∀ x ∈ ws, x < 3) : refM (ws.map fun n : Nat => (n : Int)) = none := by
  unfold refM
  rw [memBad_no (by rw [List.length_map]; exact ⟨h1, h4⟩) (fun i hi => by
    obtain ⟨n, hn, rfl⟩ := List.mem_map.mp hi
    have := h n hn
    omega), if_neg Bool.false_ne_true]
/-- what stands at a turn -/
structure Tn (K : PySem.W.Frag) (TT : List (Addr × Str)) (h l m p q : Addr) (ls : List Int) (us xs : List V) (ds es : List Deed) (H : Hp) : Prop where
  dr : Draw H h l
  tab : Tabs TT H
  mem : SqT K H m (ls.map V.int)
  hp : H p = some (.lst us)
  hP : PV K H us ds
  hq : H q = some (.lst xs)
  hX : PV K H xs es
  np : ¬ p ∈ [h, l]
  nq : ¬ q ∈ [h, l]
section
variable {TT : List (Addr × Str)} {h l m p q : Addr} {ls : List Int} {us xs : List V} {ds es : List Deed} {H H' : Hp}
theorem Tn.next (t : Tn K TT h l m p q ls us xs ds es H) (e : ExtN H H') (T : Tabs TT H') : Tn K TT h l m p q ls us xs ds es H' := ⟨draw_N e t.dr, T, sqt_N e t.mem, e _ _ t.hp nb_lst, pv_N e t.hP, e _ _ t.hq nb_lst, pv_N e t.hX, t.np, t.nq⟩
theorem Tn.draw (t : Tn K TT h l m p q ls us xs ds es H) (D : Drew H H' h l) : Tn K TT h l m p q ls us xs ds es H' := ⟨D.dr, t.dr.tabs D.bt t.tab, t.dr.t D.bt t.mem, D.bt _ _ t.np t.hp, t.dr.pv D.bt t.hP, D.bt _ _ t.nq t.hq, t.dr.pv D.bt t.hX, t.np, t.nq⟩
end
theorem good_of {n k m : Nat} {ds : List Deed} (h1 : ds.length ≤ m) (h : ∀ d ∈ ds, d.ok n) (h2 : n ≤ k) : firstBad k m (ds.map Deed.raw) = none := firstBad_good h1 fun d hd => (h d hd).mono h2
def sp_law (K : PySem.W.Frag) (TT : List (Addr × Str)) : Sp := fun vs H Q _ => ∃ (a : Addr) (ns : List Int), vs = [.ref a] ∧ SqL K H a (ns.map V.int) ∧ ns.length ≤ 63 ∧ Tabs TT H ∧ ∀ H', Q (.bl true) H'
theorem d_law {Z : Cls} {TT : List (Addr × Str)} (T : Nb mg) (D_law_mix : Dn P w K mg base CX0 "_law_mix" ["_law_script", "_law_seed"] 1 (sp_law_mix K)) (D_law_next : Dn P w K mg base CX0 "_law_next" ["_law_h", "_law_many"] 1 sp_law_next) (D_law_memory : Dn P w K mg base CX0 "_law_memory" ["_law_h", "_law_cells"] 2 (sp_law_memory K))
    (D_law_program : Dn P w K mg base CX0 "_law_program" ["_law_h", "_law_cells", "_law_most"] 3 (sp_law_program K)) (D_law_bad : Dn P w K mg base CX0 "_law_bad" ["_law_h", "_law_cells", "_law_program_here"] 3 (sp_law_bad K)) (D_law_are : Dn P w K mg base CX0 "_law_are" ["_law_works", "_law_word"] 10 (sp_law_are P w K mg base Z 8)) (D_law_small : Dn P w K mg base CX0 "_law_small" ["_law_memory_here", "_law_left", "_law_right"] 9 (sp_law_small P w K mg base Z 8 TT)) (D_law_large : Dn P w K mg base CX0 "_law_large" ["_law_left", "_law_right"] 9 (sp_law_large P w K mg base Z 8 TT))
    (D_law_counts_right : Dn P w K mg base CX0 "_law_counts_right" ["_law_memory_here", "_law_far"] 11 (sp_law_counts_right K TT)) (D_law_orders_right : Dn P w K mg base CX0 "_law_orders_right" ["_law_h", "_law_memory_here", "_law_left", "_law_right"] 10 (sp_law_orders_right K TT)) {f : Addr} {fd : FuncData} (F : Fun K "law" "law" s_law f fd) : FnOk P w K mg base CX0 12 f fd ["_law_script"] (sp_law K TT) := by
  refine F.ok sc_law (fun vs H Q E h => ?_) (fun cdv A outer s H vs Q E hr h => ?_)
  · obtain ⟨_, _, rfl, _⟩ := h
    rfl
  obtain ⟨a, ns, rfl, hS, hn, hT, k⟩ := h
  refine ⟨_, (pss_cons (ps_set (i := 1) sc_law.nd rfl (Or.inl rfl) (pe_dn D_law_mix hr (by omega) pass0 (pa_cons (pv 0) (pa_cons pe_int pa_nil))))
    (pss_cons (ps_for PassesOwn.never rfl (pi_range1 rfl T.n_range (pa_cons pe_int pa_nil)) (pg_name (i := 2) sc_law.nd rfl (Or.inl rfl))
      (pss_cons (ps_set (i := 3) sc_law.nd rfl (Or.inl rfl) (pe_op op_add pe_int (pe_dn D_law_next hr (by omega) pass0 (pa_cons (pv 1) (pa_cons pe_int pa_nil)))))
      (pss_cons (ps_set (i := 4) sc_law.nd rfl (Or.inl rfl) (pe_dn D_law_memory hr (by omega) pass0 (pa_cons (pv 1) (pa_cons (pv 3) pa_nil))))
      (pss_cons (ps_par (i := 5) (j := 6) rfl sc_law.nd rfl rfl (by decide) rfl rfl (pa_cons (pe_dn D_law_program hr (by omega) pass0 (pa_cons (pv 1) (pa_cons (pv 3) (pa_cons pe_int pa_nil)))) (pa_cons (pe_dn D_law_program hr (by omega) pass0 (pa_cons (pv 1) (pa_cons (pv 3) (pa_cons pe_int pa_nil)))) pa_nil)) rfl)
      (pss_cons (ps_asg (pe_dn D_law_bad hr (by omega) pass0 (pa_cons (pv 1) (pa_cons (pv 3) (pa_cons (pv 5) pa_nil)))) (pg_tup rfl (pgs_cons (pg_name (i := 7) sc_law.nd rfl (Or.inl rfl)) (pgs_cons (pg_name (i := 8) sc_law.nd rfl (Or.inl rfl)) pgs_nil))))
      (pss_cons (ps_if (pt_not (pt_val (pe_dn D_law_are hr (by omega) pass0 (pa_cons (pe_dn D_law_small hr (by omega) pass0 (pa_cons (pv 4) (pa_cons (pv 7) (pa_cons (pe_lst (pa_cons (pe_tup pa_nil) pa_nil)) pa_nil)))) (pa_cons (pe_tup (pa_cons pe_str (pa_cons pe_int (pa_cons (pv 8) pa_nil)))) pa_nil))))) (pss_one (ps_ret pe_bl)) pss_nil)
      (pss_cons (ps_if (pt_not (pt_val (pe_dn D_law_are hr (by omega) pass0 (pa_cons (pe_dn D_law_small hr (by omega) pass0 (pa_cons (pv 4) (pa_cons (pv 6) (pa_cons (pv 7) pa_nil)))) (pa_cons (pe_tup (pa_cons pe_str (pa_cons pe_int (pa_cons (pv 8) pa_nil)))) pa_nil))))) (pss_one (ps_ret pe_bl)) pss_nil)
      (pss_cons (ps_asg (pe_dn D_law_bad hr (by omega) pass0 (pa_cons (pv 1) (pa_cons pe_int (pa_cons (pv 5) pa_nil)))) (pg_tup rfl (pgs_cons (pg_name (i := 7) sc_law.nd rfl (Or.inl rfl)) (pgs_cons (pg_name (i := 8) sc_law.nd rfl (Or.inl rfl)) pgs_nil))))
      (pss_cons (ps_if (pt_not (pt_val (pe_dn D_law_are hr (by omega) pass0 (pa_cons (pe_dn D_law_large hr (by omega) pass0 (pa_cons (pv 7) (pa_cons (pe_lst (pa_cons (pe_tup pa_nil) pa_nil)) pa_nil))) (pa_cons (pe_tup (pa_cons pe_str (pa_cons pe_int (pa_cons (pv 8) pa_nil)))) pa_nil))))) (pss_one (ps_ret pe_bl)) pss_nil)
      (pss_cons (ps_if (pt_not (pt_val (pe_dn D_law_are hr (by omega) pass0 (pa_cons (pe_dn D_law_large hr (by omega) pass0 (pa_cons (pv 6) (pa_cons (pv 7) pa_nil))) (pa_cons (pe_tup (pa_cons pe_str (pa_cons pe_int (pa_cons (pv 8) pa_nil)))) pa_nil))))) (pss_one (ps_ret pe_bl)) pss_nil)
      (pss_one (ps_if (PW.pt (pw_or (pt_not (pt_val (pe_dn D_law_counts_right hr (by omega) pass0 (pa_cons (pv 4) (pa_cons (pe_dn D_law_next hr (by omega) pass0 (pa_cons (pv 1) (pa_cons (pe_op op_pow pe_int pe_int) pa_nil))) pa_nil))))) (pw_or1 (pt_not (pt_val (pe_dn D_law_orders_right hr (by omega) pass0 (pa_cons (pv 1) (pa_cons (pv 4) (pa_cons (pv 5) (pa_cons (pv 6) pa_nil)))))))))) (pss_one (ps_ret pe_bl)) pss_nil))))))))))))
    (pss_one (ps_ret pe_bl)))), ?_⟩
  refine ⟨_, rfl, a, 3, ns, rfl, hS, hn, fun h l H1 f1 D1 => ?_⟩
  refine gn ?_
  dsimp only
  refine q_forR1 (n := 4) (by walk_at "ea") (by decide) (fun _ σ' H' => ∃ v2 v3 v4 v5 v6 v7 v8 : Option V, σ' = [some (.ref a), some (.ref h), v2, v3, v4, v5, v6, v7, v8] ∧ Draw H' h l ∧ Tabs TT H')
    (fun H2 f2 => ⟨none, none, none, none, none, none, none, rfl, D1.mono f2, tabs_ex (f1.trans f2) hT⟩) ?_ (fun σ' H' _ => k _)
  rintro i σ' H2 hi ⟨v2, v3, v4, v5, v6, v7, v8, rfl, D2, T2⟩
  clear D1 f1 H1
  -- so many cells, a memory, two programs
  refine ⟨_, rfl, h, l, 4, rfl, D2, by decide, by decide, fun r H3 r0 r1 D3 => ⟨_, _, rfl, rfl, ?_⟩⟩
  obtain ⟨c, hc⟩ : ∃ c : Nat, 1 + r = (c : Int) := ⟨(1 + r).toNat, by omega⟩
  have T3 := D2.tabs D3.bt T2
  refine gn ?_
  dsimp only
  rw [hc]
  refine ⟨_, rfl, _, rfl, h, l, c, rfl, D3.dr, by omega, fun mm ws H4 nm hm lw w3 D4 => ?_⟩
  have T4 := D3.dr.tabs D4.bt T3
  refine gn ?_
  dsimp only
  refine ⟨_, rfl, _, rfl, h, l, c, 9, rfl, D4.dr, by omega, by omega, by decide, fun p us ds H5 np hp hP hl hok D5 => ⟨_, rfl, _, rfl, h, l, c, 9, rfl, D5.dr, by omega, by omega, by decide, fun q xs es H6 nq hq hX hr9 hok2 D6 => ⟨_, _, rfl, ?_⟩⟩⟩
  have rm := refM_good (by omega) (by omega) w3
  have em : ws.map wV = (ws.map fun n : Nat => (n : Int)).map V.int := by rw [List.map_map]; rfl
  have ll : (ws.map fun n : Nat => (n : Int)).length = c := by rw [List.length_map, lw]
  rw [em] at hm
  generalize (ws.map fun n : Nat => (n : Int)) = ls at rm hm ll
  have t6 : Tn K TT h l mm p q ls us xs ds es H6 := ⟨D6.dr, D5.dr.tabs D6.bt (D4.dr.tabs D5.bt T4), D5.dr.t D6.bt (D4.dr.t D5.bt (SqT.of hm)), D6.bt _ _ (D4.dr.out np) hp, D5.dr.pv D6.bt hP, hq, hX, D4.dr.out np, D5.dr.out nq⟩
  clear D2 D3 D4 D5 D6 T2 T3 T4 hp hP hq hX hm em
  dsimp only
  -- a program that can't be
  refine ⟨_, rfl, _, rfl, _, rfl, h, l, p, c, us, ds, rfl, t6.dr, t6.np, t6.hp, t6.hP, hl, hok, fun t b a9 ys ys' H7 ⟨ht, hb, hR, lr, okR, la, fb⟩ nb D7 => ⟨t, _, rfl, SqT.of ht, rfl, _, _, rfl, _, _, rfl, rfl, ?_⟩⟩
  have t7 := t6.draw D7
  clear t6
  dsimp only
  have ok1 : ∀ d ∈ ([none] : List Raw), d.ok := fun d hd => by
    rw [List.mem_singleton.mp hd]
    exact True.intro
  refine q_whenX (R := fun H' => ExtN H7 H' ∧ Tabs TT H') (fun Q q => ?_) (fun H8 ⟨e8, T8⟩ => ?_)
  · have g : Sm ls ys' [none] (.prog 0 a9) := ⟨by omega, by omega, by decide, okR, ok1, by unfold refPP refP; rw [rm, ll, fb 40 (by decide)]; rfl⟩
    exact em_are (em_small (em_var rfl t7.mem) (ep_var rfl (SqL.of hb) hR) ep_unit g) (by decide) (ed_prog (d := 0) (p := a9) (fun _ => ev_c) (fun _ => ev_var rfl)) (fun a b e => by cases e; exact ⟨by decide, by omega⟩) H7 (ExtN.refl H7) t7.tab _ fun H' e' t' => ⟨true, rfl, q H' ⟨e', t'⟩⟩
  have t8 := t7.next e8 T8
  have hb8 := e8 _ _ hb nb_lst
  have hR8 := rvs_N e8 hR
  refine q_whenX (R := fun H' => ExtN H8 H' ∧ Tabs TT H') (fun Q q => ?_) (fun H9 ⟨e9, T9⟩ => ?_)
  · have g : Sm ls (es.map Deed.raw) ys' (.prog 1 a9) := ⟨by omega, by rw [List.length_map]; omega, by omega, raws_ok, okR, by unfold refPP refP; rw [rm, ll, good_of (by omega) hok2 (Nat.le_refl _), fb 40 (by decide)]; rfl⟩
    exact em_are (em_small (em_var rfl t8.mem) (ep_var rfl (SqL.of t8.hq) t8.hX.raw) (ep_var rfl (SqL.of hb8) hR8) g) (by decide) (ed_prog (d := 1) (p := a9) (fun _ => ev_c) (fun _ => ev_var rfl)) (fun a b e => by cases e; exact ⟨by decide, by omega⟩) H8 (ExtN.refl H8) t8.tab _ fun H' e' t' => ⟨true, rfl, q H' ⟨e', t'⟩⟩
  have t9 := t8.next e9 T9
  clear t7 t8 hb hR hb8 hR8 ht lr okR fb nb D7
  -- another one, of four cells
  refine ⟨_, rfl, _, rfl, h, l, p, 4, us, ds, rfl, t9.dr, t9.np, t9.hp, t9.hP, hl, (fun d hd => (hok d hd).mono (by omega)), fun t b b9 ys zs H10 ⟨ht, hb, hR, lr, okR, lb, fb⟩ nb D10 => ⟨t, _, rfl, SqT.of ht, rfl, _, _, rfl, _, _, rfl, rfl, ?_⟩⟩
  have t10 := t9.draw D10
  clear t9
  dsimp only
  refine q_whenX (R := fun H' => ExtN H10 H' ∧ Tabs TT H') (fun Q q => ?_) (fun H11 ⟨e11, T11⟩ => ?_)
  · have g : Lg zs [none] (some (.prog 0 b9)) (.prog 0 b9) := ⟨by omega, by decide, okR, ok1, by unfold refPP refP; rw [show (4 : Int) = ((4 : Nat) : Int) from rfl, fb 40 (by decide)]; rfl, by unfold refPP refP; rw [show (4 : Int) = ((4 : Nat) : Int) from rfl, fb 20 (by decide)]; rfl, fun z => nomatch z⟩
    exact em_are (em_large5 (ep_var rfl (SqL.of hb) hR) ep_unit g) (by decide) (ed_prog (d := 0) (p := b9) (fun _ => ev_c) (fun _ => ev_var rfl)) (fun a b e => by cases e; exact ⟨by decide, by omega⟩) H10 (ExtN.refl H10) t10.tab _ fun H' e' t' => ⟨true, rfl, q H' ⟨e', t'⟩⟩
  have t11 := t10.next e11 T11
  have hb11 := e11 _ _ hb nb_lst
  have hR11 := rvs_N e11 hR
  refine q_whenX (R := fun H' => ExtN H11 H' ∧ Tabs TT H') (fun Q q => ?_) (fun H12 ⟨e12, T12⟩ => ?_)
  · have g : Lg (es.map Deed.raw) zs (some (.prog 1 b9)) (.prog 1 b9) := ⟨by rw [List.length_map]; omega, by omega, raws_ok, okR, by unfold refPP refP; rw [show (4 : Int) = ((4 : Nat) : Int) from rfl, good_of (by omega) hok2 (by omega), fb 40 (by decide)]; rfl, by unfold refPP refP; rw [show (4 : Int) = ((4 : Nat) : Int) from rfl, good_of (by omega) hok2 (by omega), fb 20 (by decide)]; rfl, fun z => nomatch z⟩
    exact em_are (em_large5 (ep_var rfl (SqL.of t11.hq) t11.hX.raw) (ep_var rfl (SqL.of hb11) hR11) g) (by decide) (ed_prog (d := 1) (p := b9) (fun _ => ev_c) (fun _ => ev_var rfl)) (fun a b e => by cases e; exact ⟨by decide, by omega⟩) H11 (ExtN.refl H11) t11.tab _ fun H' e' t' => ⟨true, rfl, q H' ⟨e', t'⟩⟩
  have t12 := t11.next e12 T12
  clear t10 t11 hb hR hb11 hR11 ht lr okR fb nb D10
  -- counts, orders
  refine s_whenX (R := fun H' => Draw H' h l ∧ Tabs TT H') (fun Q z => ?_) fun H13 ⟨D13, T13⟩ => ⟨_, _, _, _, _, _, _, rfl, D13, T13⟩
  refine ⟨_, rfl, _, rfl, (ea_cons (x := .int ((10 : Int) ^ (6 : Int).toNat)) (by walk_at "ev") ea_nil) _ (Ex.refl _) _ fun H13 f13 => ⟨h, l, _, rfl, t12.dr.mono f13, by decide, by decide, fun x H14 x0 x1 D14 => ?_⟩⟩
  obtain ⟨x, rfl⟩ : ∃ j : Nat, x = (j : Int) := ⟨x.toNat, by omega⟩
  have t14 := (t12.next (ExtN.of f13) (tabs_ex f13 t12.tab)).draw D14
  refine ⟨mm, x, ls, rfl, t14.tab, t14.mem, by omega, by omega, rm, fun H15 e15 T15 => ⟨true, rfl, iteF ?_⟩⟩
  have t15 := t14.next e15 T15
  refine ⟨_, rfl, _, rfl, _, rfl, _, rfl, h, l, mm, p, q, ls, us, xs, ds.map Deed.raw, es.map Deed.raw, rfl, t15.tab, t15.dr, t15.np, t15.nq, t15.mem, by omega, t15.hp, t15.hP.raw, by rw [List.length_map]; omega, raws_ok, t15.hq, t15.hX.raw, by rw [List.length_map]; omega, raws_ok, rm, ?_, fun H16 D16 T16 => ⟨true, rfl, z H16 ⟨D16, T16⟩⟩⟩
  unfold refPP refP
  rw [ll, good_of (by omega) hok (Nat.le_refl _), good_of (by omega) hok2 (Nat.le_refl _)]
  rfl

/-- a code object and its table, empty, not among the objects that stay -/
structure TbK (K : PySem.W.Frag) (h : Heap) (cc P : Addr) : Prop where
  hd : PySem.W.codeHdIn K cc P = true
  out : K.lookup P = none
  emp : h.get? P = some { cls := .none, data := .fields #[] }
theorem tbK_mk {K : PySem.W.Frag} {h : Heap} {cc P : Addr} {d : Option Addr} {vs : Array Value} {n : Value} {sl : Array (Option Value)} (l : K.lookup cc = some ⟨n, d, .fields vs, sl⟩) (h11 : (vs[11]? : Option Value) = some (.ref P)) (hd : PySem.W.codeHdIn K cc P = true) (out : K.lookup P = none) (emp : h.get? P = some { cls := .none, data := .fields #[] }) : TbK K h cc P := ⟨hd, out, emp⟩
theorem hasC_mk {K : PySem.W.Frag} {h : Heap} {mg : Str → Option Value} {x : Str} {st : Stmt} {f cc : Addr} {oc : Value} {od an : Option Addr} {osl : Array (Option Value)} {kV doc pm ct : Value} (X : K.In h) (G : h.Ns mainGlobals mg)
    (a : PySem.W.nsIn K mainGlobals x = some (some (.ref f)))
    (l : K.lookup f = some ⟨oc, od, .func (PySem.W.fnOf x x (defArgs st) (defBody st) (defScope st) .none kV doc pm an (.ref cc) ct), osl⟩)
    (c : PySem.W.codeIn K (.ref cc) x = true) (k : PySem.W.keepIn K (.ref f) = true) : HasC K mg x st cc := ⟨f, _, fun_mk l c k, PySem.W.mg_of X G a, rfl⟩
theorem plnX_mk {K : PySem.W.Frag} {mg : Str → Option Value} {x : Str} {C : Addr} (g : mg x = some (.ref C)) (q : PySem.W.excIn K C [.type "ValueError", .type "Exception", .type "BaseException", .type "object"] "ValueError.__new__" = true) (kp : PySem.W.keepIn K (.ref C) = true) (sub : PySem.W.subIn K (.ref C) (.type "BaseException") = some true) (ty : PySem.W.typeIn K (.ref C) = some (.type "type")) : PlnX K mg x C := ⟨g, q, kp, sub, ty⟩
/-- C is, or is not, the class D -/
theorem knd1 {K : PySem.W.Frag} {C D : Addr} {b : Bool} (c : ClsI K D) (s : PySem.W.subIn K (.ref C) (.ref D) = some b) (n : b = false → (C == D) = false) : PySem.W.kitOne K (.ref C) (.ref D) = some b := by
  by_cases e : C = D
  · subst e
    cases b with
    | true => exact kit_self
    | false => simp at n
  · exact kit_isC c.c c.t s (by simpa using e)
theorem kndE_mk {K : PySem.W.Frag} {D m p r o t x C : Addr} {b1 b2 b3 b4 b5 : Bool} (te : PySem.W.exmOne K (.ref C) (.ref D) = some true) (ic : IsC K C) (c1 : ClsI K m) (c2 : ClsI K p) (c3 : ClsI K r) (c4 : ClsI K o) (c5 : ClsI K t) (c6 : ClsI K x)
    (s1 : PySem.W.subIn K (.ref C) (.ref m) = some b1) (s2 : PySem.W.subIn K (.ref C) (.ref p) = some b2) (s3 : PySem.W.subIn K (.ref C) (.ref r) = some b3) (s4 : PySem.W.subIn K (.ref C) (.ref o) = some b4) (s5 : PySem.W.subIn K (.ref C) (.ref t) = some b5) (s6 : PySem.W.subIn K (.ref C) (.ref x) = some false)
    (n1 : b1 = false → (C == m) = false) (n2 : b2 = false → (C == p) = false) (n3 : b3 = false → (C == r) = false) (n4 : b4 = false → (C == o) = false) (n5 : b5 = false → (C == t) = false) (n6 : (C == x) = false) (s7 : PySem.W.subIn K (.ref C) (.type "ValueError") = some true) : KndE K D m p r o t x C b1 b2 b3 b4 b5 :=
  ⟨te, ic, knd1 c1 s1 n1, knd1 c2 s2 n2, knd1 c3 s3 n3, knd1 c4 s4 n4, knd1 c5 s5 n5, knd1 c6 s6 fun _ => n6, kit_isT s7 (by decide +kernel)⟩
theorem all_mk {l : PySem.W.OpenLaw} {w : World} {K : PySem.W.Frag} {h : Heap} {mg : Str → Option Value} {fa f fi : Addr} {aR aW aRU aST a1 a2 a3 a4 a5 a6 a7 c1 c2 c3 c4 p1 p2 p3 p4 : Addr} {t4 t40 t1 t2 t20 t6 : Tok} {od an od2 an2 : Option Addr} {sl sl2 : Array (Option Value)} {oc kV dc pm cd ct oc2 kV2 dc2 pm2 cd2 ct2 : Value}
    (X : K.In h) (G : h.Ns mainGlobals mg) (hfa : mg "law" = some (.ref fa)) (T : Nb mg) (TP : TxP K mg aR aW t4 t40) (TR : TxR K mg w aRU aST) (TO : TxO mg t1 t2) (TF : TxF mg t20) (O6 : TxO6 mg t6) (Z : ClsG K mg a1 a2 a3 a4 a5 a6 a7)
    (B : mg "DoorError" = some (.ref a1) → BaseX K mg a1) (OX : mg "BadProgram" = some (.ref a4) → OwnX K mg "BadProgram" a4 a1 fi "door" "place") (V1 : mg "BadMemory" = some (.ref a2) → PlnX K mg "BadMemory" a2) (V2 : mg "BadRule" = some (.ref a5) → PlnX K mg "BadRule" a5) (V3 : mg "BadOrder" = some (.ref a3) → PlnX K mg "BadOrder" a3) (V4 : mg "TooMany" = some (.ref a6) → PlnX K mg "TooMany" a6)
    (C2 : ClsI K a2) (C3 : ClsI K a3) (C4 : ClsI K a4) (C5 : ClsI K a5) (C6 : ClsI K a6) (C7 : ClsI K a7)
    (Y1 : ClsI K a2 → ClsI K a3 → ClsI K a4 → ClsI K a5 → ClsI K a6 → ClsI K a7 → KndE K a1 a2 a4 a5 a3 a6 a7 a2 true false false false false) (Y2 : ClsI K a2 → ClsI K a3 → ClsI K a4 → ClsI K a5 → ClsI K a6 → ClsI K a7 → KndE K a1 a2 a4 a5 a3 a6 a7 a4 false true false false false) (Y3 : ClsI K a2 → ClsI K a3 → ClsI K a4 → ClsI K a5 → ClsI K a6 → ClsI K a7 → KndE K a1 a2 a4 a5 a3 a6 a7 a5 false false true false false)
    (Y4 : ClsI K a2 → ClsI K a3 → ClsI K a4 → ClsI K a5 → ClsI K a6 → ClsI K a7 → KndE K a1 a2 a4 a5 a3 a6 a7 a3 false false false true false) (Y5 : ClsI K a2 → ClsI K a3 → ClsI K a4 → ClsI K a5 → ClsI K a6 → ClsI K a7 → KndE K a1 a2 a4 a5 a3 a6 a7 a6 false false false false true)
    (lI : K.lookup fi = some ⟨oc2, od2, .func (PySem.W.fnOf "__init__" "BadProgram.__init__" (defArgs s_BadProgram_init) (defBody s_BadProgram_init) (defScope s_BadProgram_init) .none kV2 dc2 pm2 an2 cd2 ct2), sl2⟩) (cI : PySem.W.codeIn K cd2 "BadProgram.__init__" = true) (kI : PySem.W.keepIn K (.ref fi) = true)
    (aL : PySem.W.nsIn K mainGlobals "law" = some (some (.ref f))) (lL : K.lookup f = some ⟨oc, od, .func (PySem.W.fnOf "law" "law" (defArgs s_law) (defBody s_law) (defScope s_law) .none kV dc pm an cd ct), sl⟩) (cL : PySem.W.codeIn K cd "law" = true) (kL : PySem.W.keepIn K (.ref f) = true)
    (h_is_whole : Has K mg "is_whole" s_is_whole) (h_is_cell : Has K mg "is_cell" s_is_cell) (h_is_worth : Has K mg "is_worth" s_is_worth) (h_is_deed : Has K mg "is_deed" s_is_deed) (h_check_cells : Has K mg "check_cells" s_check_cells) (h_check_memory : Has K mg "check_memory" s_check_memory) (h_check_program : Has K mg "check_program" s_check_program) (h_check_programs : HasD K mg "check_programs" s_check_programs [.int 40]) (h_clash : Has K mg "clash" s_clash) (h_read_cell : Has K mg "read_cell" s_read_cell) (h_write_cell : Has K mg "write_cell" s_write_cell) (h_write_both : Has K mg "write_both" s_write_both) (h_step_old : Has K mg "step_old" s_step_old) (h_step_new : Has K mg "step_new" s_step_new) (h_step_left : Has K mg "step_left" s_step_left) (h_step_right : Has K mg "step_right" s_step_right) (h_check_rule : Has K mg "check_rule" s_check_rule) (h_due : Has K mg "due" s_due) (h_play : Has K mg "play" s_play) (h_run : Has K mg "run" s_run) (h_clashes : Has K mg "clashes" s_clashes) (h_fitted : Has K mg "fitted" s_fitted) (h_shows : Has K mg "shows" s_shows) (h_word_of : Has K mg "word_of" s_word_of) (h_row_of : Has K mg "row_of" s_row_of) (h_written : Has K mg "written" s_written) (h_check_order : Has K mg "check_order" s_check_order) (h_check_last : Has K mg "check_last" s_check_last) (h_check_few : Has K mg "check_few" s_check_few) (h_ordered : Has K mg "ordered" s_ordered) (h_explained : Has K mg "explained" s_explained) (h_outcomes : Has K mg "outcomes" s_outcomes) (h_all_memories : Has K mg "all_memories" s_all_memories) (h_outcome : Has K mg "outcome" s_outcome) (h_parting : Has K mg "parting" s_parting) (h_law_mix : Has K mg "_law_mix" s_law_mix) (h_law_next : Has K mg "_law_next" s_law_next) (h_law_deed : Has K mg "_law_deed" s_law_deed) (h_law_program : Has K mg "_law_program" s_law_program) (h_law_memory : Has K mg "_law_memory" s_law_memory) (h_law_kind : Has K mg "_law_kind" s_law_kind) (h_law_odd : Has K mg "_law_odd" s_law_odd) (h_law_bad : Has K mg "_law_bad" s_law_bad) (h_law_small : HasC K mg "_law_small" s_law_small c1) (h_law_large : HasC K mg "_law_large" s_law_large c2) (h_law_are : Has K mg "_law_are" s_law_are) (h_law_counts_right : HasC K mg "_law_counts_right" s_law_counts_right c3) (h_law_orders_right : HasC K mg "_law_orders_right" s_law_orders_right c4)
    (TB1 : TbK K h c1 p1) (TB2 : TbK K h c2 p2) (TB3 : TbK K h c3 p3) (TB4 : TbK K h c4 p4) (ne : (p1 != p2 && p1 != p3 && p1 != p4 && p2 != p3 && p2 != p4 && p3 != p4) = true) :
    LamX.LawAtS l w K CX0 12 63 "_law_script" mg fa h := by
  have e := hfa.symm.trans (PySem.W.mg_of X G aL)
  cases e
  have F := fun_mk (st := s_law) lL cL kL
  simp only [Bool.and_eq_true, bne_iff_ne] at ne
  obtain ⟨⟨⟨⟨⟨n12, n13⟩, n14⟩, n23⟩, n24⟩, n34⟩ := ne
  let TT : List (Addr × Str) := [(p1, lq "_law_small"), (p2, lq "_law_large"), (p3, lq "_law_counts_right"), (p4, lq "_law_orders_right")]
  let Zc : Cls := ⟨a2, a4, a5, a3, a6⟩
  have each : ∀ {Q : Addr × Addr → Prop}, Q (c1, p1) → Q (c2, p2) → Q (c3, p3) → Q (c4, p4) → ∀ p ∈ [(c1, p1), (c2, p2), (c3, p3), (c4, p4)], Q p := fun {Q} q1 q2 q3 q4 p hp => by
    simp only [List.mem_cons, List.not_mem_nil, or_false] at hp
    rcases hp with rfl | rfl | rfl | rfl
    · exact q1
    · exact q2
    · exact q3
    · exact q4
  refine ⟨PySem.W.fnOf "law" "law" (defArgs s_law) (defBody s_law) (defScope s_law) .none kV dc pm an cd ct, [(c1, p1), (c2, p2), (c3, p3), (c4, p4)], sp_law K TT, each TB1.emp TB2.emp TB3.emp TB4.emp, each TB1.out TB2.out TB3.out TB4.out,
    each (PySem.W.codeHd_of_K X TB1.hd) (PySem.W.codeHd_of_K X TB2.hd) (PySem.W.codeHd_of_K X TB3.hd) (PySem.W.codeHd_of_K X TB4.hd), fun s v => .of_eq rfl, fun H a ns hl _ hH hS => ⟨a, ns, rfl, hS, hl, fun p hp => ?_, fun _ => rfl⟩, fun base _ _ hTB => ?_⟩
  · have tz : ∀ {P : Addr} {q : Str}, H P = some (.tbl #[]) → LamX.TabS H P q := fun {P q} hP => NdefX.TabN.to (NdefX.TabN.nil hP)
    simp only [TT, List.mem_cons, List.not_mem_nil, or_false] at hp
    rcases hp with rfl | rfl | rfl | rfl
    · exact tz (hH (c1, p1) (by simp))
    · exact tz (hH (c2, p2) (by simp))
    · exact tz (hH (c3, p3) (by simp))
    · exact tz (hH (c4, p4) (by simp))
  · have H1 : TabH TT base mg "_law_small" c1 := ⟨p1, hTB (c1, p1) (by simp), by simp [TT], fun p hp e => by
      simp only [TT, List.mem_cons, List.not_mem_nil, or_false] at hp
      rcases hp with rfl | rfl | rfl | rfl
      · rfl
      · exact absurd e.symm n12
      · exact absurd e.symm n13
      · exact absurd e.symm n14⟩
    have H2 : TabH TT base mg "_law_large" c2 := ⟨p2, hTB (c2, p2) (by simp), by simp [TT], fun p hp e => by
      simp only [TT, List.mem_cons, List.not_mem_nil, or_false] at hp
      rcases hp with rfl | rfl | rfl | rfl
      · exact absurd e n12
      · rfl
      · exact absurd e.symm n23
      · exact absurd e.symm n24⟩
    have H3 : TabH TT base mg "_law_counts_right" c3 := ⟨p3, hTB (c3, p3) (by simp), by simp [TT], fun p hp e => by
      simp only [TT, List.mem_cons, List.not_mem_nil, or_false] at hp
      rcases hp with rfl | rfl | rfl | rfl
      · exact absurd e n13
      · exact absurd e n23
      · rfl
      · exact absurd e.symm n34⟩
    have H4 : TabH TT base mg "_law_orders_right" c4 := ⟨p4, hTB (c4, p4) (by simp), by simp [TT], fun p hp e => by
      simp only [TT, List.mem_cons, List.not_mem_nil, or_false] at hp
      rcases hp with rfl | rfl | rfl | rfl
      · exact absurd e n14
      · exact absurd e n24
      · exact absurd e n34
      · rfl⟩
    have OB := B Z.g_DoorError
    have OT := OX Z.g_BadProgram
    have W1 : PlnX K mg "BadMemory" Zc.mem := V1 Z.g_BadMemory
    have W2 : PlnX K mg "BadRule" Zc.rule := V2 Z.g_BadRule
    have W3 : PlnX K mg "BadOrder" Zc.order := V3 Z.g_BadOrder
    have W4 : PlnX K mg "TooMany" Zc.many := V4 Z.g_TooMany
    have OT' : OwnX K mg "BadProgram" Zc.prog a1 fi "door" "place" := OT
    have FI := fun_mk (st := s_BadProgram_init) lI cI kI
    have I1 := d_BadProgram_init (P := l.prog) (w := w) (base := base) OB FI
    have B1 := FI.binds (ps := ["self", "door", "place"]) fun _ _ _ _ _ _ us hl => match us, hl with | [_, _, _], _ => rfl
    have w1 := d_is_whole (P := l.prog) (w := w) (base := base) T h_is_whole
    have w2 := d_is_cell w1 h_is_cell
    have w3 := d_is_worth TP w1 h_is_worth
    have w4 := d_is_deedR T TP w2 w3 h_is_deed
    have w5 := d_check_cellsX (Z := Zc) TP W1 w1 h_check_cells
    have w6 := d_check_memoryX T W1 w5 w3 h_check_memory
    have w7 := d_check_programX (Z := Zc) T TP OT' I1 B1 w4 h_check_program
    have w8 := d_check_programsX w7 h_check_programs
    have w84 := d_check_programs4X w7 h_check_programs
    have w9 := d_check_ruleX (P := l.prog) (w := w) (base := base) (Z := Zc) TR W2 h_check_rule
    have w10 := d_check_fewX (P := l.prog) (w := w) (base := base) (Z := Zc) T O6 W4 h_check_few
    have w11 := d_check_lastX T W1 w6 h_check_last
    have w12 := d_check_orderX (P := l.prog) (w := w) (base := base) (Z := Zc) T TO W3 h_check_order
    have x1 := d_runX T w9 w6 w8 h_run
    have x2 := d_orderedX T w6 w12 w8 h_ordered
    have x3 := d_outcomesX T w6 w10 w8 h_outcomes
    have x4 := d_explainedX T w6 w11 w10 w8 h_explained
    have x5 := d_fittedX TP TF w84 h_fitted
    have x6 := d_showsX TP TF w84 h_shows
    have y1 := d_clash (P := l.prog) (w := w) (base := base) TP h_clash
    have x7 := d_clashesX T TP w8 y1 h_clashes
    have y2 := d_word_of (P := l.prog) (w := w) (base := base) h_word_of
    have y3 := d_row_of y2 h_row_of
    have x8 := d_writtenX TP w8 y3 h_written
    have y4 := d_read_cell (P := l.prog) (w := w) (base := base) h_read_cell
    have y5 := d_write_cell (P := l.prog) (w := w) (base := base) h_write_cell
    have y6 := d_write_both y5 h_write_both
    have y7 := d_step_old y4 y5 y6 h_step_old
    have y8 := d_step_new y4 y5 y6 h_step_new
    have y9 := d_step_left y4 y5 y6 h_step_left
    have y10 := d_step_right y9 h_step_right
    have y11 := d_due (P := l.prog) (w := w) (base := base) T TP h_due
    have y12 := d_play T TP TR y11 y1 y7 y8 y9 y10 h_play
    have y13 := d_outcome y12 h_outcome
    have y14 := d_all_memories (P := l.prog) (w := w) (base := base) T TP h_all_memories
    have x9 := d_partingX T TP TR w5 w8 y14 y13 h_parting
    have k1 := d_law_kind (P := l.prog) (w := w) (base := base) (kw := 8) T Z OT (Y1 C2 C3 C4 C5 C6 C7) (Y2 C2 C3 C4 C5 C6 C7) (Y3 C2 C3 C4 C5 C6 C7) (Y4 C2 C3 C4 C5 C6 C7) (Y5 C2 C3 C4 C5 C6 C7) h_law_kind
    have k2 := d_law_are k1 h_law_are
    have v1 := d_law_mix (P := l.prog) (w := w) (base := base) T h_law_mix
    have v2 := d_law_next (P := l.prog) (w := w) (base := base) T h_law_next
    have v3 := d_law_deed T v2 h_law_deed
    have v4 := d_law_program T v2 v3 h_law_program
    have v5 := d_law_memory T v2 h_law_memory
    have v6 := d_law_odd v2 h_law_odd
    have v7 := d_law_bad T v2 v6 h_law_bad
    have v8 := d_law_small H1 x1 x2 x4 x3 h_law_small
    have v9 := d_law_large H2 x7 x8 x9 x5 x6 h_law_large
    have v10 := d_law_orders_right H4 T v2 k1 x2 h_law_orders_right
    have v11 := d_law_counts_right H3 T k1 k2 v8 v9 x1 x4 x3 x9 h_law_counts_right
    exact d_law T v1 v2 v5 v4 v7 k2 v8 v9 v11 v10 F
theorem walk {l : PySem.W.OpenLaw} {q : Program} {loose : List Str} {XP : (Str → Option Value) → Heap → Prop} {YP : World → Heap → Prop} {d : DefRec} {K : Params → PySem.W.Frag} (hn : l.most = some 63) (hdf : d.params.defaults = [])
    (hY : ∀ (w : World) (h : Heap), YP w h → (K w.params).In h)
    (F : ∀ (w : World) (mg : Str → Option Value) (fa : Addr) (h : Heap), YP w h → (K w.params).In h → h.Ns mainGlobals mg → mg d.name = some (.ref fa) → LamX.LawAtS l w (K w.params) CX0 12 63 "_law_script" mg fa h) :
    PySem.W.WalkO q loose XP YP l.row.toRowW d [] (fun f vs => PySem.call f vs) :=
  LamX.walk_ofTs (n := 63) (k := 12) (x := "_law_script") (CX := fun _ => CX0) hn (by decide) hdf ⟨rfl, by decide, by decide⟩ hY F fun _ _ _ _ _ z => z

end
end Db

open PySem PySem.W PyProof.Rows
set_option maxRecDepth 100000 in
set_option maxHeartbeats 0 in
theorem PySem.Challenge.cw_doorbeat_k01_programs_refused_holds : PySem.Challenge.rw_doorbeat_k01_programs_refused.Holds := by
  w_on; o_law; k_head; (case hw => w_witness2)
  k_fill
  refine Db.walk (l := PySem.Challenge.rw_doorbeat_k01_programs_refused) rfl rfl (fun w h Y => PySem.W.km_in_of Y) ?F
  case F =>
    intro w mg fa h Y KX G hmg
    have hT8 := PySem.W.km_tabs_of Y
    refine' Db.all_mk KX G hmg ?T ?TP ?TR ?TO ?TF ?O6 ?Z ?B ?OX ?V1 ?V2 ?V3 ?V4 ?C2 ?C3 ?C4 ?C5 ?C6 ?C7 ?Y1 ?Y2 ?Y3 ?Y4 ?Y5 ?lI ?cI ?kI ?aL ?lL ?cL ?kL ?h_is_whole ?h_is_cell ?h_is_worth ?h_is_deed ?h_check_cells ?h_check_memory ?h_check_program ?h_check_programs ?h_clash ?h_read_cell ?h_write_cell ?h_write_both ?h_step_old ?h_step_new ?h_step_left ?h_step_right ?h_check_rule ?h_due ?h_play ?h_run ?h_clashes ?h_fitted ?h_shows ?h_word_of ?h_row_of ?h_written ?h_check_order ?h_check_last ?h_check_few ?h_ordered ?h_explained ?h_outcomes ?h_all_memories ?h_outcome ?h_parting ?h_law_mix ?h_law_next ?h_law_deed ?h_law_program ?h_law_memory ?h_law_kind ?h_law_odd ?h_law_bad ?h_law_small ?h_law_large ?h_law_are ?h_law_counts_right ?h_law_orders_right ?TB1 ?TB2 ?TB3 ?TB4 ?ne
    case T => refine' Db.nb_mk KX G ?b1 ?b2 ?b3 ?b4 ?b5 ?b6 ?b7 ?b8 ?b9 ?b10 ?b11 ?b12 <;> k_is
    case TP => (refine' Db.txp_mk KX G ?a1 ?l1 ?a2 ?l2 ?c4 ?c40; (case a1 => k_is); (case l1 => k_is); (case a2 => k_is); (case l2 => k_is); (case c4 => k_is); (case c40 => k_is))
    case TR => (refine' Db.txr_mk KX G ?a1 ?l1 ?a2 ?l2 ?kl ?g1 ?g2 ?g3 ?g4 ?k1 ?k2 ?k3 ?k4 ?k5; (case a1 => k_is); (case l1 => k_is); (case a2 => k_is); (case l2 => k_is); (case kl => exact ⟨⟨_, _, rfl, rfl⟩, ⟨_, _, rfl, rfl⟩, ⟨_, _, rfl, rfl⟩, ⟨_, _, rfl, rfl⟩, ⟨_, _, rfl, rfl⟩, True.intro⟩); (case g1 => k_is); (case g2 => k_is); (case g3 => k_is); (case g4 => k_is); (case k1 => k_is); (case k2 => k_is); (case k3 => k_is); (case k4 => k_is); (case k5 => k_is))
    case TO => (refine' Db.txo_mk KX G ?a1 ?a2; (case a1 => k_is); (case a2 => k_is))
    case TF => (refine' Db.txf_mk KX G ?a1; (case a1 => k_is))
    (case O6 => (refine' Db.txo6_mk KX G ?q0; (case q0 => k_is)))
    (case Z => (refine' Db.clsG_mk KX G ?q0 ?q1 ?q2 ?q3 ?q4 ?q5 ?q6 ?q7; (case q0 => k_is); (case q1 => k_is); (case q2 => k_is); (case q3 => k_is); (case q4 => k_is); (case q5 => k_is); (case q6 => k_is); (case q7 => k_is)))
    (case B => intro gB; (refine' Db.baseX_mk gB ?q0 ?q1 ?q2; (case q0 => k_is); (case q1 => k_is); (case q2 => k_is)))
    (case OX => intro gO; refine' Db.ownX_mk gO ?oT ?oX ?oi ?ot ?on ?om ?oe; (case oT => (refine' Db.oexC_mk ?l ?r ?sa ?ex ?ty ?kp; (case l => k_is); (case r => decide +kernel); (case sa => k_is); (case ex => k_is); (case ty => k_is); (case kp => k_is))); (case oX => (refine' Db.xfC_mk ?q0 ?q1 ?q2 ?q3; (case q0 => k_is); (case q1 => k_is); (case q2 => k_is); (case q3 => k_is))); (case oi => k_is); (case ot => k_is); (case on => k_is); (case om => k_is); (case oe => (refine' Db.exm_of ?q0 ?q1 ?q2 ?q3; (case q0 => k_is); (case q1 => k_is); (case q2 => k_is); (case q3 => k_is))))
    (case V1 => intro gV; refine' Db.plnX_mk gV ?vq1 ?vk1 ?vs1 ?vt1; (case vq1 => kernel_rfl); (case vk1 => k_is); (case vs1 => k_is); (case vt1 => k_is))
    (case V2 => intro gV; refine' Db.plnX_mk gV ?vq2 ?vk2 ?vs2 ?vt2; (case vq2 => kernel_rfl); (case vk2 => k_is); (case vs2 => k_is); (case vt2 => k_is))
    (case V3 => intro gV; refine' Db.plnX_mk gV ?vq3 ?vk3 ?vs3 ?vt3; (case vq3 => kernel_rfl); (case vk3 => k_is); (case vs3 => k_is); (case vt3 => k_is))
    (case V4 => intro gV; refine' Db.plnX_mk gV ?vq4 ?vk4 ?vs4 ?vt4; (case vq4 => kernel_rfl); (case vk4 => k_is); (case vs4 => k_is); (case vt4 => k_is))
    (case C2 => (refine' ⟨?u, ?v⟩; (case u => k_is); (case v => k_is)))
    (case C3 => (refine' ⟨?u, ?v⟩; (case u => k_is); (case v => k_is)))
    (case C4 => (refine' ⟨?u, ?v⟩; (case u => k_is); (case v => k_is)))
    (case C5 => (refine' ⟨?u, ?v⟩; (case u => k_is); (case v => k_is)))
    (case C6 => (refine' ⟨?u, ?v⟩; (case u => k_is); (case v => k_is)))
    (case C7 => (refine' ⟨?u, ?v⟩; (case u => k_is); (case v => k_is)))
    (case Y1 => intro C2 C3 C4 C5 C6 C7; refine' Db.kndE_mk ?te ?ic C2 C4 C5 C3 C6 C7 ?s1 ?s2 ?s3 ?s4 ?s5 ?s6 ?n1 ?n2 ?n3 ?n4 ?n5 ?n6 ?s7; (case te => (refine' Db.exm_of ?q0 ?q1 ?q2 ?q3; (case q0 => k_is); (case q1 => k_is); (case q2 => k_is); (case q3 => k_is))); (case ic => (refine' Db.isC_mk ?xf ?e1 ?e2 ?e3 ?e4; (case xf => (refine' Db.xfC_mk ?q0 ?q1 ?q2 ?q3; (case q0 => k_is); (case q1 => k_is); (case q2 => k_is); (case q3 => k_is))); (case e1 => k_is); (case e2 => k_is); (case e3 => k_is); (case e4 => k_is))); (case s1 => k_is); (case s2 => k_is); (case s3 => k_is); (case s4 => k_is); (case s5 => k_is); (case s6 => k_is); (case n1 => first | (intro z; decide) | (intro z; cases z)); (case n2 => first | (intro z; decide) | (intro z; cases z)); (case n3 => first | (intro z; decide) | (intro z; cases z)); (case n4 => first | (intro z; decide) | (intro z; cases z)); (case n5 => first | (intro z; decide) | (intro z; cases z)); (case n6 => decide); (case s7 => k_is))
    (case Y2 => intro C2 C3 C4 C5 C6 C7; refine' Db.kndE_mk ?te ?ic C2 C4 C5 C3 C6 C7 ?s1 ?s2 ?s3 ?s4 ?s5 ?s6 ?n1 ?n2 ?n3 ?n4 ?n5 ?n6 ?s7; (case te => (refine' Db.exm_of ?q0 ?q1 ?q2 ?q3; (case q0 => k_is); (case q1 => k_is); (case q2 => k_is); (case q3 => k_is))); (case ic => (refine' Db.isC_mk ?xf ?e1 ?e2 ?e3 ?e4; (case xf => (refine' Db.xfC_mk ?q0 ?q1 ?q2 ?q3; (case q0 => k_is); (case q1 => k_is); (case q2 => k_is); (case q3 => k_is))); (case e1 => k_is); (case e2 => k_is); (case e3 => k_is); (case e4 => k_is))); (case s1 => k_is); (case s2 => k_is); (case s3 => k_is); (case s4 => k_is); (case s5 => k_is); (case s6 => k_is); (case n1 => first | (intro z; decide) | (intro z; cases z)); (case n2 => first | (intro z; decide) | (intro z; cases z)); (case n3 => first | (intro z; decide) | (intro z; cases z)); (case n4 => first | (intro z; decide) | (intro z; cases z)); (case n5 => first | (intro z; decide) | (intro z; cases z)); (case n6 => decide); (case s7 => k_is))
    (case Y3 => intro C2 C3 C4 C5 C6 C7; refine' Db.kndE_mk ?te ?ic C2 C4 C5 C3 C6 C7 ?s1 ?s2 ?s3 ?s4 ?s5 ?s6 ?n1 ?n2 ?n3 ?n4 ?n5 ?n6 ?s7; (case te => (refine' Db.exm_of ?q0 ?q1 ?q2 ?q3; (case q0 => k_is); (case q1 => k_is); (case q2 => k_is); (case q3 => k_is))); (case ic => (refine' Db.isC_mk ?xf ?e1 ?e2 ?e3 ?e4; (case xf => (refine' Db.xfC_mk ?q0 ?q1 ?q2 ?q3; (case q0 => k_is); (case q1 => k_is); (case q2 => k_is); (case q3 => k_is))); (case e1 => k_is); (case e2 => k_is); (case e3 => k_is); (case e4 => k_is))); (case s1 => k_is); (case s2 => k_is); (case s3 => k_is); (case s4 => k_is); (case s5 => k_is); (case s6 => k_is); (case n1 => first | (intro z; decide) | (intro z; cases z)); (case n2 => first | (intro z; decide) | (intro z; cases z)); (case n3 => first | (intro z; decide) | (intro z; cases z)); (case n4 => first | (intro z; decide) | (intro z; cases z)); (case n5 => first | (intro z; decide) | (intro z; cases z)); (case n6 => decide); (case s7 => k_is))
    (case Y4 => intro C2 C3 C4 C5 C6 C7; refine' Db.kndE_mk ?te ?ic C2 C4 C5 C3 C6 C7 ?s1 ?s2 ?s3 ?s4 ?s5 ?s6 ?n1 ?n2 ?n3 ?n4 ?n5 ?n6 ?s7; (case te => (refine' Db.exm_of ?q0 ?q1 ?q2 ?q3; (case q0 => k_is); (case q1 => k_is); (case q2 => k_is); (case q3 => k_is))); (case ic => (refine' Db.isC_mk ?xf ?e1 ?e2 ?e3 ?e4; (case xf => (refine' Db.xfC_mk ?q0 ?q1 ?q2 ?q3; (case q0 => k_is); (case q1 => k_is); (case q2 => k_is); (case q3 => k_is))); (case e1 => k_is); (case e2 => k_is); (case e3 => k_is); (case e4 => k_is))); (case s1 => k_is); (case s2 => k_is); (case s3 => k_is); (case s4 => k_is); (case s5 => k_is); (case s6 => k_is); (case n1 => first | (intro z; decide) | (intro z; cases z)); (case n2 => first | (intro z; decide) | (intro z; cases z)); (case n3 => first | (intro z; decide) | (intro z; cases z)); (case n4 => first | (intro z; decide) | (intro z; cases z)); (case n5 => first | (intro z; decide) | (intro z; cases z)); (case n6 => decide); (case s7 => k_is))
    (case Y5 => intro C2 C3 C4 C5 C6 C7; refine' Db.kndE_mk ?te ?ic C2 C4 C5 C3 C6 C7 ?s1 ?s2 ?s3 ?s4 ?s5 ?s6 ?n1 ?n2 ?n3 ?n4 ?n5 ?n6 ?s7; (case te => (refine' Db.exm_of ?q0 ?q1 ?q2 ?q3; (case q0 => k_is); (case q1 => k_is); (case q2 => k_is); (case q3 => k_is))); (case ic => (refine' Db.isC_mk ?xf ?e1 ?e2 ?e3 ?e4; (case xf => (refine' Db.xfC_mk ?q0 ?q1 ?q2 ?q3; (case q0 => k_is); (case q1 => k_is); (case q2 => k_is); (case q3 => k_is))); (case e1 => k_is); (case e2 => k_is); (case e3 => k_is); (case e4 => k_is))); (case s1 => k_is); (case s2 => k_is); (case s3 => k_is); (case s4 => k_is); (case s5 => k_is); (case s6 => k_is); (case n1 => first | (intro z; decide) | (intro z; cases z)); (case n2 => first | (intro z; decide) | (intro z; cases z)); (case n3 => first | (intro z; decide) | (intro z; cases z)); (case n4 => first | (intro z; decide) | (intro z; cases z)); (case n5 => first | (intro z; decide) | (intro z; cases z)); (case n6 => decide); (case s7 => k_is))
    (case lI => k_is)
    (case cI => k_is)
    (case kI => k_is)
    (case aL => k_is)
    (case lL => k_is)
    (case cL => k_is)
    (case kL => k_is)
    case h_is_whole => (refine' Db.has_mk KX G ?a ?l ?c ?k; (case a => k_is); (case l => k_is); (case c => k_is); (case k => k_is))
    case h_is_cell => (refine' Db.has_mk KX G ?a ?l ?c ?k; (case a => k_is); (case l => k_is); (case c => k_is); (case k => k_is))
    case h_is_worth => (refine' Db.has_mk KX G ?a ?l ?c ?k; (case a => k_is); (case l => k_is); (case c => k_is); (case k => k_is))
    case h_is_deed => (refine' Db.has_mk KX G ?a ?l ?c ?k; (case a => k_is); (case l => k_is); (case c => k_is); (case k => k_is))
    case h_check_cells => (refine' Db.has_mk KX G ?a ?l ?c ?k; (case a => k_is); (case l => k_is); (case c => k_is); (case k => k_is))
    case h_check_memory => (refine' Db.has_mk KX G ?a ?l ?c ?k; (case a => k_is); (case l => k_is); (case c => k_is); (case k => k_is))
    case h_check_program => (refine' Db.has_mk KX G ?a ?l ?c ?k; (case a => k_is); (case l => k_is); (case c => k_is); (case k => k_is))
    case h_check_programs => (refine' Db.hasD_mk KX G ?a ?l ?c ?k ?t; (case a => k_is); (case l => k_is); (case c => k_is); (case k => k_is); (case t => k_is))
    case h_clash => (refine' Db.has_mk KX G ?a ?l ?c ?k; (case a => k_is); (case l => k_is); (case c => k_is); (case k => k_is))
    case h_read_cell => (refine' Db.has_mk KX G ?a ?l ?c ?k; (case a => k_is); (case l => k_is); (case c => k_is); (case k => k_is))
    case h_write_cell => (refine' Db.has_mk KX G ?a ?l ?c ?k; (case a => k_is); (case l => k_is); (case c => k_is); (case k => k_is))
    case h_write_both => (refine' Db.has_mk KX G ?a ?l ?c ?k; (case a => k_is); (case l => k_is); (case c => k_is); (case k => k_is))
    case h_step_old => (refine' Db.has_mk KX G ?a ?l ?c ?k; (case a => k_is); (case l => k_is); (case c => k_is); (case k => k_is))
    case h_step_new => (refine' Db.has_mk KX G ?a ?l ?c ?k; (case a => k_is); (case l => k_is); (case c => k_is); (case k => k_is))
    case h_step_left => (refine' Db.has_mk KX G ?a ?l ?c ?k; (case a => k_is); (case l => k_is); (case c => k_is); (case k => k_is))
    case h_step_right => (refine' Db.has_mk KX G ?a ?l ?c ?k; (case a => k_is); (case l => k_is); (case c => k_is); (case k => k_is))
    case h_check_rule => (refine' Db.has_mk KX G ?a ?l ?c ?k; (case a => k_is); (case l => k_is); (case c => k_is); (case k => k_is))
    case h_due => (refine' Db.has_mk KX G ?a ?l ?c ?k; (case a => k_is); (case l => k_is); (case c => k_is); (case k => k_is))
    case h_play => (refine' Db.has_mk KX G ?a ?l ?c ?k; (case a => k_is); (case l => k_is); (case c => k_is); (case k => k_is))
    case h_run => (refine' Db.has_mk KX G ?a ?l ?c ?k; (case a => k_is); (case l => k_is); (case c => k_is); (case k => k_is))
    case h_clashes => (refine' Db.has_mk KX G ?a ?l ?c ?k; (case a => k_is); (case l => k_is); (case c => k_is); (case k => k_is))
    case h_fitted => (refine' Db.has_mk KX G ?a ?l ?c ?k; (case a => k_is); (case l => k_is); (case c => k_is); (case k => k_is))
    case h_shows => (refine' Db.has_mk KX G ?a ?l ?c ?k; (case a => k_is); (case l => k_is); (case c => k_is); (case k => k_is))
    case h_word_of => (refine' Db.has_mk KX G ?a ?l ?c ?k; (case a => k_is); (case l => k_is); (case c => k_is); (case k => k_is))
    case h_row_of => (refine' Db.has_mk KX G ?a ?l ?c ?k; (case a => k_is); (case l => k_is); (case c => k_is); (case k => k_is))
    case h_written => (refine' Db.has_mk KX G ?a ?l ?c ?k; (case a => k_is); (case l => k_is); (case c => k_is); (case k => k_is))
    case h_check_order => (refine' Db.has_mk KX G ?a ?l ?c ?k; (case a => k_is); (case l => k_is); (case c => k_is); (case k => k_is))
    case h_check_last => (refine' Db.has_mk KX G ?a ?l ?c ?k; (case a => k_is); (case l => k_is); (case c => k_is); (case k => k_is))
    case h_check_few => (refine' Db.has_mk KX G ?a ?l ?c ?k; (case a => k_is); (case l => k_is); (case c => k_is); (case k => k_is))
    case h_ordered => (refine' Db.has_mk KX G ?a ?l ?c ?k; (case a => k_is); (case l => k_is); (case c => k_is); (case k => k_is))
    case h_explained => (refine' Db.has_mk KX G ?a ?l ?c ?k; (case a => k_is); (case l => k_is); (case c => k_is); (case k => k_is))
    case h_outcomes => (refine' Db.has_mk KX G ?a ?l ?c ?k; (case a => k_is); (case l => k_is); (case c => k_is); (case k => k_is))
    case h_all_memories => (refine' Db.has_mk KX G ?a ?l ?c ?k; (case a => k_is); (case l => k_is); (case c => k_is); (case k => k_is))
    case h_outcome => (refine' Db.has_mk KX G ?a ?l ?c ?k; (case a => k_is); (case l => k_is); (case c => k_is); (case k => k_is))
    case h_parting => (refine' Db.has_mk KX G ?a ?l ?c ?k; (case a => k_is); (case l => k_is); (case c => k_is); (case k => k_is))
    case h_law_mix => (refine' Db.has_mk KX G ?a ?l ?c ?k; (case a => k_is); (case l => k_is); (case c => k_is); (case k => k_is))
    case h_law_next => (refine' Db.has_mk KX G ?a ?l ?c ?k; (case a => k_is); (case l => k_is); (case c => k_is); (case k => k_is))
    case h_law_deed => (refine' Db.has_mk KX G ?a ?l ?c ?k; (case a => k_is); (case l => k_is); (case c => k_is); (case k => k_is))
    case h_law_program => (refine' Db.has_mk KX G ?a ?l ?c ?k; (case a => k_is); (case l => k_is); (case c => k_is); (case k => k_is))
    case h_law_memory => (refine' Db.has_mk KX G ?a ?l ?c ?k; (case a => k_is); (case l => k_is); (case c => k_is); (case k => k_is))
    case h_law_kind => (refine' Db.has_mk KX G ?a ?l ?c ?k; (case a => k_is); (case l => k_is); (case c => k_is); (case k => k_is))
    case h_law_odd => (refine' Db.has_mk KX G ?a ?l ?c ?k; (case a => k_is); (case l => k_is); (case c => k_is); (case k => k_is))
    case h_law_bad => (refine' Db.has_mk KX G ?a ?l ?c ?k; (case a => k_is); (case l => k_is); (case c => k_is); (case k => k_is))
    case h_law_small => (refine' Db.hasC_mk KX G ?a ?l ?c ?k; (case a => k_is); (case l => k_is); (case c => k_is); (case k => k_is))
    case h_law_large => (refine' Db.hasC_mk KX G ?a ?l ?c ?k; (case a => k_is); (case l => k_is); (case c => k_is); (case k => k_is))
    case h_law_are => (refine' Db.has_mk KX G ?a ?l ?c ?k; (case a => k_is); (case l => k_is); (case c => k_is); (case k => k_is))
    case h_law_counts_right => (refine' Db.hasC_mk KX G ?a ?l ?c ?k; (case a => k_is); (case l => k_is); (case c => k_is); (case k => k_is))
    case h_law_orders_right => (refine' Db.hasC_mk KX G ?a ?l ?c ?k; (case a => k_is); (case l => k_is); (case c => k_is); (case k => k_is))
    case TB1 => (refine' Db.tbK_mk ?l ?h11 ?hd ?out ?emp; (case l => k_is); (case h11 => rfl); (case hd => kernel_rfl); (case out => kernel_rfl); (case emp => exact hT8 _ (by decide)))
    case TB2 => (refine' Db.tbK_mk ?l ?h11 ?hd ?out ?emp; (case l => k_is); (case h11 => rfl); (case hd => kernel_rfl); (case out => kernel_rfl); (case emp => exact hT8 _ (by decide)))
    case TB3 => (refine' Db.tbK_mk ?l ?h11 ?hd ?out ?emp; (case l => k_is); (case h11 => rfl); (case hd => kernel_rfl); (case out => kernel_rfl); (case emp => exact hT8 _ (by decide)))
    case TB4 => (refine' Db.tbK_mk ?l ?h11 ?hd ?out ?emp; (case l => k_is); (case h11 => rfl); (case hd => kernel_rfl); (case out => kernel_rfl); (case emp => exact hT8 _ (by decide)))
    case ne => decide
