import PyProof.Rows.All
import Wide.All
import OpenK.AllK
import Wide.FinOn
import HandS.ForMost
import HandS.Evl
import HandS.Walk
import HandS.Steps
import HandS.IsInst
import HandS.Defaults
import HandS.More
import HandS.ReplaceLit
import HandS.ReplaceDef
import HandS.ReplaceList
import HandS.Star
import HandS.CallLocal
import HandS.Style
import KE.GoesNew
import PyProof.Rows.SortShellAny
import HandS.Strs
import HandS.SetFor
import HandS.FStr
import HandS.StrMore
import HandS.WideBits
import KE.KxField
import PyProof.FString3
import HandS.ForExc
import HandS.ExcIs
import HandS.HotCalls
import PySem.Challenge.RW_deltawires_k18_no_numbers
set_option Elab.async false
set_option linter.all false
set_option maxRecDepth 100000
namespace Dw
open PySem L2 Evl
/-! ### general words -/
def GlV (mg : Str → Option Value) (x : Str) (v : V) : Prop := ∃ u, mg x = some u ∧ RelV v u
theorem pgl {X : Cx} {x : Str} {v : V} {pos : Pos} (hg : Gl X x) (h : GlV X.mg x v) (hd : (x == ("__debug__" : Str)) = false := by decide) : PE X (.Name x pos) (tC v) :=
  let ⟨_, a, b⟩ := h
  pe_glob hg a b hd
/-- a def as callers know it -/
structure Df (P : Program) (w : World) (K : PySem.W.Frag) (mg : Str → Option Value) (base : Heap) (CX : CXT) (x : Str) (k : Nat) (f : Addr) (fd : FuncData) (ps : List Str) (sp : Sp) : Prop where
  ok : FnOk P w K mg base CX k f fd ps sp
  g : mg x = some (.ref f)
  kp : PySem.W.keepIn K (.ref f) = true
  b : Binds K fd ps []
/-- all but what stands at p is as it was -/
def ExB (p : Addr) (H H' : Hp) : Prop := ∀ b o, b ≠ p → H b = some o → H' b = some o
theorem ExB.refl (p : Addr) (H : Hp) : ExB p H H := fun _ _ _ h => h
theorem ExB.trans {p : Addr} {H H1 H2 : Hp} (a : ExB p H H1) (b : ExB p H1 H2) : ExB p H H2 := fun c o n h => b c o n (a c o n h)
theorem ExB.of {p : Addr} {H H' : Hp} (e : Ex H H') : ExB p H H' := fun b o _ h => e b o h
theorem ExB.upd {p : Addr} {H H' : Hp} {o : HO} (e : ExB p H H') : ExB p H (upd H' p o) := fun b u n h => by
  rw [upd_ne n]
  exact e b u n h
theorem ExB.back {p : Addr} {H0 H H' : Hp} (e0 : Ex H0 H) (hp : H0 p = none) (e : ExB p H H') : Ex H0 H' := fun b o h => e b o (ne_of_none h hp) (e0 b o h)
theorem ExB.rd {p a : Addr} {H H' : Hp} {u : HO} (e : ExB p H H') (n : a ≠ p) (h : Rd H a u) : Rd H' a u := by
  rcases h with h | ⟨o, h⟩
  · exact Or.inl (e a _ n h)
  · exact Or.inr ⟨o, e a _ n h⟩
theorem ExB.sq {K : PySem.W.Frag} {p a : Addr} {xs : List V} {H H' : Hp} (e : ExB p H H') (n : a ≠ p) (h : SqL K H a xs) : SqL K H' a xs := by
  rcases h with h | h
  · exact Or.inl (e.rd n h)
  · exact Or.inr h
/-- the pot: two numbers, of which take draws -/
def PotAt (H : Hp) (p : Addr) : Prop := ∃ x y : Int, H p = some (.lst [.int x, .int y]) ∧ 0 ≤ x ∧ 0 ≤ y ∧ y < 2147483647
theorem PotAt.ex {H H' : Hp} {p : Addr} (h : PotAt H p) (e : Ex H H') : PotAt H' p := by
  obtain ⟨x, y, h1, h2⟩ := h
  exact ⟨x, y, e _ _ h1, h2⟩
def spAt (K : PySem.W.Frag) : Sp := fun vs H Q _ => ∃ (a : Addr) (ns : List Int) (k : Int), vs = [.ref a, .int k] ∧ SqL K H a (ns.map V.int) ∧ 0 ≤ k ∧ ∀ c : Int, Q (.int c) H
def spPot (K : PySem.W.Frag) : Sp := fun vs H Q _ => ∃ (a : Addr) (ns : List Int) (k : Int), vs = [.ref a, .int k] ∧ SqL K H a (ns.map V.int) ∧ 0 ≤ k ∧ k ≤ 1000 ∧ ∀ (p : Addr) (H' : Hp), H p = none → Ex H H' → PotAt H' p → Q (.ref p) H'
def spTake : Sp := fun vs H Q _ => ∃ (p : Addr) (m : Int), vs = [.ref p, .int m] ∧ PotAt H p ∧ 0 < m ∧ m < 1073741824 ∧ ∀ (H' : Hp) (d : Int), ExB p H H' → PotAt H' p → 0 ≤ d → d < m → Q (.int d) H'
theorem at_map {ns : List Int} {k : Int} (h0 : 0 ≤ k) (h1 : k < ((ns.map V.int).length : Int)) : ∃ c : Int, atI (ns.map V.int) k = some (.int c) := by
  obtain ⟨j, rfl⟩ := Int.eq_ofNat_of_zero_le h0
  have h2 : j < ns.length := by
    rw [List.length_map] at h1
    omega
  refine ⟨ns[j], atI_nat ?_⟩
  rw [List.getElem?_map, List.getElem?_eq_getElem h2]
  rfl
/-! ### texts by their codes -/
abbrev Tx (l : List Nat) : Str := ⟨l.toArray⟩
theorem Tx_len (l : List Nat) : (Tx l).length = l.length := by simp [Tx, Str.length]
theorem Tx_tl (x : Str) : Tx x.cps.toList = x := TL.mk_tl x
theorem Tx_inj {a b : List Nat} (h : Tx a = Tx b) : a = b := congrArg (fun x : Str => x.cps.toList) h
theorem Tx_cat (a b : List Nat) : Tx a ++ Tx b = Tx (a ++ b) := TL.ext_tl (TL.tl_append (Tx a) (Tx b))
theorem joinL_ones : ∀ l : List Nat, TL.joinL [] (l.map fun c => [c]) = l
  | [] => rfl
  | [_] => rfl
  | c :: d :: r => by
    show [c] ++ ([] ++ TL.joinL [] ((d :: r).map fun c => [c])) = c :: d :: r
    rw [joinL_ones (d :: r)]
    rfl
theorem tl_empty : TL.tl (Str.ofString "") = [] := by decide +kernel
theorem join_ones (l : List Nat) : Txt.join (Str.ofString "") (l.map fun c => Tx [c]) = Tx l := by
  refine TL.ext_tl ?_
  rw [TL.join_eq, TL.tl_join, tl_empty, List.map_map]
  show TL.joinL [] (l.map fun c => [c]) = l
  exact joinL_ones l
theorem ones_len (l : List Nat) : ((l.map fun c => Tx [c]).map (·.length)).sum + (l.map fun c => Tx [c]).length * (Str.ofString "").length = l.length := by
  have e : (Str.ofString "").length = 0 := by decide +kernel
  rw [e, Nat.mul_zero, Nat.add_zero]
  induction l with
  | nil => rfl
  | cons c l ih =>
    rw [List.map_cons, List.map_cons, List.sum_cons, ih, Tx_len]
    simp
    omega
theorem map_strs (l : List Nat) : (l.map fun c => Tx [c]).map V.str = l.map fun c => V.str (Tx [c]) := by
  rw [List.map_map]
  rfl
/-! ### comprehensions by lists -/
theorem range_getD {α : Type} (l : List α) (d : α) : (List.range l.length).map (fun i => l.getD i d) = l := by
  apply List.ext_getElem
  · simp
  · intro i h1 h2
    simp at h1
    simp [h1]
theorem given_list {α : Type} (l : List α) (d : α) (p : α → Bool) (g : α → V) : given l.length (fun i => p (l.getD i d)) (fun i => g (l.getD i d)) = (l.filter p).map g := by
  unfold given
  have e : l.filter p = ((List.range l.length).map (fun i => l.getD i d)).filter p := by rw [range_getD]
  rw [e, List.filter_map, List.map_map]
  rfl
theorem given_all {α : Type} (l : List α) (d : α) (g : α → V) : given l.length (fun _ => true) (fun i => g (l.getD i d)) = l.map g := by
  have e := given_list l d (fun _ => true) g
  rw [List.filter_eq_self.mpr (fun _ _ => rfl)] at e
  exact e
section
variable {K : PySem.W.Frag} {σ : L2.St} {H H' : Hp} {ta tb te tx tl : TE} {t u : TT} {x y z v : V}
theorem el_lcS {z : Str} {j : Nat} {vs : List Nat} (f : Nat → Bool) (v : Nat → V) (h : Ev tl σ H (.str z)) (hz : z.cps.size ≤ 40000) (hw : ∀ x, wipe ((wipe σ vs).set j (some x)) vs = wipe σ vs)
    (ht : ∀ (i : Nat) (c : Nat) H1, Ex H H1 → z.cps[i]? = some c → EvT t ((wipe σ vs).set j (some (.str ⟨#[c]⟩))) H1 (f i)) (he : ∀ (i : Nat) (c : Nat) H1, Ex H H1 → z.cps[i]? = some c → f i = true → Ev te ((wipe σ vs).set j (some (.str ⟨#[c]⟩))) H1 (v i)) :
    EvL (tLc (iStr tl) (gName j) t te vs) σ H (given z.cps.size f v) := fun H0 e Q q => h H0 e _ fun H1 e1 => ⟨z, rfl, fun Dl hD =>
  lc_it walk_str (Cw H1 f v Dl) ⟨hD, Ex.new hD, upd_same⟩ (fun _ _ _ _ => True.intro) (fun i x H2 H3 hi p y => by
    obtain ⟨rfl, c, hc, rfl⟩ := y
    exact ⟨hw _, cw_turn p (by omega) (ht i c H1 (e.trans e1) hc) (fun hf => he i c H1 (e.trans e1) hc hf)⟩)
    (fun H' p => q Dl H' (fresh_back e1 p.1) (e1.trans p.2.1) p.2.2)⟩
/-- over a text: p tells which codes, g what of each -/
theorem el_lcT {l : List Nat} {j : Nat} {vs : List Nat} (p : Nat → Bool) (g : Nat → V) (h : Ev tl σ H (.str (Tx l))) (hz : l.length ≤ 40000) (hw : ∀ x, wipe ((wipe σ vs).set j (some x)) vs = wipe σ vs)
    (ht : ∀ (c : Nat) H1, Ex H H1 → c ∈ l → EvT t ((wipe σ vs).set j (some (.str (Tx [c])))) H1 (p c)) (he : ∀ (c : Nat) H1, Ex H H1 → c ∈ l → p c = true → Ev te ((wipe σ vs).set j (some (.str (Tx [c])))) H1 (g c)) :
    EvL (tLc (iStr tl) (gName j) t te vs) σ H ((l.filter p).map g) := by
  have hs : (Tx l).cps.size = l.length := Tx_len l
  have key : ∀ (i c : Nat), (Tx l).cps[i]? = some c → l.getD i 0 = c ∧ c ∈ l := fun i c hc => by
    have h1 : l[i]? = some c := by
      rw [← hc]
      simp [Tx]
    exact ⟨by rw [List.getD_eq_getElem?_getD, h1]; rfl, List.mem_of_getElem? h1⟩
  rw [← given_list l 0 p g, ← hs]
  refine el_lcS (fun i => p (l.getD i 0)) (fun i => g (l.getD i 0)) h (by omega) hw (fun i c H1 e hc => ?_) (fun i c H1 e hc hf => ?_)
  · obtain ⟨e1, e2⟩ := key i c hc
    simp only [e1]
    exact ht c H1 e e2
  · obtain ⟨e1, e2⟩ := key i c hc
    simp only [e1] at hf ⊢
    exact he c H1 e e2 hf
theorem et_yes : EvT tYes σ H true := fun H1 _ _ q => q H1 (Ex.refl H1)
theorem ev_cbL {r : List V → Hp → VK → Prop} {xs : List V} (h : EvL te σ H xs) (hr : ∀ p H1, H1 p = some (.lst xs) → Ex H H1 → RC r [.ref p] H1 z) : Ev (tCB r (tCons te tNil)) σ H z := fun H1 e Q q =>
  h H1 e _ fun p H2 _ e2 h2 => hr p H2 h2 (e.trans e2) H2 (Ex.refl _) Q fun H3 e3 => q H3 (e2.trans e3)
theorem ev_all {bs : List Bool} (h : EvL te σ H (bs.map V.bl)) : Ev (tCB (rAll K) (tCons te tNil)) σ H (.bl (bs.all id)) :=
  ev_cbL h fun p _ hp _ H2 e2 _ q => ⟨p, bs, rfl, sq_of (e2 p _ hp), q H2 (Ex.refl _)⟩
def rJoinS (K : PySem.W.Frag) : V → List V → Hp → VK → Prop := fun x xs H Q => ∃ a p, ∃ ys : List Str, x = .str a ∧ xs = [.ref p] ∧ (SqL K H p (ys.map V.str) ∨ SqT K H p (ys.map V.str)) ∧
      (ys.map (·.length)).sum + ys.length * a.length ≤ 16777216 ∧ Q (.str (Txt.join a ys)) H
/-- ''.join of a new list of signs -/
theorem ev_join1 {l : List Nat} (h : EvL te σ H (l.map fun c => V.str (Tx [c]))) (hz : l.length ≤ 40000) : Ev (tM1 (rJoinS K) (tC (.str (Str.ofString ""))) te) σ H (.str (Tx l)) := fun H1 e Q q =>
  ⟨⟨_, rfl⟩, h H1 e _ fun p H2 _ e2 h2 => ⟨Str.ofString "", p, l.map fun c => Tx [c], rfl, rfl, Or.inl (sq_of (by rw [map_strs]; exact h2)), by rw [ones_len]; omega, by rw [join_ones]; exact q H2 e2⟩⟩
theorem ev_inS {c : Nat} {w : Str} (ha : Ev ta σ H (.str (Tx [c]))) (hb : Ev tb σ H (.str w)) : Ev (tOp rInS ta tb) σ H (.bl (decide (c ∈ w.cps.toList))) :=
  ev_op ha hb fun H1 _ _ q => ⟨c, w, rfl, rfl, q H1 (Ex.refl _)⟩
theorem ev_notInS {c : Nat} {w : Str} (ha : Ev ta σ H (.str (Tx [c]))) (hb : Ev tb σ H (.str w)) : Ev (tOp rNotInS ta tb) σ H (.bl (!decide (c ∈ w.cps.toList))) :=
  ev_op ha hb fun H1 _ _ q => ⟨c, w, rfl, rfl, q H1 (Ex.refl _)⟩
def rLenT : List V → Hp → VK → Prop := fun xs H Q => ∃ z, xs = [.str z] ∧ z.length ≤ sizeLine ∧ Q (.int z.length) H
theorem ev_lenT {l : List Nat} (ha : Ev ta σ H (.str (Tx l))) (hz : l.length ≤ 40000) : Ev (tCB rLenT (tCons ta tNil)) σ H (.int (l.length : Int)) := fun H1 e Q q =>
  ha H1 e _ fun H2 e2 => ⟨Tx l, rfl, sz_of (by rw [Tx_len]; omega), by rw [Tx_len]; exact q H2 e2⟩
end
/-! ### lists of texts and of numbers compared -/
theorem dpAll_strs {K : PySem.W.Frag} {H : Hp} : ∀ xs : List Str, DpAll K H (xs.map V.str) (xs.map PyData.str)
  | [] => .nil
  | x :: xs => .cons (.str x) (dpAll_strs xs)
theorem dpAll_ints {K : PySem.W.Frag} {H : Hp} : ∀ xs : List Int, DpAll K H (xs.map V.int) (xs.map PyData.int)
  | [] => .nil
  | x :: xs => .cons (.int x) (dpAll_ints xs)
theorem dpAll_bls {K : PySem.W.Frag} {H : Hp} : ∀ xs : List Bool, DpAll K H (xs.map V.bl) (xs.map PyData.bool)
  | [] => .nil
  | x :: xs => .cons (.bl x) (dpAll_bls xs)
theorem eqvAll_strs : ∀ xs ys : List Str, PyData.eqvAll (xs.map PyData.str) (ys.map PyData.str) = decide (xs = ys)
  | [], [] => by simp [PyData.eqvAll]
  | [], y :: ys => by simp [PyData.eqvAll]
  | x :: xs, [] => by simp [PyData.eqvAll]
  | x :: xs, y :: ys => by
    have ih := eqvAll_strs xs ys
    simp only [List.map_cons, PyData.eqvAll, PyData.eqv, ih]
    rw [Bool.eq_iff_iff]
    simp
theorem eqvAll_ints : ∀ xs ys : List Int, PyData.eqvAll (xs.map PyData.int) (ys.map PyData.int) = decide (xs = ys)
  | [], [] => by simp [PyData.eqvAll]
  | [], y :: ys => by simp [PyData.eqvAll]
  | x :: xs, [] => by simp [PyData.eqvAll]
  | x :: xs, y :: ys => by
    have ih := eqvAll_ints xs ys
    simp only [List.map_cons, PyData.eqvAll, PyData.eqv, ih]
    rw [Bool.eq_iff_iff]
    simp
theorem eqvAll_bls : ∀ xs ys : List Bool, PyData.eqvAll (xs.map PyData.bool) (ys.map PyData.bool) = decide (xs = ys)
  | [], [] => by simp [PyData.eqvAll]
  | [], y :: ys => by simp [PyData.eqvAll]
  | x :: xs, [] => by simp [PyData.eqvAll]
  | x :: xs, y :: ys => by
    have ih := eqvAll_bls xs ys
    simp only [List.map_cons, PyData.eqvAll, PyData.eqv, ih]
    rw [Bool.eq_iff_iff]
    simp
def LowS (x : Str) : Prop := PyData.canLay0 (.str x) = true
theorem lay_strs : ∀ {xs : List Str}, (∀ x ∈ xs, LowS x) → PyData.canLayAll0 (xs.map PyData.str) = true
  | [], _ => by simp [PyData.canLayAll0]
  | x :: xs, h => by
    rw [List.map_cons, PyData.canLayAll0, h x (List.mem_cons_self ..), lay_strs fun y hy => h y (List.mem_cons_of_mem _ hy)]
    rfl
theorem lay_ints : ∀ xs : List Int, PyData.canLayAll0 (xs.map PyData.int) = true
  | [] => by simp [PyData.canLayAll0]
  | x :: xs => by
    rw [List.map_cons, PyData.canLayAll0, lay_ints xs]
    simp [PyData.canLay0]
theorem lay_bls : ∀ xs : List Bool, PyData.canLayAll0 (xs.map PyData.bool) = true
  | [] => by simp [PyData.canLayAll0]
  | x :: xs => by
    rw [List.map_cons, PyData.canLayAll0, lay_bls xs]
    simp [PyData.canLay0]
theorem deep_strs : ∀ xs : List Str, PyData.depthAll (xs.map PyData.str) = 0
  | [] => by simp [PyData.depthAll]
  | x :: xs => by
    rw [List.map_cons, PyData.depthAll, deep_strs xs]
    simp [PyData.depth]
theorem deep_ints : ∀ xs : List Int, PyData.depthAll (xs.map PyData.int) = 0
  | [] => by simp [PyData.depthAll]
  | x :: xs => by
    rw [List.map_cons, PyData.depthAll, deep_ints xs]
    simp [PyData.depth]
theorem deep_bls : ∀ xs : List Bool, PyData.depthAll (xs.map PyData.bool) = 0
  | [] => by simp [PyData.depthAll]
  | x :: xs => by
    rw [List.map_cons, PyData.depthAll, deep_bls xs]
    simp [PyData.depth]
theorem shaped_strs {xs : List Str} (h : ∀ x ∈ xs, LowS x) : SeqAt.shaped (.list (xs.map PyData.str)) = true := by
  unfold SeqAt.shaped
  rw [PyData.canLay0, lay_strs h, PyData.depth, deep_strs]
  rfl
theorem shaped_ints (xs : List Int) : SeqAt.shaped (.list (xs.map PyData.int)) = true := by
  unfold SeqAt.shaped
  rw [PyData.canLay0, lay_ints, PyData.depth, deep_ints]
  rfl
theorem shaped_bls (xs : List Bool) : SeqAt.shaped (.list (xs.map PyData.bool)) = true := by
  unfold SeqAt.shaped
  rw [PyData.canLay0, lay_bls, PyData.depth, deep_bls]
  rfl
theorem low_Tx {l : List Nat} (h : ∀ c ∈ l, c < 128) : LowS (Tx l) := by
  unfold LowS
  rw [PyData.canLay0]
  unfold PyData.strOk
  first
    | (simp only [Tx, List.all_toArray, List.all_eq_true]; intro c hc; have := h c hc; simp; omega)
    | (simp [Tx]; intro c hc; have := h c hc; omega)
section
variable {K : PySem.W.Frag} {H : Hp}
theorem rv_eqStrs {p q : Addr} {xs ys : List Str} (h1 : SqL K H p (xs.map V.str)) (h2 : SqL K H q (ys.map V.str)) (l1 : ∀ x ∈ xs, LowS x) (l2 : ∀ x ∈ ys, LowS x) : RV (rEqD K) (.ref p) (.ref q) H (.bl (decide (xs = ys))) := fun H1 e Q k =>
  ⟨_, _, .lst (ex_l e h1) (dpAll_strs xs), .lst (ex_l e h2) (dpAll_strs ys), shaped_strs l1, shaped_strs l2, by rw [PyData.eqv, eqvAll_strs]; exact k H1 (Ex.refl _)⟩
theorem rv_neStrs {p q : Addr} {xs ys : List Str} (h1 : SqL K H p (xs.map V.str)) (h2 : SqL K H q (ys.map V.str)) (l1 : ∀ x ∈ xs, LowS x) (l2 : ∀ x ∈ ys, LowS x) : RV (rNeD K) (.ref p) (.ref q) H (.bl (!decide (xs = ys))) := fun H1 e Q k =>
  ⟨_, _, .lst (ex_l e h1) (dpAll_strs xs), .lst (ex_l e h2) (dpAll_strs ys), shaped_strs l1, shaped_strs l2, by rw [PyData.eqv, eqvAll_strs]; exact k H1 (Ex.refl _)⟩
theorem rv_eqInts {p q : Addr} {xs ys : List Int} (h1 : SqL K H p (xs.map V.int)) (h2 : SqL K H q (ys.map V.int)) : RV (rEqD K) (.ref p) (.ref q) H (.bl (decide (xs = ys))) := fun H1 e Q k =>
  ⟨_, _, .lst (ex_l e h1) (dpAll_ints xs), .lst (ex_l e h2) (dpAll_ints ys), shaped_ints xs, shaped_ints ys, by rw [PyData.eqv, eqvAll_ints]; exact k H1 (Ex.refl _)⟩
theorem rv_neBls {p q : Addr} {xs ys : List Bool} (h1 : SqL K H p (xs.map V.bl)) (h2 : SqL K H q (ys.map V.bl)) : RV (rNeD K) (.ref p) (.ref q) H (.bl (!decide (xs = ys))) := fun H1 e Q k =>
  ⟨_, _, .lst (ex_l e h1) (dpAll_bls xs), .lst (ex_l e h2) (dpAll_bls ys), shaped_bls xs, shaped_bls ys, by rw [PyData.eqv, eqvAll_bls]; exact k H1 (Ex.refl _)⟩
theorem rv_eqBls {p q : Addr} {xs ys : List Bool} (h1 : SqL K H p (xs.map V.bl)) (h2 : SqL K H q (ys.map V.bl)) : RV (rEqD K) (.ref p) (.ref q) H (.bl (decide (xs = ys))) := fun H1 e Q k =>
  ⟨_, _, .lst (ex_l e h1) (dpAll_bls xs), .lst (ex_l e h2) (dpAll_bls ys), shaped_bls xs, shaped_bls ys, by rw [PyData.eqv, eqvAll_bls]; exact k H1 (Ex.refl _)⟩
end
section
variable {K : PySem.W.Frag} {σ : L2.St} {H H' : Hp} {ta tb tc te tx tl : TE} {t u : TT} {x y z v : V}
theorem ev_chain {r r' : R2} {w' : V} {k k2 : Bool} (ha : Ev ta σ H x) (hb : Ev tb σ H y) (h1 : RV r x y H (.bl k)) (h2 : k = true → Ev tc σ H w' ∧ RV r' y w' H (.bl k2)) : Ev (tChain r r' ta tb tc) σ H (.bl (k && k2)) := fun H1 e Q q =>
  ha H1 e _ fun H2 e2 => hb H2 (e.trans e2) _ fun H3 e3 => h1 H3 ((e.trans e2).trans e3) _ fun H4 e4 => ⟨k, rfl, by
    cases k with
    | true =>
      obtain ⟨hc, h3⟩ := h2 rfl
      show tc σ H4 fun w' H4 => r' y w' H4 Q
      exact hc H4 (((e.trans e2).trans e3).trans e4) _ fun H5 e5 => h3 H5 ((((e.trans e2).trans e3).trans e4).trans e5) Q fun H6 e6 => q H6 ((((e2.trans e3).trans e4).trans e5).trans e6)
    | false =>
      show Q (.bl false) H4
      exact q H4 ((e2.trans e3).trans e4)⟩
theorem ev_isi {T : String} {b : Bool} (ha : Ev ta σ H v) (hb : Ev tb σ H (.ty T)) (ty : ∀ H1, Ex H H1 → ∃ t, TyX K H1 v (.type t) ∧ kitB t T = some b) : Ev (tCB (rIsi K) (tCons ta (tCons tb tNil))) σ H (.bl b) := fun H1 e Q q =>
  ha H1 e _ fun H2 e2 => hb H2 (e.trans e2) _ fun H3 e3 => by
    obtain ⟨t, h1, h2⟩ := ty H3 ((e.trans e2).trans e3)
    exact ⟨v, .ty T, .type t, .type T, b, rfl, .ty T, h1, kit_ty h2, q H3 (e2.trans e3)⟩
theorem ev_eqS {r : R2} (ha : Ev ta σ H x) (hb : Ev tb σ H y) (h : RV r x y H z) : Ev (tOp r ta tb) σ H z := ev_op ha hb h
end
theorem op_mulS {X : Cx} : OpR X (binaryOp .Mult) (fun x y H Q => ∃ a i, x = .str a ∧ y = .int i ∧ MulOk a i ∧ Q (.str (Txt.mul a i)) H) := by
  intro pins s σ H x y v u Q I rx ry h
  obtain ⟨a, i, rfl, rfl, hm, q⟩ := h
  obtain ⟨t, rfl⟩ := rx
  obtain ⟨t', rfl⟩ := ry
  exact SB.mul hm fun t' k => ⟨.str (Txt.mul a i), H, I.tok _, ⟨_, rfl⟩, q⟩
structure DfD (P : Program) (w : World) (K : PySem.W.Frag) (mg : Str → Option Value) (base : Heap) (CX : CXT) (x : Str) (k : Nat) (f : Addr) (fd : FuncData) (ps : List Str) (sp : Sp) : Prop where
  ok : FnOk P w K mg base CX k f fd ps sp
  g : mg x = some (.ref f)
  kp : PySem.W.keepIn K (.ref f) = true
section
variable {K : PySem.W.Frag} {σ : L2.St} {H H' : Hp} {ta tb tc te tx tl : TE} {t u : TT} {x y z v : V}
theorem el_lcT1 {l : List Nat} {j : Nat} {vs : List Nat} (g : Nat → V) (h : Ev tl σ H (.str (Tx l))) (hz : l.length ≤ 40000) (hw : ∀ x, wipe ((wipe σ vs).set j (some x)) vs = wipe σ vs)
    (he : ∀ (c : Nat) H1, Ex H H1 → c ∈ l → Ev te ((wipe σ vs).set j (some (.str (Tx [c])))) H1 (g c)) :
    EvL (tLc (iStr tl) (gName j) tYes te vs) σ H (l.map g) := by
  have e := el_lcT (fun _ => true) g h hz hw (fun c H1 _ _ => et_yes) (fun c H1 e hc _ => he c H1 e hc)
  rw [List.filter_eq_self.mpr (fun _ _ => rfl)] at e
  exact e
theorem ev_callN {sp : Sp} {n m : Nat} {gV : List V → List V → List V} {E : XK} {tA tK : TA} {vs zs : List V} (h : EvA tA σ H vs) (hk : EvA tK σ H zs) (l1 : vs.length = n) (l2 : zs.length = m) (hs : SpV sp (gV vs zs) H z) : Ev (tCallN n m sp gV E tA tK) σ H z := fun H1 e Q q =>
  h H1 e _ fun H2 e2 => hk H2 (e.trans e2) _ fun H3 e3 => ⟨l1, l2, hs H3 ((e.trans e2).trans e3) Q (fun H4 e4 => q H4 ((e2.trans e3).trans e4)) E⟩
end
theorem ExB.mut {p D : Addr} {H H' : Hp} {o : HO} (e : ExB p H H') (h : H D = none) : ExB p H (L2.upd H' D o) := fun b u n hb => by
  rw [upd_ne (ne_of_none hb h)]
  exact e b u n hb
theorem PotAt.upd {H : Hp} {p D : Addr} {o : HO} (h : PotAt H p) (n : D ≠ p) : PotAt (L2.upd H D o) p := by
  obtain ⟨x, y, h1, h2⟩ := h
  exact ⟨x, y, (upd_ne n.symm).trans h1, h2⟩
theorem PotAt.ne {H : Hp} {p D : Addr} (h : PotAt H p) (n : H D = none) : D ≠ p := fun z => by
  obtain ⟨x, y, h1, _⟩ := h
  rw [z, h1] at n
  cases n
theorem at_sign {l : List Nat} {d : Int} (h0 : 0 ≤ d) (h1 : d < (l.length : Int)) : ∃ c, atI (Tx l).cps.toList d = some c ∧ c ∈ l := by
  obtain ⟨j, rfl⟩ := Int.eq_ofNat_of_zero_le h0
  have h2 : j < l.length := by omega
  refine ⟨l[j], atI_nat ?_, List.getElem_mem h2⟩
  show l[j]? = some l[j]
  exact List.getElem?_eq_getElem h2
def sgn : List Nat := [48, 49, 120, 122]
theorem e_sgn : (Str.ofString "01xz").cps.toList = sgn := by decide +kernel
/-! ### zip of two texts -/
def Itzs (x y : Str) : It := ⟨fun i _ => i < min x.cps.size y.cps.size,
  fun i H v H' => ∃ T c d, v = .ref T ∧ H T = none ∧ H' = upd H T (.tup [.str ⟨#[c]⟩, .str ⟨#[d]⟩]) ∧ x.cps[i]? = some c ∧ y.cps[i]? = some d,
  fun i _ => i = min x.cps.size y.cps.size⟩
theorem turn_zipS {P : Program} {w : World} {K : PySem.W.Frag} {elts : List Expr} {kk : Nat} {tpos : Pos} {z TI TO j1 j2 : Addr} {x y : Str} {t u : Tok} (D : ZipSep2 z TI TO j1 j2 [j1] [j2]) :
    Turn P w K (.Tuple elts kk tpos) (Itzs x y) [z, TI, TO, j1, j2] z (fun i h => IsZip h z TI TO .none ∧ IsTupOf2 h TI (.ref j1) (.ref j2) ∧ (∃ a1 a2, IsTupOf2 h TO a1 a2) ∧ h.IsStrIter j1 (strIterType x) x t i ∧ h.IsStrIter j2 (strIterType y) y u i) where
  mem := by simp
  obj := fun i h st c hc => by
    obtain ⟨hz, h1, ⟨a1, a2, h2⟩, ⟨o1, e1, _, d1⟩, ⟨o2, e2, _, d2⟩⟩ := st
    simp only [List.mem_cons, List.not_mem_nil, or_false] at hc
    rcases hc with rfl | rfl | rfl | rfl | rfl
    · exact ⟨_, hz, fun v q => nomatch q⟩
    · exact ⟨_, h1, fun v q => nomatch q⟩
    · exact ⟨_, h2, fun v q => nomatch q⟩
    · exact ⟨o1, e1, fun v q => by rw [d1] at q; cases q⟩
    · exact ⟨o2, e2, fun v q => by rw [d2] at q; cases q⟩
  keep := fun i h h' st k => by
    obtain ⟨hz, h1, ⟨a1, a2, h2⟩, ⟨o1, e1, r1⟩, ⟨o2, e2, r2⟩⟩ := st
    exact ⟨k z (by simp) _ hz, k TI (by simp) _ h1, ⟨a1, a2, k TO (by simp) _ h2⟩, ⟨o1, k j1 (by simp) _ e1, r1⟩, ⟨o2, k j2 (by simp) _ e2, r2⟩⟩
  item := by
    intro X hP hw hK hc i pins s σ H E I hf st hg
    subst hP hw hK
    have hh : X.A.handled = none := I.ok.hd hc
    have W := GoesN.zip2 (elts := elts) (x1 := kk) (pos := tpos) (A := X.A) D (Draws.text (prog := X.prog) (w := X.w) (A := X.A.in1) hh j1 x t) (Draws.text (prog := X.prog) (w := X.w) (A := X.A.in1) hh j2 y u)
    refine wpAny_mono (W.goes i s (fun v s2 => ∃ x' H', Inv X pins σ H' s2 ∧ RelV x' v ∧ (Itzs x y).yld i H x' H' ∧ (IsZip s2.heap z TI TO .none ∧ IsTupOf2 s2.heap TI (.ref j1) (.ref j2) ∧ (∃ a1 a2, IsTupOf2 s2.heap TO a1 a2) ∧ s2.heap.IsStrIter j1 (strIterType x) x t (i + 1) ∧ s2.heap.IsStrIter j2 (strIterType y) y u (i + 1)) ∧ ∀ b ∈ [z, TI, TO, j1, j2], H' b = none) E hg st fun v h' tk hY st' hk _ => ?_) (fun r s1 q => q) fun _ _ e => e
    obtain ⟨T, xv, yv, rfl, hn, ⟨c, u1, hc1, rfl⟩, ⟨d, u2, hc2, rfl⟩, hT⟩ := hY
    obtain ⟨o, ho, hcl, n, hd⟩ := hT
    have new : ObjOk X.prog X.w (upd H T (.tup [.str ⟨#[c]⟩, .str ⟨#[d]⟩])) h' T (.tup [.str ⟨#[c]⟩, .str ⟨#[d]⟩]) :=
      ⟨by show 2 ≤ sizeLine; decide, [.str ⟨#[c]⟩ u1, .str ⟨#[d]⟩ u2], .cons ⟨u1, rfl⟩ (.cons ⟨u2, rfl⟩ .nil), ⟨o, ho, hcl, n, hd⟩⟩
    have I1 : Inv X pins σ (upd H T (.tup [.str ⟨#[c]⟩, .str ⟨#[d]⟩])) { s with heap := h', toks := tk } :=
      I.turnedNew (t' := tk) (ch := [z, TI, TO, j1, j2]) (fun b o hb q => hk b o (fun q' => hb (by simp only [List.mem_cons, List.not_mem_nil, or_false] at q' ⊢; rcases q' with q' | q' | q' | q' <;> simp [q'])) q) hf hn new
    refine ⟨.ref T, _, I1, rfl, ⟨T, c, d, rfl, I.hok.fresh hn, rfl, hc1, hc2⟩, st', fun b hb => ?_⟩
    have hlt : b < s.heap.objs.size := by
      obtain ⟨hz, h1, ⟨a1, a2, h2⟩, ⟨o1, e1, _⟩, ⟨o2, e2, _⟩⟩ := st
      simp only [List.mem_cons, List.not_mem_nil, or_false] at hb
      rcases hb with rfl | rfl | rfl | rfl | rfl
      · exact Heap.lt_size hz
      · exact Heap.lt_size h1
      · exact Heap.lt_size h2
      · exact Heap.lt_size e1
      · exact Heap.lt_size e2
    rw [upd_ne (Nat.ne_of_lt (Nat.lt_of_lt_of_le hlt hn))]
    exact (hf b hb).1
  done := by
    intro X hP hw hK hc i pins s σ H E I hf st hg
    subst hP hw hK
    have hh : X.A.handled = none := I.ok.hd hc
    have W := GoesN.zip2 (elts := elts) (x1 := kk) (pos := tpos) (A := X.A) D (Draws.text (prog := X.prog) (w := X.w) (A := X.A.in1) hh j1 x t) (Draws.text (prog := X.prog) (w := X.w) (A := X.A.in1) hh j2 y u)
    have e : i = min x.cps.size y.cps.size := hg
    subst e
    exact W.stops s (fun s1 => Inv X pins σ H s1) E st fun h' tk hk _ => I.turnedL (t' := tk) (ch := [z, TI, TO, j1, j2]) (fun b o hb q => hk b o (fun q' => hb (by simp only [List.mem_cons, List.not_mem_nil, or_false] at q' ⊢; rcases q' with q' | q' | q' | q' <;> simp [q'])) q) hf
  self := fun A i s Q E st h => wpAny_pyIter_zip st.1 h
def iZipS (ta : TA) : TI := fun σ H R => ta σ H fun vs H1 => ∃ x y, vs = [.str x, .str y] ∧ R (Itzs x y) H1
theorem pi_zipS {X : Cx} {e e2 : Expr} {ta : TA} {p pos tpos : Pos} {elts : List Expr} {kk : Nat} (hg : Gl X "zip") (hm : X.mg "zip" = none) (ha : PA X [e, e2] ta)
    (hs : starEach [e, e2] X.env = (false, eval e X.env) :: starEach [e2] X.env := by rfl) (hpl : (backTo pos (starEach [e2] X.env)).any (·.1) = false := by rfl) :
    PI X (.Tuple elts kk tpos) (.Call (.Name "zip" p) [e, e2] [] pos) (iZipS ta) := by
  refine ⟨fun pins s σ H R I h => ?_⟩
  refine PyProof.Rows.Call_ (ld_blt I hg hm PyProof.Rows.boot_zip (PyProof.Rows.callWith_type1 (thn (ha.run pos pins s σ H _ I h) fun us s1 ⟨vs, H1, I1, r1, q1⟩ => ?_) hs hpl))
  obtain ⟨x, y, ex, q⟩ := q1
  subst ex
  cases r1 with
  | cons r rr =>
    cases rr with
    | cons r' rr =>
      cases rr
      obtain ⟨t, rfl⟩ := r
      obtain ⟨u, rfl⟩ := r'
      refine zip_begins2 (begins_text x t) (begins_text y u) True.intro True.intro fun h' hz h1 h2 g1 g2 hsz hk => wpAny_pyIter_zip hz ?_
      have I2 : Inv X pins σ H1 { s1 with heap := h' } := I1.kept (t' := s1.toks) hk
      refine ⟨s1.heap.objs.size + 4, [s1.heap.objs.size + 4, s1.heap.objs.size + 2, s1.heap.objs.size + 3, s1.heap.objs.size, s1.heap.objs.size + 1], _, _, H1, rfl, I2, turn_zipS (zip_sep2 (fun _ hb => by cases hb) (fun _ hb => by cases hb)), ⟨hz, h1, ⟨_, _, h2⟩, ⟨_, g1, rfl, rfl⟩, ⟨_, g2, rfl, rfl⟩⟩, fun c hcm => ?_, q⟩
      have hle : s1.heap.objs.size ≤ c := by
        simp only [List.mem_cons, List.not_mem_nil, or_false] at hcm
        rcases hcm with q' | q' | q' | q' | q' <;> rw [q'] <;> first | exact Nat.le_refl _ | exact Nat.le_add_right _ _
      exact I1.fpOk hle (I1.hok.fresh hle)
theorem walk_zipS {x y : Str} : Walk (Itzs x y) (min x.cps.size y.cps.size) (fun _ => True) (fun i H v H' => ∃ T c d, v = .ref T ∧ H T = none ∧ H' = upd H T (.tup [.str ⟨#[c]⟩, .str ⟨#[d]⟩]) ∧ x.cps[i]? = some c ∧ y.cps[i]? = some d) :=
  ⟨fun _ _ hi _ => hi, fun _ _ => rfl, fun _ _ _ _ _ _ q => q⟩
end Dw

set_option Elab.async false
set_option linter.all false
set_option maxRecDepth 100000
namespace Dw
open PySem L2 Evl
section
variable {K : PySem.W.Frag} {σ : L2.St} {H H' : Hp} {ta : TA} {tb tc te tx tl : TE} {t u : TT} {x y z v : V}
/-- [e for a, b in zip(x, y)], two texts of one length -/
theorem el_lcZ {la lb : List Nat} {j1 j2 : Nat} {vs : List Nat} (g : Nat → Nat → V) (h : EvA ta σ H [.str (Tx la), .str (Tx lb)]) (hl : la.length = lb.length) (hz : la.length ≤ 40000)
    (hw : ∀ x y, wipe (((wipe σ vs).set j1 (some x)).set j2 (some y)) vs = wipe σ vs)
    (he : ∀ (c d : Nat) H1, Ex H H1 → c ∈ la → d ∈ lb → Ev te (((wipe σ vs).set j1 (some (.str (Tx [c])))).set j2 (some (.str (Tx [d])))) H1 (g c d)) :
    EvL (tLc (iZipS ta) (gTup K 2 (gCons (gName j1) (gCons (gName j2) gNil))) tYes te vs) σ H (List.zipWith g la lb) := fun H0 e Q q => h H0 e _ fun H1 e1 => ⟨Tx la, Tx lb, rfl, fun Dl hD => by
  have hs : min (Tx la).cps.size (Tx lb).cps.size = la.length := by
    have h1 : (Tx la).cps.size = la.length := Tx_len la
    have h2 : (Tx lb).cps.size = lb.length := Tx_len lb
    omega
  refine lc_it walk_zipS (fun i H2 => Ex H1 H2 ∧ H2 Dl = some (.lst ((List.zipWith g la lb).take i))) ⟨Ex.new hD, upd_same⟩ (fun _ _ _ _ => True.intro) (fun i x' H2 H3 hi p yy => ?_) (fun H2 p => ?_)
  · obtain ⟨T, c, d, rfl, nT, rfl, hc, hd⟩ := yy
    have hc' : la[i]? = some c := by
      rw [← hc]
      simp [Tx]
    have hd' : lb[i]? = some d := by
      rw [← hd]
      simp [Tx]
    have hg : (List.zipWith g la lb)[i]? = some (g c d) := by
      rw [List.getElem?_zipWith, hc', hd']
    refine ⟨T, _, rfl, st_of upd_same, rfl, _, _, rfl, _, _, rfl, rfl, hw _ _, ?_⟩
    refine he c d _ (((e.trans e1).trans p.1).trans (Ex.new nT)) (List.mem_of_getElem? hc') (List.mem_of_getElem? hd') _ (Ex.refl _) _ fun H4 e4 => ⟨_, e4 Dl _ ((Ex.new nT) Dl _ p.2), sz_lt ?_, ?_, ?_⟩
    · have := List.length_take_le i (List.zipWith g la lb)
      omega
    · exact Ex.mut ((p.1.trans (Ex.new nT)).trans e4) hD
    · rw [upd_same, List.take_add_one, hg]
      rfl
  · obtain ⟨p1, p2⟩ := p
    rw [hs, List.take_of_length_le (by rw [List.length_zipWith]; omega)] at p2
    exact q Dl H2 (fresh_back e1 hD) (e1.trans p1) p2⟩
theorem ev_kd {w : World} {p : Addr} {s : Str} {ta tb : TE} (ha : Ev ta σ H (.ref p)) (hb : Ev tb σ H (.str s)) (hk : KDct K w p s v) : Ev (tOp (rIxD K w) ta tb) σ H v :=
  ev_op ha hb fun H1 _ _ q => ⟨p, s, v, rfl, rfl, hk, q H1 (Ex.refl _)⟩
end
/-! ### f(*xs), f a local that holds one of several defs -/
def tCallLS (K : PySem.W.Frag) (i : Nat) (S : Addr → Option Sp) (te : TE) : TE := fun σ H Q => ∃ f sp, σ[i]? = some (some (.ref f)) ∧ S f = some sp ∧ te σ H fun y H1 => ∃ a xs, y = V.ref a ∧ (SqT K H1 a xs ∨ SqL K H1 a xs) ∧ sp xs H1 Q (fun _ _ _ => False)
theorem pe_callLS {X : Cx} {k i : Nat} {x : Str} {p q pos : Pos} {e : Expr} {te : TE} {S : Addr → Option Sp} (A : ∀ f sp, S f = some sp → Held X.prog X.w X.K X.mg X.base k f sp) (hr : Room k X.A) (hN : X.N[i]? = some x) (hv : Vis X.env.scope x) (he : PE X e te)
    (hdb : (x == ("__debug__" : Str)) = false := by decide) (hcd : (x == ("__classdict__" : Str)) = false := by decide)
    (hst : starEach [.Starred e q] X.env = [(true, eval e X.env)] := by rfl) : PE X (.Call (.Name x p) [.Starred e q] [] pos) (tCallLS X.K i S te) := by
  refine ⟨fun pins s σ H Q I h => ?_⟩
  obtain ⟨f, sp, hs, hS, ht⟩ := h
  obtain ⟨fd, ps, F, hk, hb⟩ := (A f sp hS).ex
  refine wpAny_Call_Name_kw (thn ((pe_var (pos := p) hN hv hdb hcd).run pins s σ H (fun v H1 => v = .ref f ∧ H1 = H) I ⟨.ref f, hs, rfl, rfl⟩) fun u s1 ⟨v, H1, I1, r1, q1⟩ => ?_)
  obtain ⟨rfl, rfl⟩ := q1
  cases r1
  refine PySem.W.callWith_S (h₀ := X.base) I1.ok.mod.kin hk (thn (he.run pins s1 σ H1 _ I1 ht) fun v s2 ⟨y, H2, I2, ry, a, xs, ey, hxs, q2⟩ => ?_) hst
  subst ey
  obtain rfl : v = Value.ref a := ry
  refine StX.star_any I2 hxs fun us s3 I3 rv => ⟨I3.kIn, run_fn (dvs := []) (ds := []) (E := fun _ _ _ => False) F hr hb .nil (fun _ _ _ _ _ _ _ z => z.elim) I3 rv ?_⟩
  rw [List.append_nil]
  exact q2
/-! ### replace of one sign by another -/
theorem replL_map {a b : Nat} : ∀ l : List Nat, StrLaws.replL [a] [b] l = l.map fun c => if c = a then b else c
  | [] => StrLaws.replL_nil
  | c :: l => by
    by_cases h : c = a
    · rw [StrLaws.replL_hit (by simp) (by simp [h])]
      simp [h, replL_map l]
    · rw [StrLaws.replL_miss (by simp [h]), replL_map l]
      simp [h]
theorem replace_Tx {y z : Str} {a b : Nat} (hy : y = Tx [a]) (hz : z = Tx [b]) (l : List Nat) : Txt.replace (Tx l) y z = Tx (l.map fun c => if c = a then b else c) := by
  subst hy hz
  refine TL.ext_tl ?_
  exact (StrLaws.replace_list (by simp [Str.length])).trans (replL_map l)
end Dw

set_option Elab.async false
set_option linter.all false
set_option maxRecDepth 100000
namespace Dw
open PySem L2 Evl
/-! ### a text turned about -/
def tRevS (te : TE) : TE := fun σ H Q => te σ H fun x H1 => ∃ l, x = .str (Tx l) ∧ l.length ≤ 40000 ∧ Q (.str (Tx l.reverse)) H1
theorem rev_Tx (l : List Nat) (u : Tok) : Txt.sliceBy (Tx l) none none (-1, u) = Tx l.reverse := by
  refine TL.ext_tl ?_
  show (Txt.sliceBy (Tx l) none none (-1, u)).cps.toList = l.reverse
  rw [PyProof.Rows.step_rev_list, Tx_len]
  apply List.ext_getElem
  · simp
  · intro i h1 h2
    simp at h1
    simp [Tx, List.getElem_reverse]
    rw [List.getElem?_eq_getElem (by omega)]
    rfl
theorem pe_revS {X : Cx} {e : Expr} {te : TE} {k : Nat} {p1 p2 p3 pos : Pos} (he : PE X e te) : PE X (.Subscript e (.Slice none none (some (.UnaryOp .USub (.Constant (.int 1) k p1) p2)) p3) pos) (tRevS te) := by
  refine ⟨fun pins s σ H Q I h => ?_⟩
  refine PyProof.Rows.Subscript_ (thn (he.run pins s σ H _ I h) fun v s1 ⟨x, H1, I1, r1, q1⟩ => ?_)
  obtain ⟨l, ex, hl, q⟩ := q1
  subst ex
  obtain ⟨t, rfl⟩ := r1
  have hst : PO X (some (.UnaryOp .USub (.Constant (.int 1) k p1) p2)) (tPart (tUn (rU fun i => .int (-i)) (tC (.int 1)))) := po_some (pe_un un_neg pe_int)
  refine wpAny_Slice (thn (po_none.run pins s1 σ H1 (fun o G => o = none ∧ G = H1) I1 ⟨rfl, rfl⟩) fun vl s2 ⟨l2, H2, I2, pl, el, e2⟩ => ?_)
  subst el e2
  refine thn (po_none.run pins s2 σ H2 (fun o G => o = none ∧ G = H2) I2 ⟨rfl, rfl⟩) fun vu s3 ⟨u, H3, I3, pu, eu, e3⟩ => ?_
  subst eu e3
  refine thn (hst.run pins s3 σ H3 (fun o G => o = some (-1) ∧ G = H3) I3 ⟨1, rfl, -1, rfl, rfl, rfl⟩) fun vs s4 ⟨o, H4, I4, ps, eo, e4⟩ => ?_
  subst eo e4
  have I5 : Inv X pins σ H4 { s4 with heap := s4.heap.push { cls := .type "slice", data := .fields #[vl, vu, vs] } } := I4.kept (t' := s4.toks) fun b ob q => Heap.get?_push_of_some _ q
  obtain ⟨a1, rfl, ha1⟩ := IsPart.raw pl
  obtain ⟨a2, rfl, ha2⟩ := IsPart.raw pu
  obtain ⟨a3, rfl, ha3⟩ := IsPart.raw ps
  cases a1 with
  | some _ => cases ha1
  | none =>
    cases a2 with
    | some _ => cases ha2
    | none =>
      cases a3 with
      | none => cases ha3
      | some a3 =>
        obtain ⟨m, uk⟩ := a3
        have hm : m = -1 := by
          have := Option.some.inj ha3
          first | exact this.symm | exact this
        subst hm
        refine PyProof.Rows.tail_any (ops := [.ref s4.heap.objs.size, .str (Tx l) t]) (typeIs_str _ _ _) F.slot_str_getitem.lookup (wpAny_getItem_str_slice (l := none) (u := none) (st := some (-1, uk)) ⟨_, Heap.get?_push_size _ rfl, rfl, rfl⟩ rfl
          (post_val_or_str ⟨Nat.le_trans (Txt.sliceBy_le (Tx l) none none (-1, uk) (show (-1 : Int) ≠ 0 by decide)) (sz_of (by rw [Tx_len]; omega)), fun t' c => ?_⟩)) (by with_unfolding_all rfl)
        have e := rev_Tx l uk
        unfold Txt.sliceBy at e
        first
          | exact ⟨.str (Tx l.reverse), H4, I5.tok c, ⟨t', by rw [e]⟩, q⟩
          | exact ⟨.str (Tx l.reverse), H4, I5.tok c, ⟨t', by rw [← e]; rfl⟩, q⟩
theorem ev_revS {σ : L2.St} {H : Hp} {te : TE} {l : List Nat} (h : Ev te σ H (.str (Tx l))) (hl : l.length ≤ 40000) : Ev (tRevS te) σ H (.str (Tx l.reverse)) := fun H1 e Q q =>
  h H1 e _ fun H2 e2 => ⟨l, rfl, hl, q H2 e2⟩
end Dw

set_option Elab.async false
set_option linter.all false
set_option maxRecDepth 100000
namespace Dw
open PySem L2 Evl
/-! ### sorted of a tuple of texts, of a long list of texts -/
section
open PyProof.Rows
variable {prog : Program} {w : World} {A : Around} {E : Value → Shared → Prop} {s : Shared}
theorem collect_tup {l : Addr} {us : List Value} {R : List Value → Shared → Prop} (ht : s.heap.IsTuple l us.toArray)
    (k : R us { s with heap := (s.heap.push (seqObj "list" #[] 0)).update s.heap.objs.size (Obj.mapSeq (· ++ us.toArray)) }) (few : us.length ≤ sizeLine) : wpAny (model prog w) A (collect (.ref l)) R E s := by
  obtain ⟨ob, hob, hcl, n, hdt⟩ := id ht
  unfold collect
  refine wpAny_bind (wpAny_runValue (codeAny_builtin entry_proto_collect' ?_)); show wpAny _ _ (do again (.builtin "list.__iadd__" ⟨[← newList [], .ref l], []⟩)) _ _ s
  refine wpAny_bind (wpAny_newList (wpAny_pure ⟨Code.quiet_builtin _ (by decide +kernel), codeAny_builtin entry_list_iadd' ?_⟩)); show wpAny _ _ (Builtin.List.listExtendWith (.ref s.heap.objs.size) (.ref l) (.ref s.heap.objs.size)) _ _ { s with heap := s.heap.push (seqObj "list" #[] 0) }
  unfold Builtin.List.listExtendWith
  have hob' : (s.heap.push (seqObj "list" #[] 0)).get? l = some ob := Heap.get?_push_of_some _ hob
  refine wpAny_bind (wpAny_typeOf (T := "tuple") ⟨ob, hob', hcl⟩ ?_)
  rw [if_pos (by rw [show (Value.type "tuple" == Value.type "tuple") = true from rfl, Bool.or_true])]
  refine wpAny_bind (listItems_at hob' hdt ?_)
  refine wpAny_bind (listItems_at (xs := #[]) (n := 0) (Heap.get?_push_size _ rfl) rfl ?_); rw [if_neg (by simp)]
  refine wpAny_bind (listUpdate_at (xs := #[]) (n := 0) (Heap.get?_push_size _ rfl) rfl ?_ (Nat.zero_le _) (by show (#[] ++ us.toArray).size ≤ sizeLine + 1; simp only [Array.size_append, List.size_toArray, List.length_nil]; omega))
  refine wpAny_pure ?_
  show wpAny (model prog w) A (do let o ← load s.heap.objs.size; match o.data with | .seq xs _ => pure xs.toList | _ => unsupported "internal:collect") R E { s with heap := (s.heap.push (seqObj "list" #[] 0)).update s.heap.objs.size (Obj.mapSeq (· ++ us.toArray)) }
  refine wpAny_bind (wpAny_load (get?_update_seq (Heap.get?_push_size _ rfl) _) ?_)
  show wpAny _ _ (pure ((#[] : Array Value) ++ us.toArray).toList) R E _
  rw [show ((#[] : Array Value) ++ us.toArray).toList = us by simp]
  exact wpAny_pure k
theorem sorted_tupStrs {l : Addr} {us : List Value} {ss : List Str} {Q : Value → Shared → Prop} (ht : s.heap.IsTuple l us.toArray) (hS : StrsAre us ss) (few : us.length < 64)
    (h : ∀ (out : Array Value) (ss' : List Str), StrsAre out.toList ss' → ss'.Perm ss → sortedS ss' = true → Q (.ref (s.heap.objs.size + 1)) { s with heap := sortedAll s.heap us out }) :
    wpAny (model prog w) A (call (.builtin "sorted") [.ref l]) Q E s := by
  refine Calls.call_function_entry kind_sorted plain_sorted entry_sorted (args_sorted1 _) ?_; unfold Builtin.«sorted»
  have sz : us.length ≤ sizeLine := by rw [sizeLine_eq]; omega
  refine wpAny_bind (m := checkCount "sorted" 1 1 _) (wpAny_pure (wpAny_bind (collect_tup ht ?_ sz)))
  refine wpAny_bind (wpAny_newList ?_ sz)
  have e1 : ((s.heap.push (seqObj "list" #[] 0)).update s.heap.objs.size (Obj.mapSeq (· ++ us.toArray))).objs.size = s.heap.objs.size + 1 := by rw [Heap.size_update, size_push']
  have e2 : (((s.heap.push (seqObj "list" #[] 0)).update s.heap.objs.size (Obj.mapSeq (· ++ us.toArray))).push (seqObj "list" us.toArray 0)).get? (s.heap.objs.size + 1) = some (seqObj "list" us.toArray 0) := by rw [← e1]; exact Heap.get?_push_size _ rfl
  show wpAny _ _ _ _ _ { s with heap := ((s.heap.push (seqObj "list" #[] 0)).update s.heap.objs.size (Obj.mapSeq (· ++ us.toArray))).push (seqObj "list" us.toArray 0) }
  rw [e1]
  refine wpAny_bind (wpAny_holding (wpAny_call_entry slot_list_sort ⟨_, e2, rfl⟩ entry_list_sort (list_sort_treeK strKind_oneLt e2 hS.keysOf (fun v₁ v₂ rest e => keyKind_strs (by rw [← e]; exact hS)) few fun st' hp hs => ⟨_, rfl, ?_⟩) (args_list_sort _)))
  obtain ⟨ss', h1, h2, h3⟩ := sorted_out_str hS hp hs
  exact wpAny_pure ⟨_, rfl, h _ ss' h1 h2 h3⟩
end
section
variable {X : Cx}
def rSortedTS (K : PySem.W.Frag) : List V → Hp → VK → Prop := fun vs H Q => ∃ (a : Addr) (xs : List Str), vs = [V.ref a] ∧ SqT K H a (xs.map V.str) ∧ xs.length < 64 ∧
  ∀ (ys : List Str) (p : Addr), ys.Perm xs → PyProof.Rows.sortedS ys = true → H p = none → Q (.ref p) (upd H p (.lst (ys.map V.str)))
theorem cr_sortedTS : CallR X (.builtin "sorted") (rSortedTS X.K) := by
  intro pins s σ H vs us Q I r h
  obtain ⟨a, xs, rfl, hs, few, q⟩ := h
  obtain ⟨its, rv, hl, _⟩ := I.tuple hs
  rw [Vals.ref1 r]
  have n0 := rv.length
  rw [List.length_map] at n0
  refine sorted_tupStrs hl rv.strs (by rw [← n0]; exact few) fun out ys h1 h2 h3 => ?_
  obtain ⟨ep, he'⟩ := PyProof.Rows.sortedAll_at s.heap its out
  exact ⟨.ref _, upd H (s.heap.objs.size + 1) (.lst (ys.map V.str)), I.laid (t' := s.toks) (fun _ _ => PyProof.Rows.sortedAll_old) (Nat.le_succ _) ⟨by rw [List.length_map, h2.length_eq]; exact small64 few, out.toList, ep, vals_of_strs h1, he'⟩, rfl, q ys _ h2 h3 (I.hok.fresh (Nat.le_succ _))⟩
def rSortedSA (K : PySem.W.Frag) : List V → Hp → VK → Prop := fun vs H Q => ∃ (a : Addr) (xs : List Str), vs = [V.ref a] ∧ SqL K H a (xs.map V.str) ∧ xs.length ≤ 1000 ∧
  ∀ (ys : List Str) (p : Addr), ys.Perm xs → PyProof.Rows.sortedS ys = true → H p = none → Q (.ref p) (upd H p (.lst (ys.map V.str)))
theorem cr_sortedSA : CallR X (.builtin "sorted") (rSortedSA X.K) := by
  intro pins s σ H vs us Q I r h
  obtain ⟨a, xs, rfl, hs, few, q⟩ := h
  obtain ⟨its, rv, hl, _⟩ := I.list hs
  rw [Vals.ref1 r]
  have n0 := rv.length
  rw [List.length_map] at n0
  have sz : xs.length ≤ sizeLine := Nat.le_of_lt (small1000 few)
  refine PyProof.Rows.sorted_strsAny hl.isList rv.strs (by rw [← n0]; exact sz) fun out ys h1 h2 h3 => ?_
  obtain ⟨ep, he'⟩ := PyProof.Rows.sortedAll_at s.heap its out
  exact ⟨.ref _, upd H (s.heap.objs.size + 1) (.lst (ys.map V.str)), I.laid (t' := s.toks) (fun _ _ => PyProof.Rows.sortedAll_old) (Nat.le_succ _) ⟨by rw [List.length_map, h2.length_eq]; exact sz, out.toList, ep, vals_of_strs h1, he'⟩, rfl, q ys _ h2 h3 (I.hok.fresh (Nat.le_succ _))⟩
end
/-! ### drawn values, signs -/
def Sg (l : List Nat) : Prop := ∀ c ∈ l, c ∈ sgn
def rd (c : Nat) : Nat := if c = 122 then 120 else c
def Sx (l : List Nat) : Prop := ∀ c ∈ l, c ∈ [48, 49, 120]
theorem rd_sx {l : List Nat} (h : Sg l) : Sx (l.map rd) := fun c hc => by
  obtain ⟨d, hd, rfl⟩ := List.mem_map.mp hc
  have := h d hd
  simp only [sgn, List.mem_cons, List.not_mem_nil, or_false] at this
  rcases this with rfl | rfl | rfl | rfl <;> decide
theorem Sg.low {l : List Nat} (h : Sg l) : ∀ c ∈ l, c < 128 := fun c hc => by
  have := h c hc
  simp only [sgn, List.mem_cons, List.not_mem_nil, or_false] at this
  omega
def spVal : Sp := fun vs H Q _ => ∃ (p : Addr) (n : Int), vs = [.ref p, .int n] ∧ PotAt H p ∧ 1 ≤ n ∧ n ≤ 8 ∧ ∀ (H' : Hp) (l : List Nat), ExB p H H' → PotAt H' p → (l.length : Int) = n → Sg l → Q (.str (Tx l)) H'
def spRead : Sp := fun vs H Q _ => ∃ l : List Nat, vs = [.str (Tx l)] ∧ l.length ≤ 1000 ∧ ∀ H', Ex H H' → Q (.str (Tx (l.map rd))) H'
theorem s_0 : Str.ofString "0" = Tx [48] := by decide +kernel
theorem s_1 : Str.ofString "1" = Tx [49] := by decide +kernel
theorem s_x : Str.ofString "x" = Tx [120] := by decide +kernel
theorem s_z : Str.ofString "z" = Tx [122] := by decide +kernel
theorem s_e : Str.ofString "" = Tx [] := by decide +kernel
theorem s_01 : Str.ofString "01" = Tx [48, 49] := by decide +kernel
section
variable {K : PySem.W.Frag} {σ : L2.St} {H : Hp} {ta tb te : TE}
theorem ec_0 : Ev (tC (.str (Str.ofString "0"))) σ H (.str (Tx [48])) := by rw [s_0]; exact ev_c
theorem ec_1 : Ev (tC (.str (Str.ofString "1"))) σ H (.str (Tx [49])) := by rw [s_1]; exact ev_c
theorem ec_x : Ev (tC (.str (Str.ofString "x"))) σ H (.str (Tx [120])) := by rw [s_x]; exact ev_c
theorem ec_z : Ev (tC (.str (Str.ofString "z"))) σ H (.str (Tx [122])) := by rw [s_z]; exact ev_c
theorem ec_e : Ev (tC (.str (Str.ofString ""))) σ H (.str (Tx [])) := by rw [s_e]; exact ev_c
theorem ec_01 : Ev (tC (.str (Str.ofString "01"))) σ H (.str (Tx [48, 49])) := by rw [s_01]; exact ev_c
theorem dec_Tx (a b : List Nat) : decide (V.str (Tx a) = V.str (Tx b)) = decide (a = b) := by
  rw [decide_eq_decide]
  exact ⟨fun h => Tx_inj (V.str.inj h), fun h => by rw [h]⟩
theorem ev_eqT {a b : List Nat} (ha : Ev ta σ H (.str (Tx a))) (hb : Ev tb σ H (.str (Tx b))) : Ev (tOp rEq ta tb) σ H (.bl (decide (a = b))) := by
  rw [← dec_Tx]
  exact ev_op ha hb (rv_eq rfl)
theorem ev_neT {a b : List Nat} (ha : Ev ta σ H (.str (Tx a))) (hb : Ev tb σ H (.str (Tx b))) : Ev (tOp rNe ta tb) σ H (.bl (!decide (a = b))) := by
  rw [← dec_Tx]
  exact ev_op ha hb (rv_ne rfl)
theorem ev_inT {c : Nat} {l : List Nat} (ha : Ev ta σ H (.str (Tx [c]))) (hb : Ev tb σ H (.str (Tx l))) : Ev (tOp rInS ta tb) σ H (.bl (decide (c ∈ l))) := ev_inS ha hb
theorem ev_niT {c : Nat} {l : List Nat} (ha : Ev ta σ H (.str (Tx [c]))) (hb : Ev tb σ H (.str (Tx l))) : Ev (tOp rNotInS ta tb) σ H (.bl (!decide (c ∈ l))) := ev_notInS ha hb
theorem ev_addT {a b : List Nat} (ha : Ev ta σ H (.str (Tx a))) (hb : Ev tb σ H (.str (Tx b))) (hz : a.length + b.length ≤ 100000) :
    Ev (tOp (fun x y H Q => ∃ i j, x = .str i ∧ y = .str j ∧ i.length + j.length ≤ sizeLine ∧ Q (.str (i ++ j)) H) ta tb) σ H (.str (Tx (a ++ b))) :=
  ev_op ha hb fun H1 _ Q q => ⟨Tx a, Tx b, rfl, rfl, sz_of (by rw [Tx_len, Tx_len]; exact hz), by rw [Tx_cat]; exact q H1 (Ex.refl _)⟩
theorem ev_ixT {l : List Nat} {i : Int} {c : Nat} (ha : Ev ta σ H (.str (Tx l))) (hb : Ev tb σ H (.int i)) (hl : l.length ≤ 40000) (hc : atI l i = some c) : Ev (tOp rIxS ta tb) σ H (.str (Tx [c])) :=
  ev_op ha hb (rv_ixS (by rw [Tx_len]; omega) hc)
theorem ev_ifS {b : Bool} {t : TT} {v1 v2 : V} (h : EvT t σ H b) (h1 : Ev ta σ H v1) (h2 : Ev tb σ H v2) : Ev (tIf t ta tb) σ H (if b = true then v1 else v2) :=
  ev_if h (fun e => by rw [e]; exact h1) (fun e => by rw [e]; exact h2)
end
theorem vals_rev : ∀ {a : List V} {b : List Value}, Vals a b → Vals a.reverse b.reverse
  | _, _, .nil => .nil
  | _, _, .cons r t => by
    rw [List.reverse_cons, List.reverse_cons]
    exact (vals_rev t).append (.cons r .nil)
def spLaw (K : PySem.W.Frag) : Sp := fun vs H Q _ => ∃ (a : Addr) (ns : List Int), vs = [.ref a] ∧ SqL K H a (ns.map V.int) ∧ ns.length ≤ 63 ∧ ∀ H', Q (.bl true) H'
end Dw

set_option Elab.async false
set_option linter.all false
set_option maxRecDepth 100000
namespace Dw
open PySem L2 Evl
/-! ### two sorted lists of the same texts are one -/
abbrev leS (a b : Str) : Prop := a.cps.toList ≤ b.cps.toList
theorem risingS_le : ∀ (p : Str) (l : List Str), PyProof.Rows.risingS p l = true → (p :: l).Pairwise leS
  | p, [], _ => List.pairwise_singleton _ _
  | p, x :: r, h => by
    unfold PyProof.Rows.risingS at h
    rw [Bool.and_eq_true] at h
    have ih := risingS_le x r h.2
    have hx : leS p x := by
      have := h.1
      rw [PyProof.Rows.ltCps_eq] at this
      simp at this
      exact this
    refine List.pairwise_cons.mpr ⟨fun y hy => ?_, ih⟩
    rcases List.mem_cons.mp hy with rfl | hy
    · exact hx
    · exact List.le_trans hx ((List.pairwise_cons.mp ih).1 y hy)
theorem sortedS_le : ∀ {l : List Str}, PyProof.Rows.sortedS l = true → l.Pairwise leS
  | [], _ => List.Pairwise.nil
  | x :: r, h => risingS_le x r h
theorem leS_anti {a b : Str} (h1 : leS a b) (h2 : leS b a) : a = b := TL.ext_tl (List.le_antisymm h1 h2)
theorem sorted_one {xs ys zs : List Str} (p1 : xs.Perm zs) (s1 : PyProof.Rows.sortedS xs = true) (p2 : ys.Perm zs) (s2 : PyProof.Rows.sortedS ys = true) : xs = ys :=
  List.Perm.eq_of_pairwise (le := leS) (fun a b _ _ h1 h2 => leS_anti h1 h2) (sortedS_le s1) (sortedS_le s2) (p1.trans p2.symm)
/-! ### mirrors of the operators -/
def mixS (a b : Nat) : Nat := if a = b ∧ a ∈ [48, 49] then a else 120
def anyS (l : List Nat) : Nat := if 49 ∈ l then 49 else if 120 ∈ l then 120 else 48
def allS (l : List Nat) : Nat := if 48 ∈ l then 48 else if 120 ∈ l then 120 else 49
def pickS (c : Nat) (a b : List Nat) : List Nat := if c = 120 then List.zipWith mixS a b else if c = 49 then a else b
def partS (l : List Nat) (hi lo : Nat) : List Nat := (l.drop (l.length - 1 - hi)).take (hi + 1 - lo)
def spMixS : Sp := fun vs H Q _ => ∃ a b : Nat, vs = [.str (Tx [a]), .str (Tx [b])] ∧ ∀ H', Ex H H' → Q (.str (Tx [mixS a b])) H'
def spMixed : Sp := fun vs H Q _ => ∃ a b : List Nat, vs = [.str (Tx a), .str (Tx b)] ∧ a.length = b.length ∧ a.length ≤ 1000 ∧ ∀ H', Ex H H' → Q (.str (Tx (List.zipWith mixS a b))) H'
def spOne (f : List Nat → Nat) : Sp := fun vs H Q _ => ∃ l : List Nat, vs = [.str (Tx l)] ∧ ∀ H', Ex H H' → Q (.str (Tx [f l])) H'
def spPick : Sp := fun vs H Q _ => ∃ (c : Nat) (a b : List Nat), vs = [.str (Tx [c]), .str (Tx a), .str (Tx b)] ∧ a.length = b.length ∧ a.length ≤ 1000 ∧ ∀ H', Ex H H' → Q (.str (Tx (pickS c a b))) H'
def spJoin : Sp := fun vs H Q _ => ∃ a b : List Nat, vs = [.str (Tx a), .str (Tx b)] ∧ a.length + b.length ≤ 1000 ∧ ∀ H', Ex H H' → Q (.str (Tx (a ++ b))) H'
def spPart : Sp := fun vs H Q _ => ∃ (l : List Nat) (hi lo : Nat), vs = [.str (Tx l), .int (hi : Int), .int (lo : Int)] ∧ lo ≤ hi ∧ hi < l.length ∧ l.length ≤ 1000 ∧ ∀ H', Ex H H' → Q (.str (Tx (partS l hi lo))) H'
section
variable {K : PySem.W.Frag} {σ : L2.St} {H : Hp} {ta tb te : TE} {tl th : TO}
theorem cut_Tx (l : List Nat) (i j : Nat) (hij : i ≤ j) (hj : j ≤ l.length) : cutS (Tx l) (some (i : Int)) (some (j : Int)) = Tx ((l.drop i).take (j - i)) := by
  unfold cutS
  rw [Tx_len, HT.sIx_nat, HT.sIx_nat, Nat.min_eq_left hj, Nat.min_eq_left (by omega)]
theorem ev_cutT {l : List Nat} {i j : Nat} (ha : Ev te σ H (.str (Tx l))) (h1 : EvO tl σ H (some (i : Int))) (h2 : EvO th σ H (some (j : Int))) (hij : i ≤ j) (hj : j ≤ l.length) (hz : l.length ≤ 40000) : Ev (tSl rSlS te tl th) σ H (.str (Tx ((l.drop i).take (j - i)))) := fun H1 e Q q =>
  ha H1 e _ fun H2 e2 => h1 H2 (e.trans e2) _ fun H3 e3 => h2 H3 ((e.trans e2).trans e3) _ fun H4 e4 => ⟨Tx l, rfl, sz_of (by rw [Tx_len]; omega), by rw [cut_Tx l i j hij hj]; exact q H4 ((e2.trans e3).trans e4)⟩
/-- a new list of texts, of what a def tells of each of a list's texts -/
theorem el_lcV {xs : List (List Nat)} {a : Addr} {tl : TE} {j : Nat} {vs : List Nat} (g : List Nat → V) (h : Ev tl σ H (.ref a)) (hx : SqL K H a (xs.map fun l => V.str (Tx l))) (hz : xs.length ≤ 40000) (hw : ∀ x, wipe ((wipe σ vs).set j (some x)) vs = wipe σ vs)
    (he : ∀ (l : List Nat) H1, Ex H H1 → l ∈ xs → Ev te ((wipe σ vs).set j (some (.str (Tx l)))) H1 (g l)) :
    EvL (tLc (iList K tl) (gName j) tYes te vs) σ H (xs.map g) := by
  have hs : (xs.map fun l => V.str (Tx l)).length = xs.length := List.length_map _
  rw [← given_all xs [] g, ← hs]
  refine el_lcL (fun _ => true) (fun i => g (xs.getD i [])) h hx (by omega) hw (fun i x H1 e hi => et_yes) (fun i x H1 e hi _ => ?_)
  rw [List.getElem?_map] at hi
  cases hq : xs[i]? with
  | none =>
    rw [hq] at hi
    cases hi
  | some l =>
    rw [hq] at hi
    have ex : V.str (Tx l) = x := Option.some.inj hi
    subst ex
    rw [show xs.getD i [] = l by rw [List.getD_eq_getElem?_getD, hq]; rfl]
    exact he l H1 e (List.mem_of_getElem? hq)
end
end Dw

set_option Elab.async false
set_option linter.all false
set_option maxRecDepth 100000
namespace Dw
open PySem L2 Evl
section
variable {K : PySem.W.Frag} {σ : L2.St} {H : Hp} {ta : TA} {te tx : TE} {t : TT} {z : V}
/-- [e for k in range(i, j, -1)] -/
theorem el_lcR3 {j : Nat} {vs : List Nat} {a b : Int} (v : Nat → V) (h : EvA ta σ H [.int a, .int b, .int (-1)]) (hr : 0 ≤ a ∧ a ≤ 1000 ∧ -1 ≤ b ∧ b ≤ a) (hw : ∀ x, wipe ((wipe σ vs).set j (some x)) vs = wipe σ vs)
    (he : ∀ (i : Nat) H1, Ex H H1 → (i : Int) < a - b → Ev te ((wipe σ vs).set j (some (.int (a - (i : Int))))) H1 (v i)) :
    EvL (tLc (iRng3 ta) (gName j) tYes te vs) σ H ((List.range (a - b).toNat).map v) := fun H0 e Q q => h H0 e _ fun H1 e1 => ⟨a, b, -1, (a - b).toNat, rfl, RgC.neg (by omega) (by omega) (by omega) (by omega), fun Dl hD => by
  have e2 : (List.range (a - b).toNat).map v = given (a - b).toNat (fun _ => true) v := by
    unfold given
    rw [List.filter_eq_self.mpr (fun _ _ => rfl)]
  rw [e2] at q
  refine lc_it walk_rangeC (Cw H1 (fun _ => true) v Dl) ⟨hD, Ex.new hD, upd_same⟩ (fun _ _ _ _ => True.intro) (fun i x H2 H3 hi p y => ?_) (fun H' p => q Dl H' (fresh_back e1 p.1) (e1.trans p.2.1) p.2.2)
  obtain ⟨rfl, hx⟩ := y
  have hx2 : x = .int (a - (i : Int)) := by
    rw [hx]
    show V.int (a + (i : Int) * -1) = V.int (a - (i : Int))
    congr 1
    omega
  subst hx2
  exact ⟨hw _, cw_turn p (by omega) et_yes fun _ => he i H1 (e.trans e1) (by omega)⟩⟩
/-- f('word', [..]) -/
theorem ev_callL2 {sp : Sp} {dvs : List V} {E : XK} {w : V} {xs : List V} (h : EvL te σ H xs) (hs : ∀ p H1, H1 p = some (.lst xs) → Ex H H1 → SpV sp ([w, .ref p] ++ dvs) H1 z) : Ev (tCall sp dvs E (tCons (tC w) (tCons te tNil))) σ H z := fun H1 e Q q =>
  h H1 e _ fun p H2 _ e2 h2 => hs p H2 h2 (e.trans e2) H2 (Ex.refl _) Q (fun H3 e3 => q H3 (e2.trans e3)) E
/-- f('word', [..], k=..) -/
theorem ev_callNL2 {sp : Sp} {n m : Nat} {gV : List V → List V → List V} {E : XK} {tK : TA} {w : V} {xs zs : List V} (h : EvL te σ H xs) (hk : EvA tK σ H zs) (l1 : 2 = n) (l2 : zs.length = m) (hs : ∀ p H1, H1 p = some (.lst xs) → Ex H H1 → SpV sp (gV [w, .ref p] zs) H1 z) : Ev (tCallN n m sp gV E (tCons (tC w) (tCons te tNil)) tK) σ H z := fun H1 e Q q =>
  h H1 e _ fun p H2 _ e2 h2 => hk H2 (e.trans e2) _ fun H3 e3 => ⟨l1, l2, hs p H3 (e3 _ _ h2) ((e.trans e2).trans e3) H3 (Ex.refl _) Q (fun H4 e4 => q H4 ((e2.trans e3).trans e4)) E⟩
end
theorem mul_ok : ∀ d ∈ [48, 49], ∀ n : Fin 9, MulOk (Tx [d]) ((n.val : Nat) : Int) ∧ Txt.mul (Tx [d]) ((n.val : Nat) : Int) = Tx (List.replicate n.val d) := by
  simp only [MulOk]
  decide +kernel
theorem mul_Tx {d : Nat} (hd : d ∈ [48, 49]) {n : Nat} (hn : n ≤ 8) : MulOk (Tx [d]) (n : Int) ∧ Txt.mul (Tx [d]) (n : Int) = Tx (List.replicate n d) := mul_ok d hd ⟨n, by omega⟩
theorem part_due (L : List Nat) (hi lo : Nat) (h1 : lo ≤ hi) (h2 : hi < L.length) : (List.range (hi + 1 - lo)).map (fun t => L.reverse.getD (hi - t) 0) = partS L hi lo := by
  unfold partS
  apply List.ext_getElem
  · simp
    omega
  · intro i h3 h4
    simp at h3
    simp
    rw [List.getElem?_reverse (by omega), List.getElem?_eq_getElem (by omega)]
    show L[L.length - 1 - (hi - i)] = L[L.length - 1 - hi + i]
    congr 1
    omega
theorem mix_rd {a b : Nat} (ha : a ∈ sgn) (hb : b ∈ sgn) : mixS (rd a) (rd b) = mixS a b := by
  simp only [sgn, List.mem_cons, List.not_mem_nil, or_false] at ha hb
  rcases ha with rfl | rfl | rfl | rfl <;> rcases hb with rfl | rfl | rfl | rfl <;> decide
theorem mixed_rd : ∀ {a b : List Nat}, Sg a → Sg b → List.zipWith mixS (a.map rd) (b.map rd) = List.zipWith mixS a b
  | [], _, _, _ => by simp
  | _ :: _, [], _, _ => by simp
  | x :: a, y :: b, ha, hb => by
    rw [List.map_cons, List.map_cons, List.zipWith_cons_cons, List.zipWith_cons_cons, mix_rd (ha x (List.mem_cons_self ..)) (hb y (List.mem_cons_self ..)), mixed_rd (fun c hc => ha c (List.mem_cons_of_mem _ hc)) (fun c hc => hb c (List.mem_cons_of_mem _ hc))]
theorem mem_rd {l : List Nat} {c : Nat} (hc : c = 48 ∨ c = 49) : c ∈ l.map rd ↔ c ∈ l := by
  rw [List.mem_map]
  constructor
  · rintro ⟨d, hd, e⟩
    unfold rd at e
    by_cases h : d = 122
    · rw [if_pos h] at e
      omega
    · rw [if_neg h] at e
      rw [← e]
      exact hd
  · intro h
    exact ⟨c, h, by unfold rd; rw [if_neg (by omega)]⟩
theorem x_rd {l : List Nat} (h : Sg l) (u d : Nat) (hud : (u = 48 ∧ d = 49) ∨ (u = 49 ∧ d = 48)) (hu : u ∉ l) : 120 ∈ l.map rd ↔ ¬ l = List.replicate l.length d := by
  rw [List.mem_map]
  constructor
  · rintro ⟨c, hc, e⟩ hr
    rw [hr] at hc
    have := (List.mem_replicate.mp hc).2
    subst this
    unfold rd at e
    by_cases h2 : c = 122
    · omega
    · rw [if_neg h2] at e
      omega
  · intro hn
    by_cases hx : ∃ c ∈ l, rd c = 120
    · obtain ⟨c, hc, e⟩ := hx
      exact ⟨c, hc, e⟩
    · exfalso
      apply hn
      rw [List.eq_replicate_iff]
      refine ⟨rfl, fun c hc => ?_⟩
      have h3 := h c hc
      have h4 : rd c ≠ 120 := fun e => hx ⟨c, hc, e⟩
      have h5 : c ≠ u := fun e => hu (by rw [← e]; exact hc)
      simp only [sgn, List.mem_cons, List.not_mem_nil, or_false] at h3
      rcases h3 with rfl | rfl | rfl | rfl
      · omega
      · omega
      · exact absurd rfl h4
      · exact absurd rfl h4
end Dw

set_option Elab.async false
set_option linter.all false
set_option maxRecDepth 100000
namespace Dw
open PySem L2 Evl
/-! ### set(xs) of a list of whole numbers (the library has it of a tuple) -/
section
open PyProof.Rows
variable {P : Program} {w : World} {A : Around} {E : Value → Shared → Prop} {s : Shared}
abbrev set0 (w : World) : Obj := { cls := .type "set", dict := none, data := .set #[] 0 (.fresh 0 0 (!w.params.followText "set-order")) }
/-- set.__init__ of a set just made, handed a list -/
theorem init_set_lst {l : Addr} {us : Array Value} (ns : List Int) {R : PySem.Fin → Shared → Prop} (calm : A.handled = none) (isl : s.heap.IsList l us) (hni : IntsAre us.toList ns) (few : ns.length + 1 < scanBound)
    (k : ∀ (g : Heap) (tk c : Nat), SetR w g s.heap.objs.size (fun j => decide (j ∈ ns)) c → c ≤ ns.length → (∀ b o, s.heap.get? b = some o → g.get? b = some o) → R (.done (.ret .none)) { s with heap := g, toks := tk }) :
    wpAny (model P w) A (Builtin.«set.__init__» ⟨[.ref s.heap.objs.size, .ref l], []⟩) R E { s with heap := s.heap.push (set0 w) } := by
  have nI : us.size = ns.length := by
    rw [← Array.length_toList]
    exact IntsAre.length hni
  obtain ⟨⟨k1, k2, k3, k4⟩, at0, kc, nn, kd⟩ := isl
  simp only at kc kd
  subst kc kd
  have at1 : (s.heap.push (set0 w)).get? s.heap.objs.size = some (set0 w) := Heap.get?_push_size _ rfl
  have at2 : (s.heap.push (set0 w)).get? l = some ⟨.type "list", k2, .seq us nn, k4⟩ := Heap.get?_push_of_some _ at0
  have b1 := F.sub_list_set
  have b2 := F.sub_list_frozenset
  have b3 : (Value.type "list" == Value.type "dict") = false := by decide
  have b4 : (s.heap.push (set0 w)).IsList l us := ⟨_, at2, rfl, nn, rfl⟩
  unfold Builtin.«set.__init__» noKeywords Builtin.Frozenset.updateFrom
  generalize eI : pyIter = PI
  wp_walk
  subst eI
  refine wpAny_pyIter_list b4 (wpAny_bind (wpAny_runValue ?_))
  have lt : l < s.heap.objs.size := Heap.lt_size at0
  have n1 : (s.heap.push (set0 w)).objs.size = s.heap.objs.size + 1 := Heap.size_push ..
  have c2 : A.in1.handled = none := by simp [calm]
  have n2 : l ≠ (s.heap.push (set0 w)).objs.size := by
    rw [n1]
    exact Nat.ne_of_lt (Nat.lt_succ_of_lt lt)
  have n3 : s.heap.objs.size ∉ [(s.heap.push (set0 w)).objs.size, l] := by
    rw [n1]
    simp only [List.mem_cons, List.not_mem_nil, or_false, not_or]
    exact ⟨Nat.ne_of_lt (Nat.lt_succ_self _), Nat.ne_of_gt lt⟩
  refine set_update_ints ((Walks.list c2 _ l n2 us).toS) s.heap.objs.size n3 ns nI few (fun i v hv => ?_) (us.size - 0) 0 _ (by omega) (Nat.zero_le _) ⟨⟨_, Heap.get?_push_size _ rfl, rfl, rfl⟩, b4.push _⟩ ⟨0, Nat.le_refl 0, setR_new_at (Heap.get?_push_of_some _ at1)⟩ fun s' c mv hc hS => ?_
  · have hi : i < ns.length := by
      rw [← nI]
      exact (Array.getElem?_eq_some_iff.mp hv).1
    obtain ⟨t, e⟩ := IntsAre.int_at hni i v (by rw [Array.getElem?_toList]; exact hv)
    exact ⟨ns[i], t, List.getElem?_eq_getElem hi, by rw [e, List.getD_eq_getElem?_getD, List.getElem?_eq_getElem hi]; rfl⟩
  · obtain ⟨g, g2, d2, tk, o2⟩ := s'
    have e1 : g2 = s.gens := mv.gens
    have e2 : d2 = s.drawn := mv.drawn
    have e3 : o2 = s.os := mv.os
    subst e1 e2 e3
    rw [nI] at hc
    refine wpAny_pure (wpAny_pure (k g tk c hS hc fun b o e => ?_))
    have lb : b < s.heap.objs.size := Heap.lt_size e
    refine mv.heap b o (fun hm => ?_) (Heap.get?_push_of_some _ (Heap.get?_push_of_some _ e))
    rw [n1] at hm
    simp only [List.mem_cons, List.not_mem_nil, or_false] at hm
    rcases hm with hm | hm
    · exact absurd hm (Nat.ne_of_lt lb)
    · exact absurd hm (Nat.ne_of_lt (Nat.lt_succ_of_lt lb))
theorem call_set_lst {l : Addr} {us : Array Value} (ns : List Int) {Q : Value → Shared → Prop} (calm : A.handled = none) (isl : s.heap.IsList l us) (hni : IntsAre us.toList ns) (few : ns.length + 1 < scanBound)
    (k : ∀ (g : Heap) (tk c : Nat), SetR w g s.heap.objs.size (fun j => decide (j ∈ ns)) c → c ≤ ns.length → (∀ b o, s.heap.get? b = some o → g.get? b = some o) → Q (.ref s.heap.objs.size) { s with heap := g, toks := tk }) :
    wpAny (model P w) A (call (.type "set") [.ref l]) Q E s := by
  obtain ⟨c0, t0, m0⟩ := F.called_set.mro
  have f1 := F.called_set.made
  have f2 := F.called_set.sub
  have f3 := F.called_set.notType
  have f4 := F.called_set.canCreate
  have f5 := F.typeCall_set_1 (.ref l)
  refine wpAny_call (codeAny_of_tree (show wpAny _ _ (callAny (.type "set") _) _ _ _ from wpAny_pure ⟨Code.quiet_builtin _ (by decide +kernel), codeAny_builtin F.entry_type_call ?_⟩))
  rw [Around.under_plain (weight_type_call_type "set" [.ref l] []) rfl]
  (repeat (any_goals (first | assumption | wp_step)))
  refine codeAny_mono (code_set_led1 (.ref l) (E := E) (Q₁ := fun v s1 => v = .ref s.heap.objs.size ∧ s1 = { s with heap := s.heap.push (set0 w) }) ⟨rfl, rfl⟩) fun r s1 hr => ?_
  match r, hr with
  | .error e, hr => exact hr
  | .ok (.ret v), hr =>
    obtain ⟨rfl, rfl⟩ := hr
    have ty : Shared.TypeIs { s with heap := s.heap.push (set0 w) } (.ref s.heap.objs.size) "set" := ⟨_, Heap.get?_push_size _ rfl, rfl⟩
    have f6 := F.called_set.init.lookup
    have f7 := F.called_set.init.bind (.ref s.heap.objs.size)
    (repeat (any_goals (first | assumption | wp_step)))
    refine codeAny_mono (codeAny_call_builtin (R := wants (fun r s2 => r = .none ∧ Q (.ref s.heap.objs.size) s2) E) F.called_set.init.plain F.entry_set_init (check_set_init_1 ty ?_)) fun r2 s2 q => ?_
    · exact init_set_lst ns (A := A.in1.in1) (by simp [calm]) isl hni few fun g tk c h1 h2 h3 => ⟨rfl, k g tk c h1 h2 h3⟩
    · match r2, q with
      | .error e, q => exact q
      | .ok (.ret v), q =>
        obtain ⟨rfl, q⟩ := q
        (repeat (any_goals (first | assumption | wp_step)))
      | .ok .next, q => exact q.elim
      | .ok .brk, q => exact q.elim
      | .ok .cont, q => exact q.elim
  | .ok .next, hr => exact hr.elim
  | .ok .brk, hr => exact hr.elim
  | .ok .cont, hr => exact hr.elim
end
section
variable {X : Cx}
def rSetI (K : PySem.W.Frag) (w : World) : List V → Hp → VK → Prop := fun xs H Q => ∃ (l : Addr) (ns : List Int), xs = [.ref l] ∧ SqL K H l (ns.map V.int) ∧ ns.length ≤ 4000 ∧ ∀ (a : Addr) (c : Nat), H a = none → c ≤ ns.length → Q (.ref a) (upd H a (SetO w a (fun j => decide (j ∈ ns)) c))
theorem cr_setI (hc : X.calm = true) : CallR X (.type "set") (rSetI X.K X.w) := by
  intro pins s σ H xs us Q I r h
  obtain ⟨l, ns, rfl, hl, hn, q⟩ := h
  rw [Vals.ref1 r]
  obtain ⟨its, rv, pl, hz⟩ := I.list hl
  refine call_set_lst ns (I.ok.hd hc) pl.isList (by simpa using rv.ints) (by unfold scanBound; omega) fun g tk c hS hc2 hk => ?_
  exact ⟨.ref s.heap.objs.size, upd H s.heap.objs.size (SetO X.w s.heap.objs.size (fun j => decide (j ∈ ns)) c), I.laid (t' := tk) hk (Nat.le_refl _) (setO_new hS), rfl, q _ c (I.hok.fresh (Nat.le_refl _)) hc2⟩
end
/-- of a list of noughts and ones, sorted, each once -/
def su (ns : List Int) : List Int := (if 0 ∈ ns then [0] else []) ++ (if 1 ∈ ns then [1] else [])
theorem su_one {ns ms : List Int} (h01 : ∀ k ∈ ns, k = 0 ∨ k = 1) (hp : ms.Pairwise (· < ·)) (hm : ∀ k : Int, k ∈ ms ↔ k ∈ ns) : ms = su ns := by
  have sub : ∀ k ∈ ms, k = 0 ∨ k = 1 := fun k hk => h01 k ((hm k).mp hk)
  unfold su
  simp only [← hm]
  clear hm h01
  match ms, hp, sub with
  | [], _, _ => simp
  | [a], _, sub =>
    rcases sub a (by simp) with rfl | rfl <;> simp
  | [a, b], hp, sub =>
    have h1 : a < b := (List.pairwise_cons.mp hp).1 b (by simp)
    rcases sub a (by simp) with rfl | rfl <;> rcases sub b (by simp) with rfl | rfl <;> first | omega | simp
  | a :: b :: c :: r, hp, sub =>
    have h1 : a < b := (List.pairwise_cons.mp hp).1 b (by simp)
    have h2 : b < c := (List.pairwise_cons.mp (List.pairwise_cons.mp hp).2).1 c (by simp)
    have := sub a (by simp)
    have := sub c (by simp)
    have := sub b (by simp)
    omega
theorem el_su {K : PySem.W.Frag} {w : World} {σ : L2.St} {H : Hp} {te : TE} {ns : List Int} (h : EvL te σ H (ns.map V.int)) (h01 : ∀ k ∈ ns, k = 0 ∨ k = 1) (hz : ns.length < 64) : EvL (tCB (rSortedSet w) (tCons (tCB (rSetI K w) (tCons te tNil)) tNil)) σ H ((su ns).map V.int) := fun H1 e Q q =>
  h H1 e _ fun p H2 np e2 h2 => ⟨p, ns, rfl, sq_of h2, by omega, fun a c na hc => ⟨a, _, c, rfl, upd_same, by omega, fun ms r hp hm _ nr => by
    rw [su_one h01 hp (fun k => (hm k).trans decide_eq_true_iff)]
    exact q r _ (fresh_back e2 (fresh_back (Ex.new na) nr)) ((e2.trans (Ex.new na)).trans (Ex.new nr)) upd_same⟩⟩
/-- the same of a list that a name holds -/
theorem el_suV {K : PySem.W.Frag} {w : World} {σ : L2.St} {H : Hp} {te : TE} {ns : List Int} {p : Addr} (h : Ev te σ H (.ref p)) (hp0 : SqL K H p (ns.map V.int)) (h01 : ∀ k ∈ ns, k = 0 ∨ k = 1) (hz : ns.length < 64) : EvL (tCB (rSortedSet w) (tCons (tCB (rSetI K w) (tCons te tNil)) tNil)) σ H ((su ns).map V.int) := fun H1 e Q q =>
  h H1 e _ fun H2 e2 => ⟨p, ns, rfl, ex_l (e.trans e2) hp0, by omega, fun a c na hc => ⟨a, _, c, rfl, upd_same, by omega, fun ms r hp hm _ nr => by
    rw [su_one h01 hp (fun k => (hm k).trans decide_eq_true_iff)]
    exact q r _ (fresh_back e2 (fresh_back (Ex.new na) nr)) ((e2.trans (Ex.new na)).trans (Ex.new nr)) upd_same⟩⟩
end Dw

set_option Elab.async false
set_option linter.all false
set_option maxRecDepth 100000
namespace Dw
open PySem L2 Evl
/-! ### f'{n:b}' of a number below 256 -/
def binS (n : Nat) : Str := Tx ((Nat.toDigits 2 n).map Char.toNat)
theorem binS_len : ∀ n : Fin 256, (binS n.val).length ≤ 8 := by decide +kernel
end Dw
namespace PySem.W
open PySem PySem.Spec PySem.Calls PyProof.Rows PySem.Builtin PySem.Builtin.Float
section
variable {prog : Program} {w : World} {A : Around} {E : Value → Shared → Prop} {s : Shared} {t : Tok}
theorem field_b {n : Nat} {Q : Value → Shared → Prop} (hn : n < 256) (h : ∀ t' k, Q (.str (Dw.binS n) t') { s with toks := k }) : wpAny (model prog w) A (formatField (.int (n : Int) t) (PySem.Str.ofString "b")) Q E s := by
  have hp : parseFormatSpec (PySem.Str.ofString "b").cps.toList "int" 62 = .ok ⟨32, 62, none, false, false, none, none, none, some 98⟩ := by rfl
  obtain ⟨f, hf⟩ : ∃ f : FormatSpec, f = ⟨32, 62, none, false, false, none, none, none, some 98⟩ := ⟨_, rfl⟩
  rw [← hf] at hp
  have hty : f.type = some 98 := by rw [hf]
  have hpr : f.precision = none := by rw [hf]
  have hz : f.noNeg0 = false := by rw [hf]
  have hw : f.width = none := by rw [hf]
  have hne : ((PySem.Str.ofString "b").length == 0) = false := by decide +kernel
  have hasc : (((PySem.Str.ofString "b").cps.toList.drop 1).any (· ≥ 128) || ((PySem.Str.ofString "b").cps.getD 0 0 ≥ 128 && !([60, 62, 61, 94] : List Nat).contains ((PySem.Str.ofString "b").cps.getD 1 0))) = false := by decide +kernel
  have hsz : (PySem.Str.ofString "b").length ≤ sizeLine := by decide +kernel
  generalize PySem.Str.ofString "b" = spec at hp hne hasc hsz ⊢
  refine KXf.field_int (spec := spec) (spec' := spec) (y := Dw.binS n) rfl hne hsz (fun u => ?_) h
  apply KPc.meets_of
  intro _ _ _ _ _ _ hq
  unfold Builtin.«int.__format__»
  simp only [selfAndOne, noKeywords, Int.intOfSelf, asInt?, asStr?, List.isEmpty_nil, if_true, pure_bind, bind_pure, bind_assoc, hne, hasc, Bool.false_eq_true, if_false,
    show (Value.str spec u == Value.none) = false from rfl]
  refine wpAny_bind (wpAny_typeNameOf (T := "str") (typeIs_str _ _ _) (by decide) fun _ => ?_)
  refine wpAny_bind (wpAny_typeNameOfCut_int ?_)
  simp only [hp, hty, Option.getD_some]
  rw [if_pos (by decide)]
  show wpAny _ _ (if _ then _ else _) _ _ _
  rw [if_neg (by simp [hpr])]
  show wpAny _ _ (if _ then _ else _) _ _ _
  rw [if_neg (by simp [hz])]
  show wpAny _ _ (if _ then _ else _) _ _ _
  rw [if_neg (by decide)]
  show wpAny _ _ (if _ then _ else _) _ _ _
  rw [if_neg (by decide)]
  show wpAny _ _ (if _ then _ else _) _ _ _
  rw [if_neg (by simp [hw])]
  show wpAny _ _ (retStr _) _ _ _
  subst hf
  refine KXf.ret_text (T := Dw.binS n) ?_ ?_ ?_
  · clear h hq
    revert n
    decide +kernel
  · clear h hq
    revert n
    decide +kernel
  · exact hq
end
end PySem.W

namespace Dw
open PySem L2 Evl
section
variable {X : Cx}
def tFmtB (te : TE) : TE := fun σ H Q => te σ H fun x H1 => ∃ n : Nat, x = .int (n : Int) ∧ n < 256 ∧ Q (.str (binS n)) H1
theorem pe_fmtB {e : Expr} {te : TE} {pos p1 p2 : Pos} {k : Nat} (he : PE X e te) : PE X (.FormattedValue e (-1) (some (.JoinedStr [.Constant (.str (Str.ofString "b")) k p1] p2)) pos) (tFmtB te) := by
  refine ⟨fun pins s σ H Q I h => ?_⟩
  refine wpAny_FormattedValue_spec (thn (he.run pins s σ H _ I h) fun v s1 hv => ?_)
  obtain ⟨x, H1, I1, r1, n, rfl, hn, q⟩ := hv
  obtain ⟨t, rfl⟩ := r1
  refine thn ((pe_joined1 (X := X) (pe_str (X := X))).run pins s1 σ H1 (fun x H2 => x = .str (Str.ofString "b") ∧ Q (.str (binS n)) H2) I1 ⟨rfl, q⟩) fun v2 s2 hv2 => ?_
  obtain ⟨x2, H2, I2, r2, rfl, q2⟩ := hv2
  obtain ⟨t2, rfl⟩ := r2
  exact ⟨_, t2, rfl, PySem.W.field_b hn fun t' k => ⟨.str (binS n), H2, I2.tok _, ⟨_, rfl⟩, q2⟩⟩
end
/-- the bits of n, the highest first, w of them -/
def bitsL : Nat → Nat → List Nat
  | 0, _ => []
  | w + 1, n => bitsL w (n / 2) ++ [48 + n % 2]
theorem zfill_bits : ∀ w : Fin 9, ∀ n : Fin 256, n.val < 2 ^ w.val → 0 < w.val → Txt.zfill (binS n.val) (w.val : Int) = Tx (bitsL w.val n.val) := by decide +kernel
theorem intBits_le : ∀ w : Fin 9, ∀ n : Fin 256, decide ((Builtin.Int.intBits (n.val : Int) : Int) > (w.val : Int)) = !decide (n.val < 2 ^ w.val) := by decide +kernel
end Dw

set_option Elab.async false
set_option linter.all false
set_option maxRecDepth 100000
namespace Dw
open PySem L2 Evl
/-! ### errors -/
theorem pss_if_fact {X : Cx} {p : Prop} {ss : List Stmt} {t : TS} (h : p → PSs X ss t) : PSs X ss (fun D σ H => p ∧ t D σ H) := ⟨fun pins s σ H D I q => (h q.1).run pins s σ H D I q.2⟩
/-- an error of the class at S is caught by a clause that names it -/
theorem exm_by {K : PySem.W.Frag} {S C : Addr} (h1 : PySem.W.subIn K (.ref C) (.type "BaseException") = some true) (h2 : PySem.W.isClsIn K C = true) (h3 : PySem.W.typeIn K (.ref C) = some (.type "type")) (h4 : PySem.W.subIn K (.ref S) (.ref C) = some true) :
    PySem.W.exmOne K (.ref S) (.ref C) = some true := by
  have e1 : (PySem.W.subIn K (.ref C) (.type "BaseException") == some true) = true := by rw [h1] <;> rfl
  have e2 : ((PySem.W.clsIn K C).isSome && PySem.W.typeIn K (.ref C) == some (.type "type")) = true := by
    have h2' : (PySem.W.clsIn K C).isSome = true := h2
    rw [h2', h3] <;> rfl
  show (if _ then (if _ then _ else none) else none) = some true
  rw [if_pos e1, if_pos e2]
  exact h4
theorem kit_by {K : PySem.W.Frag} {S C : Addr} (h2 : PySem.W.isClsIn K C = true) (h3 : PySem.W.typeIn K (.ref C) = some (.type "type")) (h4 : PySem.W.subIn K (.ref S) (.ref C) = some true) : PySem.W.kitOne K (.ref S) (.ref C) = some true := by
  have e2 : ((PySem.W.clsIn K C).isSome && PySem.W.typeIn K (.ref C) == some (.type "type")) = true := by
    have h2' : (PySem.W.clsIn K C).isSome = true := h2
    rw [h2', h3] <;> rfl
  unfold PySem.W.kitOne
  split
  · rfl
  · show (if _ then _ else none) = some true
    rw [if_pos e2]
    exact h4
theorem kit_byT {K : PySem.W.Frag} {S : Addr} {T : String} {b : Bool} (hm : PySem.W.kitMeta T = true) (h : PySem.W.subIn K (.ref S) (.type T) = some b) : PySem.W.kitOne K (.ref S) (.type T) = some b := by
  unfold PySem.W.kitOne
  rw [if_neg (by intro z; cases z)]
  show (if _ then _ else none) = some b
  rw [if_pos hm]
  exact h
theorem ix_listK {X : Cx} {K : PySem.W.Frag} (h : X.K = K) : IxR X (rIxL K) := h ▸ ix_list
section
variable {K : PySem.W.Frag} {σ : L2.St} {H H' : Hp} {ta tb tc te tx tl : TE} {t u : TT} {x y z v : V}
theorem ev_isE {D a : Addr} {c : V} {cv : Value} {b : Bool} (ha : Ev ta σ H (.ref a)) (hb : Ev tb σ H c) (hcv : ∀ u, RelV c u → u = cv) (hk : PySem.W.kitOne K (.ref D) cv = some b) : Ev (tCB (rIsE K D a) (tCons ta (tCons tb tNil))) σ H (.bl b) := fun H1 e Q q =>
  ha H1 e _ fun H2 e2 => hb H2 (e.trans e2) _ fun H3 e3 => ⟨c, cv, b, rfl, hcv, hk, q H3 (e2.trans e3)⟩
theorem ev_int1 {b : Bool} (h : Ev te σ H (.bl b)) : Ev (tCB (fun xs H Q => (∃ i, xs = [.int i] ∧ Q (.int i) H) ∨ ∃ k, xs = [.bl k] ∧ Q (.int (if k then 1 else 0)) H) (tCons te tNil)) σ H (.int (if b then 1 else 0)) := fun H1 e Q q => h H1 e _ fun H2 e2 => .inr ⟨b, rfl, q H2 e2⟩
theorem ev_intS {a : Str} {n : Int} (h : Ev te σ H (.str a)) (hn : PySem.intText? a = some n) (hl : a.length ≤ 640) : Ev (tCB (fun xs H Q => ∃ a n, xs = [.str a] ∧ PySem.intText? a = some n ∧ a.length ≤ 640 ∧ Q (.int n) H) (tCons te tNil)) σ H (.int n) := fun H1 e Q q => h H1 e _ fun H2 e2 => ⟨a, n, rfl, hn, hl, q H2 e2⟩
theorem ev_bits {i : Int} (h : Ev te σ H (.int i)) : Ev (tBits te) σ H (.int (Builtin.Int.intBits i : Nat)) := fun H1 e Q q => h H1 e _ fun H2 e2 => ⟨i, rfl, q H2 e2⟩
theorem ev_fmtB {n : Nat} (h : Ev te σ H (.int (n : Int))) (hn : n < 256) : Ev (tFmtB te) σ H (.str (binS n)) := fun H1 e Q q => h H1 e _ fun H2 e2 => ⟨n, rfl, hn, q H2 e2⟩
theorem el_revL {xs : List V} (h : EvL te σ H xs) : EvL (tRevL K te) σ H xs.reverse := fun H1 e Q q => h H1 e _ fun p H2 np e2 h2 => ⟨p, xs, rfl, sq_of h2, fun r hr => q r _ (fresh_back e2 hr) (e2.trans (Ex.new hr)) upd_same⟩
end
section
variable {K : PySem.W.Frag} {σ : L2.St} {H H' : Hp} {ta tb tc te tx tl : TE} {t u : TT} {x y z v : V}
theorem ev_strI {i : Int} (h : Ev te σ H (.int i)) (hz : i.natAbs.log2 < 1920) : Ev (tCB (fun xs H Q => ∃ i : Int, xs = [.int i] ∧ i.natAbs.log2 < 1920 ∧ Q (.str (Str.ofString (toString i))) H) (tCons te tNil)) σ H (.str (Str.ofString (toString i))) := fun H1 e Q q => h H1 e _ fun H2 e2 => ⟨i, rfl, hz, q H2 e2⟩
/-- an item of a new list -/
theorem ev_ixN {xs : List V} {i : Int} (ha : EvL ta σ H xs) (hb : ∀ H1, Ex H H1 → Ev tb σ H1 (.int i)) (h : atI xs i = some v) : Ev (tOp (rIxL K) ta tb) σ H v := ev_opL1 ha hb fun p H1 hp _ => rv_ixL (sq_of hp) h
theorem el_is {xs ys : List V} (h : EvL te σ H xs) (e : xs = ys) : EvL te σ H ys := e ▸ h
theorem eu_call {sp : Sp} {dvs vs xs : List V} {E : XK} {ta : TA} (h : EvA ta σ H vs) (hs : ∀ H1, Ex H H1 → ∀ Q : VK, (∀ p H2, H1 p = none → Ex H1 H2 → H2 p = some (.tup xs) → Q (.ref p) H2) → ∀ E : XK, sp (vs ++ dvs) H1 Q E) : EvU (tCall sp dvs E ta) σ H xs := fun H1 e Q q =>
  h H1 e _ fun H2 e2 => hs H2 (e.trans e2) Q (fun p H3 np e3 h3 => q p H3 (fresh_back e2 np) (e2.trans e3) h3) E
theorem rv_neD {a b : V} {d e : PyData} {r : Bool} (h1 : ∀ H1, Ex H H1 → Dp K H1 a d) (h2 : ∀ H1, Ex H H1 → Dp K H1 b e) (s1 : SeqAt.shaped d = true) (s2 : SeqAt.shaped e = true) (hr : PyData.eqv d e = r) : RV (rNeD K) a b H (.bl (!r)) := fun H1 x Q k =>
  ⟨d, e, h1 H1 x, h2 H1 x, s1, s2, by rw [hr]; exact k H1 (Ex.refl _)⟩
theorem rv_eqD {a b : V} {d e : PyData} {r : Bool} (h1 : ∀ H1, Ex H H1 → Dp K H1 a d) (h2 : ∀ H1, Ex H H1 → Dp K H1 b e) (s1 : SeqAt.shaped d = true) (s2 : SeqAt.shaped e = true) (hr : PyData.eqv d e = r) : RV (rEqD K) a b H (.bl r) := fun H1 x Q k =>
  ⟨d, e, h1 H1 x, h2 H1 x, s1, s2, by rw [hr]; exact k H1 (Ex.refl _)⟩
theorem shaped_int (i : Int) : SeqAt.shaped (.int i) = true := by
  unfold SeqAt.shaped
  simp [PyData.canLay0, PyData.depth]
theorem eqv_int (i : Int) : PyData.eqv (.int i) (.int i) = true := by
  simp [PyData.eqv]
end
theorem int_01 : ∀ c ∈ [48, 49], PySem.intText? (Tx [c]) = some ((c - 48 : Nat) : Int) ∧ (Tx [c]).length ≤ 640 := by decide +kernel
/-! ### numbers and their bits -/
def Told (l : List Nat) : Prop := ∀ c ∈ l, c ∈ [48, 49]
def numN (l : List Nat) : Nat := l.foldl (fun a c => a * 2 + (c - 48)) 0
theorem numN_snoc (l : List Nat) (c : Nat) : numN (l ++ [c]) = numN l * 2 + (c - 48) := by
  unfold numN
  rw [List.foldl_append]
  rfl
theorem bitsL_len : ∀ w n, (bitsL w n).length = w
  | 0, _ => rfl
  | w + 1, n => by
    rw [bitsL, List.length_append, bitsL_len w]
    rfl
theorem bitsL_told : ∀ w n, Told (bitsL w n)
  | 0, _, c, hc => by cases hc
  | w + 1, n, c, hc => by
    rw [bitsL] at hc
    rcases List.mem_append.mp hc with h | h
    · exact bitsL_told w _ c h
    · rw [List.mem_singleton.mp h]
      have : n % 2 = 0 ∨ n % 2 = 1 := by omega
      rcases this with h | h <;> rw [h] <;> decide
theorem numN_bitsL : ∀ w n, n < 2 ^ w → numN (bitsL w n) = n
  | 0, n, h => by
    have : n = 0 := by simpa using h
    subst this
    rfl
  | w + 1, n, h => by
    have h2 : n / 2 < 2 ^ w := by
      rw [Nat.pow_succ] at h
      omega
    rw [bitsL, numN_snoc, numN_bitsL w _ h2]
    omega
theorem snoc_cases {α : Type} (l : List α) : l = [] ∨ ∃ r c, l = r ++ [c] := by
  cases h : l.reverse with
  | nil => exact .inl (by simpa using h)
  | cons c r => exact .inr ⟨r.reverse, c, by rw [← List.reverse_reverse l, h]; simp⟩
theorem bitsL_numN : ∀ (w : Nat) (l : List Nat), l.length = w → Told l → bitsL w (numN l) = l ∧ numN l < 2 ^ w
  | 0, l, hl, _ => by
    have : l = [] := List.length_eq_zero_iff.mp hl
    subst this
    exact ⟨rfl, by decide⟩
  | w + 1, l, hl, h => by
    rcases snoc_cases l with rfl | ⟨r, c, rfl⟩
    · simp at hl
    · have hr : r.length = w := by
        rw [List.length_append] at hl
        simpa using hl
      obtain ⟨i1, i2⟩ := bitsL_numN w r hr fun d hd => h d (List.mem_append.mpr (.inl hd))
      have hc := h c (List.mem_append.mpr (.inr (List.mem_singleton.mpr rfl)))
      have hc2 : c = 48 ∨ c = 49 := by simpa using hc
      rw [numN_snoc, Nat.pow_succ]
      refine ⟨?_, by omega⟩
      rw [bitsL]
      have e1 : (numN r * 2 + (c - 48)) / 2 = numN r := by omega
      have e2 : 48 + (numN r * 2 + (c - 48)) % 2 = c := by omega
      rw [e1, e2, i1]
theorem bitsL_low : ∀ w : Fin 9, ∀ n : Fin 256, ((List.range w.val).map fun k => 48 + n.val / 2 ^ k % 2).reverse = bitsL w.val n.val := by decide +kernel
def numB (l : List Nat) : Int := l.foldl (fun a c => 2 * a + (if c = 49 then 1 else 0)) 0
theorem numB_snoc (l : List Nat) (c : Nat) : numB (l ++ [c]) = 2 * numB l + (if c = 49 then 1 else 0) := by
  unfold numB
  rw [List.foldl_append]
  rfl
theorem numB_told : ∀ (w : Nat) (l : List Nat), l.length = w → Told l → numB l = (numN l : Int)
  | 0, l, hl, _ => by
    have : l = [] := List.length_eq_zero_iff.mp hl
    subst this
    rfl
  | w + 1, l, hl, h => by
    rcases snoc_cases l with rfl | ⟨r, c, rfl⟩
    · simp at hl
    · have hr : r.length = w := by
        rw [List.length_append] at hl
        simpa using hl
      have ih := numB_told w r hr fun d hd => h d (List.mem_append.mpr (.inl hd))
      have hc := h c (List.mem_append.mpr (.inr (List.mem_singleton.mpr rfl)))
      have hc2 : c = 48 ∨ c = 49 := by simpa using hc
      rw [numB_snoc, numN_snoc, ih]
      rcases hc2 with rfl | rfl
      · simp
        omega
      · simp
        omega
instance (l : List Nat) : Decidable (Told l) := by unfold Told; infer_instance
end Dw

set_option Elab.async false
set_option linter.all false
set_option maxRecDepth 100000
/-! ### a def called within an except suite: the caught error is known by its class -/
namespace Dw
open PySem PySem.Spec PyProof.Rows L2 HotX L2H Evl
structure FnZ (P : Program) (w : World) (K : PySem.W.Frag) (mg : Str → Option Value) (base : Heap) (CX : CXT) (k : Nat) (f : Addr) (fd : FuncData) (ps : List Str) (sp : Addr → Value → Sp) : Prop where
  len : ∀ a c vs H Q E, sp a c vs H Q E → vs.length = ps.length
  run : ∀ (A : Around) (outer : List Env) (s : Shared) (H : Hp) (args : Args) (us : List Value) (vs : List V) (Q : VK) (E : XK) (p : Addr × Obj), RoomH k A → Hot1 A p → p.2.dict = none → PinOk outer H s p → Env0 P w K mg base A outer s H → BindsTo s fd args (ps.zip us) → Vals vs us → sp p.1 p.2.cls vs H Q E →
    codeAny (model P w) A (.call (.ref f) args) (CR CX outer P w H s Q E) s
theorem fn_ofZ {CX : CXT} {P : Program} {w : World} {K : PySem.W.Frag} {mg : Str → Option Value} {base : Heap} {k : Nat} {f : Addr} {name qual : Str} {params : Arguments} {body : List Stmt} {scope : Scope} {dV kV doc pm cdv ct oc : Value} {an od : Option Addr} {osl : Array (Option Value)} {N ps : List Str} {sp : Addr → Value → Sp}
    (look : K.lookup f = some ⟨oc, od, .func (PySem.W.fnOf name qual params body scope dV kV doc pm an cdv ct), osl⟩) (code : PySem.W.codeIn K cdv qual = true) (S : FnScope N ps scope) (len : ∀ a c vs H Q E, sp a c vs H Q E → vs.length = ps.length)
    (inside : ∀ (A : Around) (outer : List Env) (s : Shared) (H : Hp) (vs : List V) (Q : VK) (E : XK) (p : Addr × Obj), Hot1 A p → p.2.dict = none → RoomH k (A.deeper (envOfC qual scope s.heap.objs.size f cdv)) → sp p.1 p.2.cls vs H Q E →
      ∃ t, PSs (cxH CX P w K mg base N qual scope f cdv A outer s H E p) body t ∧ t { nx := fun _ H' => Q .non H', rt := Q } (L2.start N vs) H) :
    FnZ P w K mg base CX (k + 1) f (PySem.W.fnOf name qual params body scope dV kV doc pm an cdv ct) ps sp := by
  refine ⟨len, fun A outer s H args us vs Q E p room hot nodict pin env0 binds rel want => ?_⟩
  have nvs := len _ _ _ _ _ _ want
  have kin : K.In s.heap := env0.mod.kin.keeps fun b o z => (env0.bs b o z).1
  have nolim : s.heap.NoLimit := env0.mod.nolimit.keeps fun b o z => (env0.bs b o z).1
  have places : ∀ y ∈ ps.zip us, scope.names.lookup y.1 = some .local ∨ (scope.names.lookup y.1 = some .cell ∧ ((cellsFrom (s.heap.objs.size + 1) scope.names []).lookup y.1).isSome = true) := by
    rintro ⟨n, v⟩ hy
    rcases S.par n (List.of_mem_zip hy).1 with here | cell
    · exact .inl here
    · exact .inr ⟨cell, PySem.W.cellsFrom_some _ _ _ (.inl cell)⟩
  refine codeAny_call_function room.depth (kin _ _ look) rfl S.co S.gen rfl (PySem.W.codeRec_of kin code) (binds _ _ _ _ ?_)
  refine wpAny_newFunctionEnv_cells S.kind places fun env same s1 ic => ?_
  subst same
  refine ⟨nolim.keeps ic.toInCall.keep, codeAny_func ?_⟩
  obtain ⟨t, holds, goes⟩ := inside A outer s H vs Q E p hot nodict (room.deeper _) want
  have I : Inv (cxH CX P w K mg base N qual scope f cdv A outer s H E p) [] (L2.start N vs) H s1 := inv_startH S pin env0 nvs rel ic
  refine wpAny_mono (holds.run [] s1 (L2.start N vs) H _ I goes) (fun fl s' told => ?_) fun e s' told => told
  cases fl with
  | ret u =>
    obtain ⟨v, σ', H', J, rv, q⟩ := told
    exact ⟨v, H', J.os, J.bare, J.base, J.hok, rv, q⟩
  | next =>
    obtain ⟨σ', H', J, q⟩ := told
    exact ⟨V.non, H', J.os, J.bare, J.base, J.hok, rfl, q⟩
  | brk =>
    obtain ⟨_, _, _, q⟩ := told
    exact q.elim
  | cont =>
    obtain ⟨_, _, _, q⟩ := told
    exact q.elim
section
variable {X : Cx} {CX : CXT} {k : Nat} {f C : Addr} {fd : FuncData} {ps : List Str} {sp : Addr → Value → Sp} {E : XK} {x m : Str} {q pos apos : Pos} {e o : Expr} {es : List Expr} {ta : TE} {t : TA}
def tCallZ (sp : Addr → Value → Sp) (a : Addr) (cls : Value) (E : XK) (t : TA) : TE := fun σ H Q => t σ H fun vs H1 => sp a cls vs H1 Q E
theorem run_fnZ {pins : List (Addr × Obj)} {σ : L2.St} {H : Hp} {s : Shared} {Q : VK} {us : List Value} {vs : List V} {p : Addr × Obj} (F : FnZ X.prog X.w X.K X.mg X.base CX k f fd ps sp) (room : RoomH k X.A) (hot : Hot1 X.A p) (mem : p ∈ X.pn) (nodict : p.2.dict = none) (hb : Binds X.K fd ps []) (hx : Passes CX X E)
    (I : Inv X pins σ H s) (rel : Vals vs us) (want : sp p.1 p.2.cls vs H Q E) : wpAny (model X.prog X.w) X.A (call (.ref f) us) (EP X pins σ Q) X.xe s := by
  have same : us.length = ps.length := rel.length ▸ F.len _ _ _ _ _ _ want
  have bound := hb s us I.kIn (by simpa using same)
  simp only [List.append_nil] at bound
  obtain ⟨g1, g2, g3, g4, g5⟩ := I.pin p (List.mem_append_left _ mem)
  have pin : PinOk X.stack H s p := ⟨g1, g2, fun hm => (List.mem_cons.mp (I.stkSub p.1 hm)).elim g3 g4, g5⟩
  refine wpAny_call (codeAny_mono (F.run X.A X.stack s H ⟨us, []⟩ us vs Q E p room hot nodict pin I.env0 bound rel want) fun out s' told => ?_)
  match out, told with
  | .error e, told => exact hx pins σ H s e s' I told
  | .ok (.ret u), told => exact I.after told
  | .ok .next, told => exact told.elim
  | .ok .brk, told => exact told.elim
  | .ok .cont, told => exact told.elim
theorem pe_callZ {p : Addr × Obj} (F : FnZ X.prog X.w X.K X.mg X.base CX k f fd ps sp) (room : RoomH k X.A) (hot : Hot1 X.A p) (mem : p ∈ X.pn) (nodict : p.2.dict = none) (hg : Gl X x) (hm : X.mg x = some (.ref f)) (hk : PySem.W.keepIn X.K (.ref f) = true) (hb : Binds X.K fd ps []) (hx : Passes CX X E)
    (ha : PA X (e :: es) t) (hdb : (x == ("__debug__" : Str)) = false := by decide) (he : starEach (e :: es) X.env = (false, eval e X.env) :: starEach es X.env := by rfl) (hpl : (backTo pos (starEach es X.env)).any (·.1) = false := by rfl) :
    PE X (.Call (.Name x q) (e :: es) [] pos) (tCallZ sp p.1 p.2.cls E t) := by
  refine ⟨fun pins s σ H Q I h => wpAny_Call_Name_kw (ld_glob I hg hm ?_ hdb)⟩
  exact PySem.W.callWith_K (h₀ := X.base) I.ok.mod.kin hk (thn (ha.run pos pins s σ H _ I h) fun us s1 ⟨vs, H1, I1, rel, want⟩ => ⟨I1.kIn, run_fnZ F room hot mem nodict hb hx I1 rel want⟩) he hpl
/-- what a callee may let out, told for all slots of the def's number -/
theorem passLen {W : WX} {n : Nat} (tk : L2N.Takes X W) (hn : X.N.length = n) : Passes (L2N.CX X.prog X.w) X (fun cls d H => ∀ σ : L2.St, σ.length = n → W cls d σ H) := by
  intro pins σ H s u s' I c
  exact tk u s' (L2N.XE.of_call I (fun cls d H' h => h σ (by rw [← hn]; exact I.len)) c)
/-- isinstance(e, c) and isinstance(e, (c, ..)): e the error at hand, in its suite or in a def called there -/
theorem inst_of {a D : Addr} {oe : Obj} {pins : List (Addr × Obj)} {σ : L2.St} {H : Hp} {s : Shared} (I : Inv X pins σ H s) (mem : (a, oe) ∈ X.pn) (hc : oe.cls = .ref D) (hd : oe.dict = none) (hf : ∃ vs, oe.data = .fields vs) : PySem.W.InstAt s.heap a oe D none := by
  obtain ⟨there, _⟩ := I.pin (a, oe) (List.mem_append_left _ mem)
  obtain ⟨vs, hv⟩ := hf
  cases oe
  simp only at hc hd hv
  subst hc hd hv
  exact ⟨there, rfl, rfl, trivial⟩
theorem call_isZ {a D : Addr} {oe : Obj} (C : ExcC X.K D) (mem : (a, oe) ∈ X.pn) (hc : oe.cls = .ref D) (hd : oe.dict = none) (hf : ∃ vs, oe.data = .fields vs) : CallR X (.builtin "isinstance") (rIsE X.K D a) := by
  intro pins s σ H xs us Q I rel h
  obtain ⟨c, cv, b, rfl, hcv, e, q⟩ := h
  obtain ⟨u1, u2, rfl, r1, r2⟩ := vals2 rel
  cases (show u1 = Value.ref a from r1)
  have e2 := hcv _ r2
  subst e2
  exact PySem.W.kia_one (PySem.W.handS_kitx_exc C.hg C.hk C.hs C.hd C.ha C.hn C.ht C.hm) I.kIn (inst_of I mem hc hd hf) e (fun z => nomatch z) fun tk => ⟨.bl b, H, I.tok tk, rfl, q⟩
def rIsET (K : PySem.W.Frag) (D a : Addr) : List V → Hp → VK → Prop := fun xs H Q => ∃ (tp : Addr) (cs : List V) (ws : List Value) (b : Bool), xs = [.ref a, .ref tp] ∧ H tp = some (.tup cs) ∧ Paired ClsV cs ws ∧ PySem.W.kitAny K (.ref D) ws = some b ∧ Q (.bl b) H
theorem call_isZT {a D : Addr} {oe : Obj} (C : ExcC X.K D) (mem : (a, oe) ∈ X.pn) (hc : oe.cls = .ref D) (hd : oe.dict = none) (hf : ∃ vs, oe.data = .fields vs) : CallR X (.builtin "isinstance") (rIsET X.K D a) := by
  intro pins s σ H xs us Q I rel h
  obtain ⟨tp, cs, ws, b, rfl, hT, cls, e, q⟩ := h
  obtain ⟨u1, u2, rfl, r1, r2⟩ := vals2 rel
  cases (show u1 = Value.ref a from r1)
  cases (show u2 = Value.ref tp from r2)
  obtain ⟨_, its, rv, o, h1, h2, n, h3⟩ := (show ObjOk X.prog X.w H s.heap tp (.tup cs) from I.hok tp _ hT)
  cases ClsV.all cls rv
  cases o
  simp only at h2 h3
  subst h2 h3
  exact PySem.W.kia_tup (PySem.W.handS_kitx_exc C.hg C.hk C.hs C.hd C.ha C.hn C.ht C.hm) I.kIn (inst_of I mem hc hd hf) h1 e (fun z => nomatch z) fun tk => ⟨.bl b, H, I.tok tk, rfl, q⟩
end
end Dw

set_option Elab.async false
set_option linter.all false
set_option maxRecDepth 100000
namespace L2
open PySem PySem.Spec PyProof.Rows
theorem Fun.okN {P : Program} {w : World} {K : PySem.W.Frag} {mg : Str → Option Value} {base : Heap} {x qual : Str} {st : Stmt} {f : Addr} {fd : FuncData} {N ps : List Str} {k : Nat} {sp : Sp} (F : Fun K x qual st f fd) (S : FnScope N ps (defScope st)) (len : ∀ vs H Q E, sp vs H Q E → vs.length = ps.length)
    (inside : ∀ (cdv : Value) (A : Around) (outer : List Env) (s : Shared) (H : Hp) (vs : List V) (Q : VK) (E : XK), Room k (A.deeper (envOfC qual (defScope st) s.heap.objs.size f cdv)) → sp vs H Q E →
      ∃ t, PSs (cxOf (L2N.CX P w) P w K mg base N qual (defScope st) f cdv A outer s H E) (defBody st) t ∧ t { nx := fun _ H' => Q .non H', rt := Q } (start N vs) H) : FnOk P w K mg base (L2N.CX P w) (k + 1) f fd ps sp := by
  obtain ⟨_, _, _, _, _, _, cdv, _, _, rfl, look, code⟩ := F.ex
  exact fn_of look code S len (inside cdv)
end L2
namespace Dw
open PySem PySem.Spec PyProof.Rows L2 L2H Evl
structure DfZ (P : Program) (w : World) (K : PySem.W.Frag) (mg : Str → Option Value) (base : Heap) (CX : CXT) (x : Str) (k : Nat) (f : Addr) (fd : FuncData) (ps : List Str) (sp : Addr → Value → Sp) : Prop where
  ok : FnZ P w K mg base CX k f fd ps sp
  g : mg x = some (.ref f)
  kp : PySem.W.keepIn K (.ref f) = true
  b : Binds K fd ps []
theorem pe_callZc {X : Cx} {CX : CXT} {k : Nat} {f : Addr} {fd : FuncData} {ps : List Str} {sp : Addr → Value → Sp} {E : XK} {x : Str} {q pos : Pos} {e : Expr} {es : List Expr} {t : TA} {a : Addr} {oe : Obj} {cls : Value} (hc : oe.cls = cls) (F : FnZ X.prog X.w X.K X.mg X.base CX k f fd ps sp) (room : RoomH k X.A) (hot : Hot1 X.A (a, oe)) (mem : (a, oe) ∈ X.pn) (nodict : oe.dict = none) (hg : Gl X x) (hm : X.mg x = some (.ref f)) (hk : PySem.W.keepIn X.K (.ref f) = true) (hb : Binds X.K fd ps []) (hx : Passes CX X E)
    (ha : PA X (e :: es) t) (hdb : (x == ("__debug__" : Str)) = false := by decide) (he : starEach (e :: es) X.env = (false, eval e X.env) :: starEach es X.env := by rfl) (hpl : (backTo pos (starEach es X.env)).any (·.1) = false := by rfl) :
    PE X (.Call (.Name x q) (e :: es) [] pos) (tCallZ sp a cls E t) := by
  subst hc
  exact pe_callZ (p := (a, oe)) F room hot mem nodict hg hm hk hb hx ha hdb he hpl
theorem kit_no {K : PySem.W.Frag} {S C : Addr} (h2 : PySem.W.isClsIn K C = true) (h3 : PySem.W.typeIn K (.ref C) = some (.type "type")) (h4 : PySem.W.subIn K (.ref S) (.ref C) = some false) (h5 : PySem.W.subIn K (.ref S) (.ref S) = some true) : PySem.W.kitOne K (.ref S) (.ref C) = some false := by
  have e2 : ((PySem.W.clsIn K C).isSome && PySem.W.typeIn K (.ref C) == some (.type "type")) = true := by
    have h2' : (PySem.W.clsIn K C).isSome = true := h2
    rw [h2', h3] <;> rfl
  unfold PySem.W.kitOne
  split
  · rename_i same
    have : Value.ref S = Value.ref C := by simpa using same
    rw [← this] at h4
    rw [h4] at h5
    cases h5
  · show (if _ then _ else none) = some false
    rw [if_pos e2]
    exact h4
theorem any_nil {K : PySem.W.Frag} {t : Value} : PySem.W.kitAny K t [] = some false := rfl
theorem any_no {K : PySem.W.Frag} {t c : Value} {r : List Value} (h : PySem.W.kitOne K t c = some false) (hr : PySem.W.kitAny K t r = some false) : PySem.W.kitAny K t (c :: r) = some false := kitAny_cons h (fun _ => hr) (fun z => by cases z)
/-- what isinstance tells of an error of the class D -/
structure WordsOf (K : PySem.W.Frag) (V N T1 T2 T3 T4 T5 U1 U2 U3 E D : Addr) (v n : Bool) : Prop where
  k1 : PySem.W.kitOne K (.ref D) (.ref V) = some v
  k2 : PySem.W.kitOne K (.ref D) (.ref N) = some n
  k3 : PySem.W.kitAny K (.ref D) [.ref T1, .ref T2, .ref T3, .ref T4, .ref T5] = some false
  k4 : PySem.W.kitAny K (.ref D) [.ref U1, .ref U2, .ref U3] = some false
  k5 : PySem.W.kitOne K (.ref D) (.ref E) = some true
  k6 : PySem.W.kitOne K (.ref D) (.type "ValueError") = some true
  c : ExcC K D
  m : PySem.W.exmOne K (.ref D) (.ref E) = some true
section
variable {K : PySem.W.Frag} {σ : L2.St} {H H' : Hp} {ta tb tc te tx tl : TE} {t u : TT} {x y z v : V}
theorem ev_isET {D a : Addr} {cs : List V} {ws : List Value} {b : Bool} (ha : Ev ta σ H (.ref a)) (hb : EvU tb σ H cs) (hp : Paired ClsV cs ws) (hk : PySem.W.kitAny K (.ref D) ws = some b) : Ev (tCB (rIsET K D a) (tCons ta (tCons tb tNil))) σ H (.bl b) := fun H1 e Q q =>
  ha H1 e _ fun H2 e2 => hb H2 (e.trans e2) _ fun p H3 np e3 h3 => ⟨p, cs, ws, b, rfl, h3, hp, hk, q H3 (e2.trans e3)⟩
theorem el_catV {l : Addr} {xs ys : List V} (ha : Ev ta σ H (.ref l)) (hx : H l = some (.lst xs)) (hb : EvL tb σ H ys) (hz : xs.length + ys.length ≤ 100000) : EvL (tOp rCat ta tb) σ H (xs ++ ys) := fun H1 e Q q =>
  ha H1 e _ fun H2 e2 => hb H2 (e.trans e2) _ fun r H3 nr e3 h3 => ⟨l, r, xs, ys, rfl, rfl, e3 _ _ (e2 _ _ (e _ _ hx)), h3, sz_of hz, fun s ns => q s _ (fresh_back (e2.trans e3) ns) ((e2.trans e3).trans (Ex.new ns)) upd_same⟩
end
/-! ### what no value of that width can write -/
inductive OddN (H : Hp) (w : Nat) : V → Prop where
  | neg (i : Int) (h : i < 0) : OddN H w (.int i)
  | big (i : Int) (h : ((2 ^ w : Nat) : Int) ≤ i) : OddN H w (.int i)
  | bl (b : Bool) : OddN H w (.bl b)
  | non : OddN H w .non
  | str (x : Str) : OddN H w (.str x)
  | lst {a : Addr} {xs : List V} (e : H a = some (.lst xs)) : OddN H w (.ref a)
  | tup {a : Addr} {xs : List V} (e : H a = some (.tup xs)) : OddN H w (.ref a)
  | dK {a : Addr} {xs : List (Key × V)} (e : H a = some (.dK xs)) : OddN H w (.ref a)
theorem OddN.ex {H H' : Hp} {w : Nat} {v : V} (h : OddN H w v) (e : Ex H H') : OddN H' w v := by
  cases h with
  | neg i h => exact .neg i h
  | big i h => exact .big i h
  | bl b => exact .bl b
  | non => exact .non
  | str x => exact .str x
  | lst a => exact .lst (e _ _ a)
  | tup a => exact .tup (e _ _ a)
  | dK a => exact .dK (e _ _ a)
theorem OddN.exB {p : Addr} {H H' : Hp} {w : Nat} {v : V} (h : OddN H w v) (n : v ≠ .ref p) (e : ExB p H H') : OddN H' w v := by
  cases h with
  | neg i h => exact .neg i h
  | big i h => exact .big i h
  | bl b => exact .bl b
  | non => exact .non
  | str x => exact .str x
  | lst a => exact .lst (e _ _ (fun z => n (by rw [z])) a)
  | tup a => exact .tup (e _ _ (fun z => n (by rw [z])) a)
  | dK a => exact .dK (e _ _ (fun z => n (by rw [z])) a)
/-- a number, a truth, or of another kind -/
theorem OddN.kind {K : PySem.W.Frag} {H : Hp} {w : Nat} {v : V} (h : OddN H w v) : (∃ i, v = .int i ∧ (i < 0 ∨ ((2 ^ w : Nat) : Int) ≤ i)) ∨ (∃ b, v = .bl b) ∨ ((∀ i, v ≠ .int i) ∧ ∀ H1, Ex H H1 → ∃ t, TyX K H1 v (.type t) ∧ kitB t "int" = some false) := by
  cases h with
  | neg i h => exact .inl ⟨i, rfl, .inl h⟩
  | big i h => exact .inl ⟨i, rfl, .inr h⟩
  | bl b => exact .inr (.inl ⟨b, rfl⟩)
  | non => exact .inr (.inr ⟨fun i z => (nomatch z), fun H1 _ => ⟨_, .base .non, by decide +kernel⟩⟩)
  | str x => exact .inr (.inr ⟨fun i z => (nomatch z), fun H1 _ => ⟨_, .base (.str x), by decide +kernel⟩⟩)
  | lst a => exact .inr (.inr ⟨fun i z => (nomatch z), fun H1 e => ⟨_, .base (.lst (e _ _ a)), by decide +kernel⟩⟩)
  | tup a => exact .inr (.inr ⟨fun i z => (nomatch z), fun H1 e => ⟨_, .base (.tup (e _ _ a)), by decide +kernel⟩⟩)
  | dK a => exact .inr (.inr ⟨fun i z => (nomatch z), fun H1 e => ⟨_, .base (.dK (e _ _ a)), by decide +kernel⟩⟩)
def smB : V → Bool
  | .int i => decide (0 ≤ i) && decide (i < 256)
  | _ => false
theorem smB_no {v : V} (h : ∀ i, v ≠ .int i) : smB v = false := by
  cases v with
  | int i => exact absurd rfl (h i)
  | _ => rfl
theorem odd_eight {H : Hp} {w : Nat} {v : V} (h : OddN H w v) (hs : smB v = false) : OddN H 8 v := by
  cases h with
  | neg i h => exact .neg i h
  | big i h =>
    refine .big i ?_
    have hp : 0 < 2 ^ w := Nat.pow_pos (by decide)
    have h0 : 0 ≤ i := by omega
    replace hs : (decide (0 ≤ i) && decide (i < 256)) = false := hs
    rw [decide_eq_true h0, Bool.true_and] at hs
    have := of_decide_eq_false hs
    show ((256 : Nat) : Int) ≤ i
    omega
  | bl b => exact .bl b
  | non => exact .non
  | str x => exact .str x
  | lst a => exact .lst a
  | tup a => exact .tup a
  | dK a => exact .dK a
theorem cut_lo (l : List Nat) (j : Nat) (hj : j ≤ l.length) : cutS (Tx l) none (some (j : Int)) = Tx (l.take j) := by
  unfold cutS
  rw [Tx_len, HT.sIx_nat, HT.sIx_none, Nat.min_eq_left hj]
  rfl
theorem cut_hi (l : List Nat) (i : Nat) (hi : i ≤ l.length) : cutS (Tx l) (some (i : Int)) none = Tx (l.drop i) := by
  unfold cutS
  rw [Tx_len, HT.sIx_nat, HT.sIx_none, Nat.min_eq_left hi]
  show Tx ((l.drop i).take (l.length - i)) = _
  rw [List.take_of_length_le (by rw [List.length_drop]; omega)]
section
variable {σ : L2.St} {H : Hp} {te : TE} {tl th : TO}
theorem ev_cutLo {l : List Nat} {j : Nat} (ha : Ev te σ H (.str (Tx l))) (h1 : EvO tl σ H none) (h2 : EvO th σ H (some (j : Int))) (hj : j ≤ l.length) (hz : l.length ≤ 40000) : Ev (tSl rSlS te tl th) σ H (.str (Tx (l.take j))) := fun H1 e Q q =>
  ha H1 e _ fun H2 e2 => h1 H2 (e.trans e2) _ fun H3 e3 => h2 H3 ((e.trans e2).trans e3) _ fun H4 e4 => ⟨Tx l, rfl, sz_of (by rw [Tx_len]; omega), by rw [cut_lo l j hj]; exact q H4 ((e2.trans e3).trans e4)⟩
theorem ev_cutHi {l : List Nat} {i : Nat} (ha : Ev te σ H (.str (Tx l))) (h1 : EvO tl σ H (some (i : Int))) (h2 : EvO th σ H none) (hi : i ≤ l.length) (hz : l.length ≤ 40000) : Ev (tSl rSlS te tl th) σ H (.str (Tx (l.drop i))) := fun H1 e Q q =>
  ha H1 e _ fun H2 e2 => h1 H2 (e.trans e2) _ fun H3 e3 => h2 H3 ((e.trans e2).trans e3) _ fun H4 e4 => ⟨Tx l, rfl, sz_of (by rw [Tx_len]; omega), by rw [cut_hi l i hi]; exact q H4 ((e2.trans e3).trans e4)⟩
end
theorem bits_big {i : Int} {w : Nat} (h : ((2 ^ w : Nat) : Int) ≤ i) : (w : Int) < ((Builtin.Int.intBits i : Nat) : Int) := by
  have hp : 0 < 2 ^ w := Nat.pow_pos (by decide)
  have hn : 2 ^ w ≤ i.natAbs := by omega
  have h0 : i.natAbs ≠ 0 := by omega
  have hl := (Nat.le_log2 h0).mpr hn
  unfold Builtin.Int.intBits
  rw [if_neg (by simp; omega)]
  omega
theorem pyl40 (i : Int) : Builtin.divisionGoesByPylong i ((10 : Int) ^ 40) = false := by
  unfold Builtin.divisionGoesByPylong
  have : ((if ((10 : Int) ^ 40 == 0) = true then 0 else ((10 : Int) ^ 40).natAbs.log2 / 30 + 1) : Nat) = 5 := by decide +kernel
  simp only [this]
  simp
theorem low_str {x : Str} (h : LowS x) : SeqAt.shaped (.str x) = true := by
  unfold SeqAt.shaped
  unfold LowS at h
  rw [h]
  simp [PyData.depth]
theorem eqv_str (x : Str) : PyData.eqv (.str x) (.str x) = true := by
  simp [PyData.eqv]
end Dw

set_option Elab.async false
set_option linter.all false
set_option maxRecDepth 100000
namespace Dw
open PySem L2 Evl
/-! ### the text by places -/
def top (i : Nat) : Stmt := PySem.Challenge.pw_deltawires_k18_no_numbers.main.body.getD i (.Pass ⟨0, 0, 0, 0⟩)
abbrev s_number_of : Stmt := top 16
abbrev N_number_of : List Str := ["value", "number", "sign"]
theorem sc_number_of : FnScope N_number_of ["value"] (defScope s_number_of) := ⟨rfl, rfl, rfl, by decide +kernel, rfl, by decide +kernel, by decide +kernel⟩
abbrev s_is_whole : Stmt := top 15
abbrev N_is_whole : List Str := ["thing"]
theorem sc_is_whole : FnScope N_is_whole ["thing"] (defScope s_is_whole) := ⟨rfl, rfl, rfl, by decide +kernel, rfl, by decide +kernel, by decide +kernel⟩
abbrev s_value_of : Stmt := top 17
abbrev N_value_of : List Str := ["number", "width"]
theorem sc_value_of : FnScope N_value_of ["number", "width"] (defScope s_value_of) := ⟨rfl, rfl, rfl, by decide +kernel, rfl, by decide +kernel, by decide +kernel⟩
abbrev s__law_at : Stmt := top 19
abbrev N__law_at : List Str := ["_law_script", "_law_k"]
theorem sc__law_at : FnScope N__law_at ["_law_script", "_law_k"] (defScope s__law_at) := ⟨rfl, rfl, rfl, by decide +kernel, rfl, by decide +kernel, by decide +kernel⟩
abbrev s__law_pot : Stmt := top 20
abbrev N__law_pot : List Str := ["_law_script", "_law_k", "_law_cell"]
theorem sc__law_pot : FnScope N__law_pot ["_law_script", "_law_k"] (defScope s__law_pot) := ⟨rfl, rfl, rfl, by decide +kernel, rfl, by decide +kernel, by decide +kernel⟩
abbrev s__law_take : Stmt := top 21
abbrev N__law_take : List Str := ["_law_pot_here", "_law_many", "_law_digit"]
theorem sc__law_take : FnScope N__law_take ["_law_pot_here", "_law_many"] (defScope s__law_take) := ⟨rfl, rfl, rfl, by decide +kernel, rfl, by decide +kernel, by decide +kernel⟩
abbrev s__law_word : Stmt := top 22
abbrev N__law_word : List Str := ["_law_e", "_law_some"]
theorem sc__law_word : FnScope N__law_word ["_law_e"] (defScope s__law_word) := ⟨rfl, rfl, rfl, by decide +kernel, rfl, by decide +kernel, by decide +kernel⟩
abbrev s__law_told : Stmt := top 23
abbrev N__law_told : List Str := ["_law_number", "_law_wide", "_law_told_here", "_law_e"]
theorem sc__law_told : FnScope N__law_told ["_law_number", "_law_wide"] (defScope s__law_told) := ⟨rfl, rfl, rfl, by decide +kernel, rfl, by decide +kernel, by decide +kernel⟩
abbrev s__law_read : Stmt := top 24
abbrev N__law_read : List Str := ["_law_value", "_law_told_here", "_law_e"]
theorem sc__law_read : FnScope N__law_read ["_law_value"] (defScope s__law_read) := ⟨rfl, rfl, rfl, by decide +kernel, rfl, by decide +kernel, by decide +kernel⟩
abbrev s__law_odd : Stmt := top 25
abbrev N__law_odd : List Str := ["_law_pot_here", "_law_wide", "_law_bound", "_law_far", "_law_some"]
theorem sc__law_odd : FnScope N__law_odd ["_law_pot_here", "_law_wide"] (defScope s__law_odd) := ⟨rfl, rfl, rfl, by decide +kernel, rfl, by decide +kernel, by decide +kernel⟩
abbrev s__law_right : Stmt := top 26
abbrev N__law_right : List Str := ["_law_pot_here", "_law_wide", "_law_thing", "_law_refused", "_law_number", "_law_good", "_law_small", "_law_spot", "_law_spoilt", "_law_k"]
theorem sc__law_right : FnScope N__law_right ["_law_pot_here"] (defScope s__law_right) := ⟨rfl, rfl, rfl, by decide +kernel, rfl, by decide +kernel, by decide +kernel⟩
abbrev s_law : Stmt := top 27
abbrev N_law : List Str := ["_law_script", "_law_k"]
theorem sc_law : FnScope N_law ["_law_script"] (defScope s_law) := ⟨rfl, rfl, rfl, by decide +kernel, rfl, by decide +kernel, by decide +kernel⟩

structure Bi (K : PySem.W.Frag) (w : World) (mg : Str → Option Value) (a_NoValue a_NoNumber a_NoTerm a_NoText a_NoRow a_Clash a_NoName a_Unending a_Busy a_TooMany a_WireError : Addr) : Prop where
  ValueError : mg "ValueError" = none
  bool : mg "bool" = none
  divmod : mg "divmod" = none
  int : mg "int" = none
  isinstance : mg "isinstance" = none
  len : mg "len" = none
  max : mg "max" = none
  min : mg "min" = none
  range : mg "range" = none
  str : mg "str" = none
  c_TOLD : GlV mg "TOLD" (.str "01")
  c_NoValue : GlV mg "NoValue" (.ref a_NoValue)
  c_NoNumber : GlV mg "NoNumber" (.ref a_NoNumber)
  c_NoTerm : GlV mg "NoTerm" (.ref a_NoTerm)
  c_NoText : GlV mg "NoText" (.ref a_NoText)
  c_NoRow : GlV mg "NoRow" (.ref a_NoRow)
  c_Clash : GlV mg "Clash" (.ref a_Clash)
  c_NoName : GlV mg "NoName" (.ref a_NoName)
  c_Unending : GlV mg "Unending" (.ref a_Unending)
  c_Busy : GlV mg "Busy" (.ref a_Busy)
  c_TooMany : GlV mg "TooMany" (.ref a_TooMany)
  c_WireError : GlV mg "WireError" (.ref a_WireError)
  x_xNoValue : PySem.W.excIn K a_NoValue [.type "ValueError", .type "Exception", .type "BaseException", .type "object"] "ValueError.__new__" = true
  x_gNoValue : mg "NoValue" = some (.ref a_NoValue)
  x_kNoValue : PySem.W.keepIn K (.ref a_NoValue) = true
  x_bNoValue : PySem.W.subIn K (.ref a_NoValue) (.type "BaseException") = some true
  x_tNoValue : PySem.W.typeIn K (.ref a_NoValue) = some (.type "type")
  x_wNoValue : WordsOf K a_NoValue a_NoNumber a_NoTerm a_NoText a_NoRow a_Clash a_NoName a_Unending a_Busy a_TooMany a_WireError a_NoValue true false
  x_xNoNumber : PySem.W.excIn K a_NoNumber [.type "ValueError", .type "Exception", .type "BaseException", .type "object"] "ValueError.__new__" = true
  x_gNoNumber : mg "NoNumber" = some (.ref a_NoNumber)
  x_kNoNumber : PySem.W.keepIn K (.ref a_NoNumber) = true
  x_bNoNumber : PySem.W.subIn K (.ref a_NoNumber) (.type "BaseException") = some true
  x_tNoNumber : PySem.W.typeIn K (.ref a_NoNumber) = some (.type "type")
  x_wNoNumber : WordsOf K a_NoValue a_NoNumber a_NoTerm a_NoText a_NoRow a_Clash a_NoName a_Unending a_Busy a_TooMany a_WireError a_NoNumber false true
  x_gE : mg "WireError" = some (.ref a_WireError)
theorem g_name {i : Nat} {v : V} {σ : L2.St} {H : Hp} {R : L2.St → Hp → Prop} (h : R (σ.set i (some v)) H) : gName i v σ H R := h
def pw : List V := [.int 1, .int 2, .int 4, .int 8, .int 16, .int 32, .int 64, .int 128]
theorem pw_at : ∀ k : Fin 8, atI pw (k.val : Int) = some (.int ((2 ^ k.val : Nat) : Int)) := by decide +kernel
def pw2 : List V := [.int 2, .int 4, .int 8, .int 16, .int 32, .int 64, .int 128, .int 256]
theorem pw2_at : ∀ k : Fin 8, atI pw2 (k.val : Int) = some (.int ((2 ^ (k.val + 1) : Nat) : Int)) := by decide +kernel
theorem str_bit : ∀ b : Fin 2, ((b.val : Int).natAbs.log2 < 1920) ∧ (V.str (Str.ofString (toString (b.val : Int))) = V.str (Tx [48 + b.val])) := by decide +kernel
theorem code_of {l : List Nat} {i c : Nat} (hc : (Tx l).cps[i]? = some c) : l[i]? = some c := by
  rw [← hc]
  simp [Tx]
theorem take_snoc {l : List Nat} {i c : Nat} (h : l[i]? = some c) : l.take (i + 1) = l.take i ++ [c] := by
  rw [List.take_add_one, h]
  rfl
theorem s_xz : (Str.ofString "xz").cps.toList = [120, 122] := by decide +kernel

def spWhK (K : PySem.W.Frag) : Sp := fun vs H Q _ => ∃ x : V, vs = [x] ∧ ((∃ i, x = .int i ∧ ∀ H', Ex H H' → Q (.bl true) H') ∨ (((∃ b, x = .bl b) ∨ ∀ H1, Ex H H1 → ∃ t, TyX K H1 x (.type t) ∧ kitB t "int" = some false) ∧ ∀ H', Ex H H' → Q (.bl false) H'))
theorem spv_wh {K : PySem.W.Frag} {n : Int} {H : Hp} : SpV (spWhK K) [.int n] H (.bl true) := fun H1 e Q q E => ⟨_, rfl, .inl ⟨n, rfl, q⟩⟩
theorem spv_no {K : PySem.W.Frag} {x : V} {H : Hp} (h : (∃ b, x = .bl b) ∨ ∀ H1, Ex H H1 → ∃ t, TyX K H1 x (.type t) ∧ kitB t "int" = some false) : SpV (spWhK K) [x] H (.bl false) := fun H1 e Q q E => ⟨_, rfl, .inr ⟨h.imp id fun z H2 e2 => z H2 (e.trans e2), q⟩⟩
def rfL (v n : Bool) : List Bool := [v, n, false, false, true, true]
def spNumX (C : Addr) : Sp := fun vs H Q E => ∃ l : List Nat, vs = [.str (Tx l)] ∧ l.length ≤ 8 ∧ (Told l → ∀ H', Ex H H' → Q (.int (numN l : Int)) H') ∧ (¬ Told l → ∀ H', Ex H H' → E (.ref C) none H')
def spVX (C : Addr) : Sp := fun vs H Q E => ∃ (x : V) (w : Nat) (wi : Int), vs = [x, .int wi] ∧ wi = (w : Int) ∧ 0 < w ∧ w ≤ 8 ∧ ((∃ n : Nat, x = .int (n : Int) ∧ n < 2 ^ w ∧ ∀ H', Ex H H' → Q (.str (Tx (bitsL w n))) H') ∨ (OddN H w x ∧ ∀ H', Ex H H' → E (.ref C) none H'))
def spWord (K : PySem.W.Frag) (a1 a2 a3 a4 a5 a6 a7 a8 a9 a10 a11 : Addr) : Addr → Value → Sp := fun a cls vs H Q _ => ∃ (D : Addr) (v n : Bool), vs = [.ref a] ∧ cls = .ref D ∧ WordsOf K a1 a2 a3 a4 a5 a6 a7 a8 a9 a10 a11 D v n ∧ ∀ (p : Addr) (H' : Hp), H p = none → Ex H H' → H' p = some (.lst ((rfL v n).map V.bl)) → Q (.ref p) H'
def spTold : Sp := fun vs H Q _ => ∃ (x : V) (w : Nat) (wi : Int), vs = [x, .int wi] ∧ 0 < w ∧ w ≤ 8 ∧ (wi = (w : Int) ∨ (wi = 0 ∧ w = 8)) ∧ ((∃ n : Nat, x = .int (n : Int) ∧ n < 2 ^ w ∧ ∀ H', Ex H H' → Q (.str (Tx (bitsL w n))) H') ∨
  (OddN H w x ∧ ∀ (p : Addr) (H' : Hp), H p = none → Ex H H' → H' p = some (.lst ((rfL true false).map V.bl)) → Q (.ref p) H'))
theorem spv_told {n w : Nat} {wi : Int} {H : Hp} (h0 : 0 < w) (h8 : w ≤ 8) (hw : wi = (w : Int)) (h : n < 2 ^ w) : SpV spTold [.int (n : Int), .int wi] H (.str (Tx (bitsL w n))) := fun H1 e Q q E => ⟨_, w, wi, rfl, h0, h8, .inl hw, .inl ⟨n, rfl, h, q⟩⟩
theorem spl_told {x : V} {w : Nat} {wi : Int} {H : Hp} (h0 : 0 < w) (h8 : w ≤ 8) (hw : wi = (w : Int) ∨ (wi = 0 ∧ w = 8)) (h : OddN H w x) : SpL spTold [x, .int wi] H ((rfL true false).map V.bl) := fun H1 e Q q E => ⟨x, w, wi, rfl, h0, h8, hw, .inr ⟨h.ex e, q⟩⟩
def spReadN : Sp := fun vs H Q _ => ∃ l : List Nat, vs = [.str (Tx l)] ∧ l.length ≤ 8 ∧ (Told l → ∀ H', Ex H H' → Q (.int (numN l : Int)) H') ∧ (¬ Told l → ∀ (p : Addr) (H' : Hp), H p = none → Ex H H' → H' p = some (.lst ((rfL false true).map V.bl)) → Q (.ref p) H')
theorem spv_rd {l : List Nat} {H : Hp} (h8 : l.length ≤ 8) (hT : Told l) : SpV spReadN [.str (Tx l)] H (.int (numN l : Int)) := fun H1 e Q q E => ⟨l, rfl, h8, fun _ => q, fun n => absurd hT n⟩
theorem spl_rd {l : List Nat} {H : Hp} (h8 : l.length ≤ 8) (hT : ¬ Told l) : SpL spReadN [.str (Tx l)] H ((rfL false true).map V.bl) := fun H1 e Q q E => ⟨l, rfl, h8, fun n => absurd n hT, fun _ => q⟩
def spTakeW : Sp := fun vs H Q _ => ∃ (p : Addr) (m : Int), vs = [.ref p, .int m] ∧ PotAt H p ∧ m = (10 : Int) ^ 40 ∧ ∀ (H' : Hp) (d : Int), ExB p H H' → PotAt H' p → 0 ≤ d → Q (.int d) H'
def spOdd : Sp := fun vs H Q _ => ∃ (p : Addr) (k : Nat), vs = [.ref p, .int (1 + (k : Int))] ∧ k < 8 ∧ PotAt H p ∧ ∀ (H' : Hp) (x : V), ExB p H H' → PotAt H' p → x ≠ .ref p → OddN H' (k + 1) x → Q x H'
def spRight : Sp := fun vs H Q _ => ∃ p : Addr, vs = [.ref p] ∧ PotAt H p ∧ ∀ H', ExB p H H' → Q (.bl true) H'
def tZ (K : PySem.W.Frag) (i j : Nat) (C a1 a2 a3 a4 a5 a6 a7 a8 a9 a10 a11 : Addr) (a : Addr) (cls : Value) (d : Option Addr) : TS := fun D σ H => (cls = .ref C ∧ d = none) ∧ tAsg (tCallZ (spWord K a1 a2 a3 a4 a5 a6 a7 a8 a9 a10 a11) a cls E0 (tCons (tVar i) tNil)) (gName j) D σ H

theorem three {σ : L2.St} (h : σ.length = 3) : ∃ a b c, σ = [a, b, c] := by
  match σ, h with
  | [a, b, c], _ => exact ⟨a, b, c, rfl⟩
theorem four {σ : L2.St} (h : σ.length = 4) : ∃ a b c d, σ = [a, b, c, d] := by
  match σ, h with
  | [a, b, c, d], _ => exact ⟨a, b, c, d, rfl⟩
theorem hot_of {X : Cx} {a : Addr} {oe : Obj} {cls : Value} {d : Option Addr} {pn : List (Addr × Obj)} (hz : L2N.Zn cls d oe) (hf : ∃ vs, oe.data = .fields vs) : L2H.Hot1 (X.suite a ((a, oe) :: pn)).A (a, oe) := by
  obtain ⟨vs, hv⟩ := hf
  exact ⟨rfl, vs, hv, hz.2.2 vs hv⟩
section
variable {P : Program} {w : World} {K : PySem.W.Frag} {mg : Str → Option Value} {base : Heap} {a_NoValue a_NoNumber a_NoTerm a_NoText a_NoRow a_Clash a_NoName a_Unending a_Busy a_TooMany a_WireError : Addr}
theorem ok_number_of {f  : Addr} {fd  : FuncData} (F : Fun K "number_of" "number_of" s_number_of f fd) (B : Bi K w mg a_NoValue a_NoNumber a_NoTerm a_NoText a_NoRow a_Clash a_NoName a_Unending a_Busy a_TooMany a_WireError)   : FnOk P w K mg base (L2N.CX P w) (1) f fd ["value"] (spNumX a_NoNumber) := by
  refine F.okN sc_number_of (fun vs H Q E h => ?_) (fun cdv A outer s H vs Q E hr h => ?_)
  · obtain ⟨l, rfl, _⟩ := h
    rfl
  · obtain ⟨l, rfl, h8, q, qe⟩ := h
    refine ⟨_, (pss_cons (ps_set (i := 1) sc_number_of.nd rfl (Or.inl rfl) pe_int)
      (pss_cons (ps_for (passes_of rfl) rfl (pi_str (pv 0)) (pg_name (i := 2) sc_number_of.nd rfl (Or.inl rfl)) (pss_cons (ps_if (pt_cmpR op_notInS (pv 2) (pgl (by rfl) B.c_TOLD) rfl) (pss_one (L2N.ps_raise rfl (L2N.takes_of rfl rfl rfl rfl) (L2N.pmk_own PySem.F.excBase_ValueError B.x_xNoNumber B.x_gNoNumber B.x_kNoNumber (raises_own B.x_bNoNumber B.x_tNoNumber) (by exact rfl)))) pss_nil)
      (pss_one (ps_set (i := 1) sc_number_of.nd rfl (Or.inl rfl) (pe_op op_add (pe_op op_mul (pv 1) pe_int) (pe_callTy call_int_str (by rfl) B.int (by decide +kernel) (pa_cons (pv 2) pa_nil)))))))
      (pss_one (ps_ret (pv 1))))), ?_⟩
    refine q_asg ev_c fun H0 e0 => ?_
    refine ⟨_, rfl, Tx l, rfl, for_it walk_str (fun i σ' H' => (∃ v2, σ' = [some (.str (Tx l)), some (.int (numN (l.take i) : Int)), v2]) ∧ Ex H H' ∧ Told (l.take i))
      ⟨⟨none, rfl⟩, e0, fun c hc => by simp at hc⟩ (fun _ _ _ _ _ => True.intro) (fun i x σ' H1 H2 hi hv y => ?_) (fun σ' H1 hv => ?_)⟩
    · obtain ⟨⟨v2, rfl⟩, x1, ht⟩ := hv
      obtain ⟨rfl, c, hc, rfl⟩ := y
      have hc2 := code_of hc
      have etk := take_snoc hc2
      refine q_when (et_test (ev_niT (c := c) (l := [48, 49]) (ev_var rfl) ec_01)) (fun hb H3 e3 => ?_) (fun hb H3 e3 => ?_)
      · have hb' : c ∉ [48, 49] := by simpa using hb
        exact qe (fun z => hb' (z c (List.mem_of_getElem? hc2))) H3 (x1.trans e3)
      · have hb' : c ∈ [48, 49] := by
          cases hd : decide (c ∈ [48, 49]) with
          | true => exact of_decide_eq_true hd
          | false =>
            rw [hd] at hb
            cases hb
        obtain ⟨n1, n2⟩ := int_01 c hb'
        refine s_asg (ev_is (ev_op (ev_op (ev_var rfl) ev_c (rv_I (Or.inr ⟨by decide, by decide⟩))) (ev_intS (ev_var rfl) n1 n2) rv_I0) ?_) fun H4 e4 => ⟨⟨_, rfl⟩, (x1.trans e3).trans e4, ?_⟩
        · rw [etk, numN_snoc]
          simp
        · rw [etk]
          intro d hd
          rcases List.mem_append.mp hd with h | h
          · exact ht d h
          · rw [List.mem_singleton.mp h]
            exact hb'
    · obtain ⟨⟨v2, rfl⟩, x1, ht⟩ := hv
      have hsz : (Tx l).cps.size = l.length := Tx_len l
      rw [hsz, List.take_length] at ht ⊢
      exact s_ret (ev_var rfl) fun H2 e2 => q ht H2 (x1.trans e2)
theorem ok_is_whole {f  : Addr} {fd  : FuncData} (F : Fun K "is_whole" "is_whole" s_is_whole f fd) (B : Bi K w mg a_NoValue a_NoNumber a_NoTerm a_NoText a_NoRow a_Clash a_NoName a_Unending a_Busy a_TooMany a_WireError)   : FnOk P w K mg base CX0 (1) f fd ["thing"] (spWhK K) := by
  refine F.ok sc_is_whole (fun vs H Q E h => ?_) (fun cdv A outer s H vs Q E hr h => ?_)
  · obtain ⟨x, rfl, _⟩ := h
    rfl
  · obtain ⟨x, rfl, h⟩ := h
    refine ⟨_, (pss_one (ps_ret (pe_and (pe_callB call_isi (by rfl) B.isinstance (by decide +kernel) (pa_cons (pv 0) (pa_cons (pe_bltn (v := .ty "int") (by rfl) B.int (by decide +kernel) rfl) pa_nil))) (pe_one (pe_not (pe_callB call_isi (by rfl) B.isinstance (by decide +kernel) (pa_cons (pv 0) (pa_cons (pe_bltn (v := .ty "bool") (by rfl) B.bool (by decide +kernel) rfl) pa_nil)))))))), ?_⟩
    rcases h with ⟨i, rfl, q⟩ | ⟨⟨b, rfl⟩ | hty, q⟩
    · exact s_ret (ev_andV (ev_isi (b := true) (ev_var rfl) ev_c fun H1 _ => ⟨_, .base (.int _), by decide +kernel⟩) fun _ => ev_notV (ev_isi (b := false) (ev_var rfl) ev_c fun H1 _ => ⟨_, .base (.int _), by decide +kernel⟩)) q
    · exact s_ret (ev_andV (ev_isi (b := true) (ev_var rfl) ev_c fun H1 _ => ⟨_, .base (.bl _), by decide +kernel⟩) fun _ => ev_notV (ev_isi (b := true) (ev_var rfl) ev_c fun H1 _ => ⟨_, .base (.bl _), by decide +kernel⟩)) q
    · exact s_ret (ev_andV (b := false) (ev_isi (b := false) (ev_var rfl) ev_c hty) fun z => by cases z) q
theorem ok_value_of {f f1 : Addr} {fd fd1 : FuncData} (F : FunD K "value_of" "value_of" (defArgs s_value_of) (defBody s_value_of) (defScope s_value_of) [] [("width", .int 8)] f fd) (B : Bi K w mg a_NoValue a_NoNumber a_NoTerm a_NoText a_NoRow a_Clash a_NoName a_Unending a_Busy a_TooMany a_WireError)  (D_is_whole : Df P w K mg base CX0 "is_whole" 1 f1 fd1 ["thing"] (spWhK K)) : FnOk P w K mg base (L2N.CX P w) (2) f fd ["number", "width"] (spVX a_NoValue) := by
  refine F.ok sc_value_of (fun vs H Q E h => ?_) (fun cdv A outer s H vs Q E hr h => ?_)
  · obtain ⟨x, w', wi, rfl, _⟩ := h
    rfl
  · obtain ⟨x, w', wi, rfl, rfl, h0, h8, hgo⟩ := h
    refine ⟨_, (pss_cons (ps_if (pt_not (pt_val (pe_call D_is_whole.ok (hr.mono (by decide)) (by rfl) D_is_whole.g D_is_whole.kp D_is_whole.b .nil pass0 (pa_cons (pv 0) pa_nil)))) (pss_one (L2N.ps_raise rfl (L2N.takes_of rfl rfl rfl rfl) (L2N.pmk_own PySem.F.excBase_ValueError B.x_xNoValue B.x_gNoValue B.x_kNoValue (raises_own B.x_bNoValue B.x_tNoValue) (by exact rfl)))) pss_nil)
      (pss_cons (ps_if (PW.pt (pw_or (pt_cmpR op_lt (pv 0) pe_int (nomark _)) (pw_or1 (pt_cmpR op_gt (pe_bits (pv 0)) (pv 1) (nomark _))))) (pss_one (L2N.ps_raise rfl (L2N.takes_of rfl rfl rfl rfl) (L2N.pmk_own PySem.F.excBase_ValueError B.x_xNoValue B.x_gNoValue B.x_kNoValue (raises_own B.x_bNoValue B.x_tNoValue) (by exact rfl)))) pss_nil)
      (pss_one (ps_ret (pe_m1 PySem.F.slot_str_zfill PySem.F.type_str_zfill mt_zfill (pe_joined1 (pe_fmtB (pv 0))) (pv 1)))))), ?_⟩
    rcases hgo with ⟨n, rfl, hn, q⟩ | ⟨hodd, qe⟩
    · have h256 : n < 256 := Nat.lt_of_lt_of_le hn (by
        have : 2 ^ w' ≤ 2 ^ 8 := Nat.pow_le_pow_right (by decide) h8
        simpa using this)
      refine q_when (b := false) (et_is (et_not (et_B (ev_call (ea_cons (ev_var rfl) ea_nil) spv_wh))) rfl) (fun hb => by cases hb) (fun _ H1 e1 => ?_)
      refine q_when (b := false) (et_is (et_or (et_test (ev_op (ev_var rfl) ev_c rv_I0)) fun _ => et_test (ev_op (ev_bits (ev_var rfl)) (ev_var rfl) rv_I0)) ?_) (fun hb => by cases hb) (fun _ H2 e2 => ?_)
      · have := intBits_le ⟨w', by omega⟩ ⟨n, h256⟩
        simp only at this
        rw [this, decide_eq_true hn]
        simp
      · refine s_ret (v := .str (Tx (bitsL w' n))) (fun H3 e3 Q3 q3 => ?_) fun H3 e3 => q H3 ((e1.trans e2).trans e3)
        refine ⟨_, rfl, n, rfl, h256, ?_⟩
        have := zfill_bits ⟨w', by omega⟩ ⟨n, h256⟩ hn h0
        simp only at this
        refine ⟨⟨_, rfl⟩, _, rfl, _, _, rfl, rfl, ?_, ?_⟩
        · have : ∀ k : Fin 9, PadOk (k.val : Int) = true := by decide +kernel
          exact this ⟨w', by omega⟩
        · rw [this]
          exact q3 H3 (Ex.refl _)

    · rcases hodd.kind (K := K) with ⟨i, rfl, hi⟩ | ⟨b, rfl⟩ | hty
      · refine q_when (b := false) (et_is (et_not (et_B (ev_call (ea_cons (ev_var rfl) ea_nil) spv_wh))) rfl) (fun hb => by cases hb) (fun _ H1 e1 => ?_)
        refine q_when (b := true) (et_is (et_or (et_test (ev_op (ev_var rfl) ev_c rv_I0)) fun _ => et_test (ev_op (ev_bits (ev_var rfl)) (ev_var rfl) rv_I0)) ?_) (fun _ H2 e2 => qe H2 (e1.trans e2)) (fun hb => by cases hb)
        rcases hi with hi | hi
        · rw [decide_eq_true hi]
          rfl
        · have hb := bits_big hi
          rw [decide_eq_true (show ((Builtin.Int.intBits i : Nat) : Int) > (w' : Int) from hb)]
          simp
      · exact q_when (b := true) (et_is (et_not (et_B (ev_call (ea_cons (ev_var rfl) ea_nil) (spv_no (.inl ⟨b, rfl⟩))))) rfl) (fun _ H1 e1 => qe H1 e1) (fun hb => by cases hb)
      · exact q_when (b := true) (et_is (et_not (et_B (ev_call (ea_cons (ev_var rfl) ea_nil) (spv_no (.inr hty.2))))) rfl) (fun _ H1 e1 => qe H1 e1) (fun hb => by cases hb)
theorem ok__law_at {f  : Addr} {fd  : FuncData} (F : Fun K "_law_at" "_law_at" s__law_at f fd) (B : Bi K w mg a_NoValue a_NoNumber a_NoTerm a_NoText a_NoRow a_Clash a_NoName a_Unending a_Busy a_TooMany a_WireError)   : FnOk P w K mg base CX0 (1) f fd ["_law_script", "_law_k"] (spAt K) := by
  refine F.ok sc__law_at (fun vs H Q E h => ?_) (fun cdv A outer s H vs Q E hr h => ?_)
  · obtain ⟨a, ns, k, rfl, _⟩ := h
    rfl
  · obtain ⟨a, ns, k, rfl, hS, h0, q⟩ := h
    refine ⟨_, (pss_one (ps_ret (pe_ifExp (pt_cmpR op_lt (pv 1) (pe_callB call_len_seq (by rfl) B.len PySem.boot_len (pa_cons (pv 0) pa_nil)) (nomark _)) (pe_ix ix_list (pv 0) (pv 1) (fun _ _ => rfl)) pe_int))), ?_⟩
    refine ⟨_, rfl, _, rfl, a, _, rfl, .inl hS, _, _, rfl, rfl, _, rfl, ?_⟩
    refine ite2 (fun e => ?_) (fun e => ?_)
    · obtain ⟨c, hc⟩ := at_map h0 (of_decide_eq_true e)
      exact ⟨_, rfl, _, rfl, a, _, _, _, rfl, rfl, hS, hc, q c⟩
    · exact q 0
theorem ok__law_pot {f f1 : Addr} {fd fd1 : FuncData} (F : Fun K "_law_pot" "_law_pot" s__law_pot f fd) (B : Bi K w mg a_NoValue a_NoNumber a_NoTerm a_NoText a_NoRow a_Clash a_NoName a_Unending a_Busy a_TooMany a_WireError)  (D__law_at : Df P w K mg base CX0 "_law_at" 1 f1 fd1 ["_law_script", "_law_k"] (spAt K)) : FnOk P w K mg base CX0 (2) f fd ["_law_script", "_law_k"] (spPot K) := by
  refine F.ok sc__law_pot (fun vs H Q E h => ?_) (fun cdv A outer s H vs Q E hr h => ?_)
  · obtain ⟨a, ns, k, rfl, _⟩ := h
    rfl
  · obtain ⟨a, ns, k, rfl, hS, h0, h1, q⟩ := h
    refine ⟨_, (pss_cons (ps_set (i := 2) sc__law_pot.nd rfl (Or.inl rfl) (pe_call D__law_at.ok (hr.mono (by decide)) (by rfl) D__law_at.g D__law_at.kp D__law_at.b .nil pass0 (pa_cons (pv 0) (pa_cons (pv 1) pa_nil))))
      (pss_one (ps_ret (pe_lst (pa_cons (pe_callB (call_max2 rfl) (by rfl) B.max (by decide +kernel) (pa_cons pe_int (pa_cons (pe_op op_sub (pv 2) (pe_op op_pow pe_int pe_int)) pa_nil))) (pa_cons (pe_op op_mod (pe_op op_add (pe_op op_add (pe_op op_mul (pe_op op_mod (pv 2) pe_int) pe_int) (pe_op op_mul pe_int (pv 1))) pe_int) pe_int) pa_nil)))))), ?_⟩
    refine ⟨_, rfl, _, rfl, a, ns, k, rfl, hS, h0, fun c => ?_⟩
    refine ⟨_, rfl, _, _, rfl, rfl, ⟨by decide, by decide, by decide⟩, _, _, rfl, rfl, _, _, rfl, ?_⟩
    refine ⟨_, rfl, _, _, rfl, rfl, (by show (0 : Int) < 2147483629; decide), _, _, rfl, rfl, .inr ⟨by decide, by decide⟩, _, rfl, _, _, rfl, rfl, .inl ⟨by decide, by decide⟩, _, _, rfl, rfl, _, _, rfl, rfl, _, _, rfl, rfl, (by show (0 : Int) < 2147483647; decide), ?_⟩
    refine ⟨by show 2 ≤ sizeLine; decide, fun p hp => ?_⟩
    refine q p _ hp (Ex.new hp) ⟨_, _, upd_same, ?_, ?_, ?_⟩
    · split <;> omega
    · omega
    · omega
theorem ok__law_take {f  : Addr} {fd  : FuncData} (F : Fun K "_law_take" "_law_take" s__law_take f fd) (B : Bi K w mg a_NoValue a_NoNumber a_NoTerm a_NoText a_NoRow a_Clash a_NoName a_Unending a_Busy a_TooMany a_WireError)   : FnOk P w K mg base CX0 (1) f fd ["_law_pot_here", "_law_many"] (spTake) := by
  refine F.ok sc__law_take (fun vs H Q E h => ?_) (fun cdv A outer s H vs Q E hr h => ?_)
  · obtain ⟨a, m, rfl, _⟩ := h
    rfl
  · obtain ⟨p, m, rfl, ⟨x, y, hp, hx, hy, hy2⟩, h0, h1, q⟩ := h
    refine ⟨_, (pss_cons (ps_if (pt_cmpR op_gt (pe_ix ix_list (pv 0) pe_int (fun _ _ => rfl)) pe_int (nomark _)) (pss_cons (ps_asg (pe_callB call_divmod (by rfl) B.divmod (by decide +kernel) (pa_cons (pe_ix ix_list (pv 0) pe_int (fun _ _ => rfl)) (pa_cons (pv 1) pa_nil))) (pg_tup rfl (pgs_cons (pg_sub (pv 0) pe_int set_list) (pgs_cons (pg_name (i := 2) sc__law_take.nd rfl (Or.inl rfl)) pgs_nil))))
      (pss_one (ps_ret (pv 2)))) pss_nil)
      (pss_cons (ps_asg (pe_op op_mod (pe_op op_add (pe_op op_mul (pe_ix ix_list (pv 0) pe_int (fun _ _ => rfl)) pe_int) pe_int) pe_int) (pg_sub (pv 0) pe_int set_list))
      (pss_one (ps_ret (pe_op op_mod (pe_op op_fdiv (pe_op op_mod (pe_op op_mul (pe_ix ix_list (pv 0) pe_int (fun _ _ => rfl)) (pe_ix ix_list (pv 0) pe_int (fun _ _ => rfl))) pe_int) pe_int) (pv 1)))))), ?_⟩
    refine ⟨_, rfl, p, _, _, _, rfl, rfl, SqL.of hp, rfl, _, _, rfl, rfl, _, rfl, ?_⟩
    refine ite2 (fun e => ?_) (fun e => ?_)
    · refine ⟨_, rfl, p, _, _, _, rfl, rfl, SqL.of hp, rfl, _, rfl, _, _, rfl, ⟨h0, h1⟩, fun t ht => ?_⟩
      have npt : p ≠ t := ne_of_none hp ht
      refine ⟨t, _, rfl, SqT.of upd_same, rfl, _, _, rfl, _, rfl, p, _, _, 0, rfl, rfl, (upd_ne npt).trans hp, rfl, _, _, rfl, rfl, _, rfl, ?_⟩
      refine q _ _ (fun b o n hb => ?_) ⟨_, _, upd_same, Int.ediv_nonneg hx (by omega), hy, hy2⟩ (Int.emod_nonneg _ (by omega)) (Int.emod_lt_of_pos _ h0)
      rw [upd_ne n, upd_ne (ne_of_none hb ht)]
      exact hb
    · refine ⟨_, rfl, p, _, _, _, rfl, rfl, SqL.of hp, rfl, _, _, rfl, rfl, .inr ⟨by decide, by decide⟩, _, _, rfl, rfl, _, _, rfl, rfl, (by show (0 : Int) < 2147483629; decide), _, rfl, p, _, _, 1, rfl, rfl, hp, rfl, ?_⟩
      have hz0 : 0 ≤ (y * 39373 + 20011) % 2147483629 := by omega
      have hz1 : (y * 39373 + 20011) % 2147483629 < 2147483629 := by omega
      refine ⟨_, rfl, p, _, _, _, rfl, rfl, SqL.of upd_same, rfl, _, rfl, p, _, _, _, rfl, rfl, SqL.of upd_same, rfl, _, _, rfl, rfl, .inl ⟨?_, ?_⟩, _, _, rfl, rfl, (by show (0 : Int) < 2147483563; decide), _, _, rfl, rfl, ⟨by decide, by decide⟩, _, rfl, _, _, rfl, rfl, h0, ?_⟩
      · omega
      · omega
      · exact q _ _ (ExB.refl _ _).upd ⟨_, _, upd_same, hx, hz0, by omega⟩ (Int.emod_nonneg _ (by omega)) (Int.emod_lt_of_pos _ h0)
theorem okw__law_take {f : Addr} {fd : FuncData} (F : Fun K "_law_take" "_law_take" s__law_take f fd) (B : Bi K w mg a_NoValue a_NoNumber a_NoTerm a_NoText a_NoRow a_Clash a_NoName a_Unending a_Busy a_TooMany a_WireError) : FnOk P w K mg base CX0 1 f fd ["_law_pot_here", "_law_many"] spTakeW := by
  refine F.ok sc__law_take (fun vs H Q E h => ?_) (fun cdv A outer s H vs Q E hr h => ?_)
  · obtain ⟨a, m, rfl, _⟩ := h
    rfl
  · obtain ⟨p, m, rfl, ⟨x, y, hp, hx, hy, hy2⟩, hm, q⟩ := h
    have h0 : 0 < m := by
      rw [hm]
      decide
    have hd : CDivP x m := ⟨h0, by rw [hm]; exact pyl40 x⟩
    refine ⟨_, (pss_cons (ps_if (pt_cmpR op_gt (pe_ix ix_list (pv 0) pe_int (fun _ _ => rfl)) pe_int (nomark _)) (pss_cons (ps_asg (pe_callB call_divmodW (by rfl) B.divmod (by decide +kernel) (pa_cons (pe_ix ix_list (pv 0) pe_int (fun _ _ => rfl)) (pa_cons (pv 1) pa_nil))) (pg_tup rfl (pgs_cons (pg_sub (pv 0) pe_int set_list) (pgs_cons (pg_name (i := 2) sc__law_take.nd rfl (Or.inl rfl)) pgs_nil))))
      (pss_one (ps_ret (pv 2)))) pss_nil)
      (pss_cons (ps_asg (pe_op op_mod (pe_op op_add (pe_op op_mul (pe_ix ix_list (pv 0) pe_int (fun _ _ => rfl)) pe_int) pe_int) pe_int) (pg_sub (pv 0) pe_int set_list))
      (pss_one (ps_ret (pe_op op_mod (pe_op op_fdiv (pe_op op_mod (pe_op op_mul (pe_ix ix_list (pv 0) pe_int (fun _ _ => rfl)) (pe_ix ix_list (pv 0) pe_int (fun _ _ => rfl))) pe_int) pe_int) (pv 1)))))), ?_⟩
    refine ⟨_, rfl, p, _, _, _, rfl, rfl, SqL.of hp, rfl, _, _, rfl, rfl, _, rfl, ?_⟩
    refine ite2 (fun e => ?_) (fun e => ?_)
    · refine ⟨_, rfl, p, _, _, _, rfl, rfl, SqL.of hp, rfl, _, rfl, _, _, rfl, hd, fun t ht => ?_⟩
      have npt : p ≠ t := ne_of_none hp ht
      refine ⟨t, _, rfl, SqT.of upd_same, rfl, _, _, rfl, _, rfl, p, _, _, 0, rfl, rfl, (upd_ne npt).trans hp, rfl, _, _, rfl, rfl, _, rfl, ?_⟩
      refine q _ _ (fun b o n hb => ?_) ⟨_, _, upd_same, Int.ediv_nonneg hx (by omega), hy, hy2⟩ (Int.emod_nonneg _ (by omega))
      rw [upd_ne n, upd_ne (ne_of_none hb ht)]
      exact hb
    · refine ⟨_, rfl, p, _, _, _, rfl, rfl, SqL.of hp, rfl, _, _, rfl, rfl, .inr ⟨by decide, by decide⟩, _, _, rfl, rfl, _, _, rfl, rfl, (by show (0 : Int) < 2147483629; decide), _, rfl, p, _, _, 1, rfl, rfl, hp, rfl, ?_⟩
      have hz0 : 0 ≤ (y * 39373 + 20011) % 2147483629 := by omega
      have hz1 : (y * 39373 + 20011) % 2147483629 < 2147483629 := by omega
      refine ⟨_, rfl, p, _, _, _, rfl, rfl, SqL.of upd_same, rfl, _, rfl, p, _, _, _, rfl, rfl, SqL.of upd_same, rfl, _, _, rfl, rfl, .inl ⟨?_, ?_⟩, _, _, rfl, rfl, (by show (0 : Int) < 2147483563; decide), _, _, rfl, rfl, ⟨by decide, by decide⟩, _, rfl, _, _, rfl, rfl, h0, ?_⟩
      · omega
      · omega
      · exact q _ _ (ExB.refl _ _).upd ⟨_, _, upd_same, hx, hz0, by omega⟩ (Int.emod_nonneg _ (by omega))

theorem ok__law_word {f  : Addr} {fd  : FuncData} (F : Fun K "_law_word" "_law_word" s__law_word f fd) (B : Bi K w mg a_NoValue a_NoNumber a_NoTerm a_NoText a_NoRow a_Clash a_NoName a_Unending a_Busy a_TooMany a_WireError)   : FnZ P w K mg base CX0 (1) f fd ["_law_e"] (spWord K a_NoValue a_NoNumber a_NoTerm a_NoText a_NoRow a_Clash a_NoName a_Unending a_Busy a_TooMany a_WireError) := by
  obtain ⟨oc, od, kV, doc, pm, an, cdv, ct, osl, rfl, lk, hcd⟩ := F.ex
  refine fn_ofZ lk hcd sc__law_word (fun a c vs H Q E h => ?_) (fun A outer s H vs Q E p hot nodict room h => ?_)
  · obtain ⟨D, v, n, rfl, _⟩ := h
    rfl
  · obtain ⟨D, v, n, rfl, hc, W, q⟩ := h
    have hf : ∃ vs, p.2.data = .fields vs := by
      obtain ⟨_, vs, hv, _⟩ := hot
      exact ⟨vs, hv⟩
    refine ⟨_, (pss_cons (ps_set (i := 1) sc__law_word.nd rfl (Or.inl rfl) (pe_lst (pa_cons (pe_callB (call_isZ (a := p.1) (oe := p.2) W.c List.mem_cons_self hc nodict hf) (by rfl) B.isinstance (by decide +kernel) (pa_cons (pv 0) (pa_cons (pgl (by rfl) B.c_NoValue) pa_nil))) (pa_cons (pe_callB (call_isZ (a := p.1) (oe := p.2) W.c List.mem_cons_self hc nodict hf) (by rfl) B.isinstance (by decide +kernel) (pa_cons (pv 0) (pa_cons (pgl (by rfl) B.c_NoNumber) pa_nil))) (pa_cons (pe_callB (call_isZT (a := p.1) (oe := p.2) W.c List.mem_cons_self hc nodict hf) (by rfl) B.isinstance (by decide +kernel) (pa_cons (pv 0) (pa_cons (pe_tup (pa_cons (pgl (by rfl) B.c_NoTerm) (pa_cons (pgl (by rfl) B.c_NoText) (pa_cons (pgl (by rfl) B.c_NoRow) (pa_cons (pgl (by rfl) B.c_Clash) (pa_cons (pgl (by rfl) B.c_NoName) pa_nil)))))) pa_nil))) pa_nil)))))
      (pss_cons (ps_set (i := 1) sc__law_word.nd rfl (Or.inl rfl) (pe_op op_cat (pv 1) (pe_lst (pa_cons (pe_callB (call_isZT (a := p.1) (oe := p.2) W.c List.mem_cons_self hc nodict hf) (by rfl) B.isinstance (by decide +kernel) (pa_cons (pv 0) (pa_cons (pe_tup (pa_cons (pgl (by rfl) B.c_Unending) (pa_cons (pgl (by rfl) B.c_Busy) (pa_cons (pgl (by rfl) B.c_TooMany) pa_nil)))) pa_nil))) (pa_cons (pe_callB (call_isZ (a := p.1) (oe := p.2) W.c List.mem_cons_self hc nodict hf) (by rfl) B.isinstance (by decide +kernel) (pa_cons (pv 0) (pa_cons (pgl (by rfl) B.c_WireError) pa_nil))) (pa_cons (pe_callB (call_isZ (a := p.1) (oe := p.2) W.c List.mem_cons_self hc nodict hf) (by rfl) B.isinstance (by decide +kernel) (pa_cons (pv 0) (pa_cons (pe_bltn (v := .ty "ValueError") (by rfl) B.ValueError (by decide +kernel) rfl) pa_nil))) pa_nil))))))
      (pss_one (ps_ret (pv 1))))), ?_⟩
    refine q_asgL (el_lst (ea_cons (ev_isE (ev_var rfl) ev_c (fun u r => r) W.k1) (ea_cons (ev_isE (ev_var rfl) ev_c (fun u r => r) W.k2) (ea_cons (ev_isET (ev_var rfl) (eu_tup (ea_cons ev_c (ea_cons ev_c (ea_cons ev_c (ea_cons ev_c (ea_cons ev_c ea_nil))))) (by simp)) (.cons (.own _) (.cons (.own _) (.cons (.own _) (.cons (.own _) (.cons (.own _) .nil))))) W.k3) ea_nil))) (by simp)) fun p1 H1 n1 e1 h1 => ?_
    refine q_asgL (el_catV (ev_var rfl) h1 (el_lst (ea_cons (ev_isET (ev_var rfl) (eu_tup (ea_cons ev_c (ea_cons ev_c (ea_cons ev_c ea_nil))) (by simp)) (.cons (.own _) (.cons (.own _) (.cons (.own _) .nil))) W.k4) (ea_cons (ev_isE (ev_var rfl) ev_c (fun u r => r) W.k5) (ea_cons (ev_isE (ev_var rfl) ev_c (fun u r => r) W.k6) ea_nil))) (by simp)) (by simp)) fun p2 H2 n2 e2 h2 => ?_
    exact s_ret (ev_var rfl) fun H3 e3 => q p2 H3 (fresh_back e1 n2) ((e1.trans e2).trans e3) (e3 _ _ h2)
theorem ok__law_told {f f1 f2 : Addr} {fd fd1 fd2 : FuncData} (F : Fun K "_law_told" "_law_told" s__law_told f fd) (B : Bi K w mg a_NoValue a_NoNumber a_NoTerm a_NoText a_NoRow a_Clash a_NoName a_Unending a_Busy a_TooMany a_WireError)  (D__law_word : DfZ P w K mg base CX0 "_law_word" 1 f1 fd1 ["_law_e"] (spWord K a_NoValue a_NoNumber a_NoTerm a_NoText a_NoRow a_Clash a_NoName a_Unending a_Busy a_TooMany a_WireError)) (D_value_of : DfD P w K mg base (L2N.CX P w) "value_of" 2 f2 fd2 ["number", "width"] (spVX a_NoValue)) {gk_value_of_width : List Value → List Value → List Value} (kb_value_of_width : KBn K fd2 ["number", "width"] 1 ["width"] gk_value_of_width (fun vs zs => vs ++ zs)) {ds_value_of : List Value} (b0_value_of : Binds K fd2 ["number", "width"] ds_value_of) (v0_value_of : Vals [.int 8] ds_value_of) : FnOk P w K mg base CX0 (3) f fd ["_law_number", "_law_wide"] (spTold) := by
  refine F.ok sc__law_told (fun vs H Q E h => ?_) (fun cdv A outer s H vs Q E hr h => ?_)
  · obtain ⟨x, w', wi, rfl, _⟩ := h
    rfl
  · obtain ⟨x, w', wi, rfl, h0, h8, hw, hgo⟩ := h
    refine ⟨_, (pss_cons (ps_set (i := 2) sc__law_told.nd rfl (Or.inl rfl) pe_non)
      (pss_cons (L2N.ps_try_as (i := 3) (ts := tZ K 3 2 a_NoValue a_NoValue a_NoNumber a_NoTerm a_NoText a_NoRow a_Clash a_NoName a_Unending a_Busy a_TooMany a_WireError) (Wout := fun _ _ _ _ => False) rfl rfl sc__law_told.nd rfl rfl ⟨rfl, by decide, Or.inl B.x_gE⟩ (fun _ _ x => by obtain ⟨_, _, _, _, _, _, _, _, _, _, _, _, _, _, _, _, z⟩ := x; exact z.elim)
      (fun W pn xe tk _ => pss_one (ps_set (i := 2) sc__law_told.nd rfl (Or.inl rfl) (by exact (pe_ifExp (pt_cmpR op_gt (pv 1) pe_int (nomark _)) (pe_callN D_value_of.ok (hr.mono (by decide)) (by rfl) D_value_of.g D_value_of.kp kb_value_of_width (passLen tk rfl) (pa_cons (pv 0) pa_nil) (pk_cons (pv 1) pk_nil)) (pe_call D_value_of.ok (hr.mono (by decide)) (by rfl) D_value_of.g D_value_of.kp b0_value_of v0_value_of (passLen tk rfl) (pa_cons (pv 0) pa_nil))))))
      (fun a oe cls d pn hz hf => pss_if_fact fun hcd => pss_one (ps_set (i := 2) sc__law_told.nd rfl (Or.inl rfl) (by exact (pe_callZc (a := a) (oe := oe) (E := E0) hz.1 D__law_word.ok ⟨(hr.mono (by decide : 1 ≤ 2)).dp, (hr.mono (by decide : 1 ≤ 2)).un⟩ (hot_of hz hf) List.mem_cons_self (hz.2.1.trans hcd.2) (by rfl) D__law_word.g D__law_word.kp D__law_word.b pass0 (pa_cons (pv 3) pa_nil))))))
      (pss_one (ps_ret (pv 2))))), ?_⟩
    refine q_asg ev_c fun H0 e0 => ?_
    refine (et_test (ev_op (ev_var rfl) ev_c rv_I0)) H0 (Ex.refl _) _ fun H1 e1 => ?_
    refine ite2 (fun hb => ?_) (fun hb => ?_)
    · have hb' := of_decide_eq_true hb
      refine ⟨_, rfl, _, rfl, rfl, rfl, x, w', wi, rfl, by clear hgo; omega, h0, h8, ?_⟩
      rcases hgo with ⟨n, rfl, hn, q⟩ | ⟨hodd, q⟩
      · exact .inl ⟨n, rfl, hn, fun H2 e2 => s_ret (ev_var rfl) fun H3 e3 => q H3 (((e0.trans e1).trans e2).trans e3)⟩
      · refine .inr ⟨hodd.ex (e0.trans e1), fun H2 e2 σ hσ => ?_⟩
        obtain ⟨s0, s1, s2, s3, rfl⟩ := four hσ
        refine ⟨true, B.x_wNoValue.m, fun _ a ha => ⟨⟨rfl, rfl⟩, ?_⟩, fun z => by cases z⟩
        refine ⟨_, rfl, _, _, _, rfl, rfl, B.x_wNoValue, fun p H3 np e3 hp => ?_⟩
        exact s_ret (ev_var rfl) fun H4 e4 => q p H4 (fresh_back ((e0.trans e1).trans e2) np) ((((e0.trans e1).trans e2).trans e3).trans e4) (e4 _ _ hp)
    · have hb' : ¬ wi > 0 := fun z => hb (decide_eq_true z)
      have h88 : w' = 8 := by clear hgo; omega
      subst h88
      refine ⟨_, rfl, x, 8, 8, rfl, rfl, by decide, by decide, ?_⟩
      rcases hgo with ⟨n, rfl, hn, q⟩ | ⟨hodd, q⟩
      · exact .inl ⟨n, rfl, hn, fun H2 e2 => s_ret (ev_var rfl) fun H3 e3 => q H3 (((e0.trans e1).trans e2).trans e3)⟩
      · refine .inr ⟨hodd.ex (e0.trans e1), fun H2 e2 σ hσ => ?_⟩
        obtain ⟨s0, s1, s2, s3, rfl⟩ := four hσ
        refine ⟨true, B.x_wNoValue.m, fun _ a ha => ⟨⟨rfl, rfl⟩, ?_⟩, fun z => by cases z⟩
        refine ⟨_, rfl, _, _, _, rfl, rfl, B.x_wNoValue, fun p H3 np e3 hp => ?_⟩
        exact s_ret (ev_var rfl) fun H4 e4 => q p H4 (fresh_back ((e0.trans e1).trans e2) np) ((((e0.trans e1).trans e2).trans e3).trans e4) (e4 _ _ hp)
theorem ok__law_read {f f1 f2 : Addr} {fd fd1 fd2 : FuncData} (F : Fun K "_law_read" "_law_read" s__law_read f fd) (B : Bi K w mg a_NoValue a_NoNumber a_NoTerm a_NoText a_NoRow a_Clash a_NoName a_Unending a_Busy a_TooMany a_WireError)  (D__law_word : DfZ P w K mg base CX0 "_law_word" 1 f1 fd1 ["_law_e"] (spWord K a_NoValue a_NoNumber a_NoTerm a_NoText a_NoRow a_Clash a_NoName a_Unending a_Busy a_TooMany a_WireError)) (D_number_of : Df P w K mg base (L2N.CX P w) "number_of" 1 f2 fd2 ["value"] (spNumX a_NoNumber)) : FnOk P w K mg base CX0 (3) f fd ["_law_value"] (spReadN) := by
  refine F.ok sc__law_read (fun vs H Q E h => ?_) (fun cdv A outer s H vs Q E hr h => ?_)
  · obtain ⟨l, rfl, _⟩ := h
    rfl
  · obtain ⟨l, rfl, h8, q, qe⟩ := h
    refine ⟨_, (pss_cons (ps_set (i := 1) sc__law_read.nd rfl (Or.inl rfl) pe_non)
      (pss_cons (L2N.ps_try_as (i := 2) (ts := tZ K 2 1 a_NoNumber a_NoValue a_NoNumber a_NoTerm a_NoText a_NoRow a_Clash a_NoName a_Unending a_Busy a_TooMany a_WireError) (Wout := fun _ _ _ _ => False) rfl rfl sc__law_read.nd rfl rfl ⟨rfl, by decide, Or.inl B.x_gE⟩ (fun _ _ x => by obtain ⟨_, _, _, _, _, _, _, _, _, _, _, _, _, _, _, _, z⟩ := x; exact z.elim)
      (fun W pn xe tk _ => pss_one (ps_set (i := 1) sc__law_read.nd rfl (Or.inl rfl) (by exact (pe_call D_number_of.ok (hr.mono (by decide)) (by rfl) D_number_of.g D_number_of.kp D_number_of.b .nil (passLen tk rfl) (pa_cons (pv 0) pa_nil)))))
      (fun a oe cls d pn hz hf => pss_if_fact fun hcd => pss_one (ps_set (i := 1) sc__law_read.nd rfl (Or.inl rfl) (by exact (pe_callZc (a := a) (oe := oe) (E := E0) hz.1 D__law_word.ok ⟨(hr.mono (by decide : 1 ≤ 2)).dp, (hr.mono (by decide : 1 ≤ 2)).un⟩ (hot_of hz hf) List.mem_cons_self (hz.2.1.trans hcd.2) (by rfl) D__law_word.g D__law_word.kp D__law_word.b pass0 (pa_cons (pv 2) pa_nil))))))
      (pss_one (ps_ret (pv 1))))), ?_⟩
    refine q_asg ev_c fun H0 e0 => ?_
    refine ⟨_, rfl, l, rfl, h8, fun hT H1 e1 => ?_, fun hT H1 e1 σ hσ => ?_⟩
    · exact s_ret (ev_var rfl) fun H2 e2 => q hT H2 ((e0.trans e1).trans e2)
    · obtain ⟨s0, s1, s2, rfl⟩ := three hσ
      refine ⟨true, B.x_wNoNumber.m, fun _ a ha => ⟨⟨rfl, rfl⟩, ?_⟩, fun z => by cases z⟩
      refine ⟨_, rfl, _, _, _, rfl, rfl, B.x_wNoNumber, fun p H2 np e2 hp => ?_⟩
      exact s_ret (ev_var rfl) fun H3 e3 => qe hT p H3 (fresh_back (e0.trans e1) np) (((e0.trans e1).trans e2).trans e3) (e3 _ _ hp)
theorem ok__law_odd {f f1 : Addr} {fd fd1 : FuncData} (F : Fun K "_law_odd" "_law_odd" s__law_odd f fd) (B : Bi K w mg a_NoValue a_NoNumber a_NoTerm a_NoText a_NoRow a_Clash a_NoName a_Unending a_Busy a_TooMany a_WireError) (Dw : Df P w K mg base CX0 "_law_take" 1 f1 fd1 ["_law_pot_here", "_law_many"] spTakeW) (D__law_take : Df P w K mg base CX0 "_law_take" 1 f1 fd1 ["_law_pot_here", "_law_many"] (spTake)) : FnOk P w K mg base CX0 (2) f fd ["_law_pot_here", "_law_wide"] (spOdd) := by
  refine F.ok sc__law_odd (fun vs H Q E h => ?_) (fun cdv A outer s H vs Q E hr h => ?_)
  · obtain ⟨p, k, rfl, _⟩ := h
    rfl
  · obtain ⟨p, k, rfl, hk, hP, q⟩ := h
    refine ⟨_, (pss_cons (ps_set (i := 2) sc__law_odd.nd rfl (Or.inl rfl) (pe_ix ix_list (pe_lst (pa_cons pe_int (pa_cons pe_int (pa_cons pe_int (pa_cons pe_int (pa_cons pe_int (pa_cons pe_int (pa_cons pe_int (pa_cons pe_int pa_nil))))))))) (pe_op op_sub (pv 1) pe_int) (fun _ _ => rfl)))
      (pss_cons (ps_set (i := 3) sc__law_odd.nd rfl (Or.inl rfl) (pe_call Dw.ok (hr.mono (by decide)) (by rfl) Dw.g Dw.kp Dw.b .nil pass0 (pa_cons (pv 0) (pa_cons (pe_op op_pow pe_int pe_int) pa_nil))))
      (pss_cons (ps_set (i := 4) sc__law_odd.nd rfl (Or.inl rfl) (pe_lst (pa_cons (pe_un un_neg pe_int) (pa_cons (pe_op op_sub (pe_un un_neg pe_int) (pv 3)) (pa_cons (pv 2) (pa_cons (pe_op op_add (pv 2) (pv 3)) (pa_cons pe_bl (pa_cons pe_bl (pa_cons pe_non (pa_cons pe_str (pa_cons (pe_op op_mulS pe_str (pv 1)) (pa_cons (pe_lst (pa_cons pe_int pa_nil)) (pa_cons (pe_tup (pa_cons pe_int pa_nil)) (pa_cons pe_dnewK (pa_cons (pe_disp (pps_cons pe_int pe_int pps_nil) (by rfl) (by rfl) (fun z => by cases z) (by decide)) (pa_cons (pe_lst pa_nil) pa_nil))))))))))))))))
      (pss_one (ps_ret (pe_ix ix_list (pv 4) (pe_call D__law_take.ok (hr.mono (by decide)) (by rfl) D__law_take.g D__law_take.kp D__law_take.b .nil pass0 (pa_cons (pv 0) (pa_cons pe_int pa_nil))) (fun _ _ => rfl))))))), ?_⟩
    refine (ev_ixN (K := K) (v := .int ((2 ^ (k + 1) : Nat) : Int)) (el_lst (vs := pw2) (ea_cons ev_c (ea_cons ev_c (ea_cons ev_c (ea_cons ev_c (ea_cons ev_c (ea_cons ev_c (ea_cons ev_c (ea_cons ev_c ea_nil)))))))) (by decide)) (fun H2 _ => ev_is (ev_op (ev_var rfl) ev_c rv_I0) (w := .int (k : Int)) (by congr 1; omega)) (pw2_at ⟨k, hk⟩)) H (Ex.refl _) _ fun H1 e1 => ?_
    refine ⟨_, rfl, _, _, rfl, rfl, ⟨by decide, by decide, by decide⟩, p, _, rfl, hP.ex e1, by decide, fun H2 far z2 hP2 f0 => ?_⟩
    have hmul : MulOk (Str.ofString "0") (1 + (k : Int)) := by
      have := (mul_Tx (d := 48) (by decide) (n := k + 1) (by omega)).1
      rw [← s_0] at this
      rw [show (1 + (k : Int)) = ((k + 1 : Nat) : Int) by omega]
      exact this
    refine ⟨1, rfl, 1, rfl, _, rfl, _, _, rfl, rfl, _, rfl, _, rfl, _, rfl, _, _, rfl, rfl, _, rfl, Str.ofString "0", _, rfl, rfl, hmul, ?_⟩
    refine ⟨by show 1 ≤ sizeLine; decide, fun p1 n1 => ?_⟩
    have x1 := Ex.new (o := .lst [.int 1]) n1
    have o1 := upd_same (H := H2) (a := p1) (o := .lst [.int 1])
    generalize upd H2 p1 (.lst [.int 1]) = G1 at x1 o1 ⊢
    refine ⟨by show 1 ≤ sizeLine; decide, fun p2 n2 => ?_⟩
    have x2 := Ex.new (o := .tup [.int 1]) n2
    have o2 := upd_same (H := G1) (a := p2) (o := .tup [.int 1])
    generalize upd G1 p2 (.tup [.int 1]) = G2 at x2 o2 ⊢
    refine fun p3 n3 => ?_
    have x3 := Ex.new (o := .dK []) n3
    have o3 := upd_same (H := G2) (a := p3) (o := .dK [])
    generalize upd G2 p3 (.dK []) = G3 at x3 o3 ⊢
    refine fun p4 n4 => ?_
    refine ⟨upd_same, [(Sum.inl 1, .int 1)], rfl, by decide, ?_⟩
    have x4 := Ex.mut (o := .dK (mergeK [] [(Sum.inl 1, .int 1)])) (Ex.new (o := .dK []) n4) n4
    have o4 := upd_same (H := upd G3 p4 (.dK [])) (a := p4) (o := .dK (mergeK [] [(Sum.inl 1, .int 1)]))
    generalize upd (upd G3 p4 (.dK [])) p4 (.dK (mergeK [] [(Sum.inl 1, .int 1)])) = G4 at x4 o4 ⊢
    refine ⟨Nat.zero_le _, fun p5 n5 => ?_⟩
    have x5 := Ex.new (o := .lst []) n5
    have o5 := upd_same (H := G4) (a := p5) (o := .lst [])
    generalize upd G4 p5 (.lst []) = G5 at x5 o5 ⊢
    refine ⟨by show 14 ≤ sizeLine; decide, fun p6 n6 => ?_⟩
    have x6 := Ex.new (o := .lst [.int (-1), .int (-1 - far), .int ((2 ^ (k + 1) : Nat) : Int), .int (((2 ^ (k + 1) : Nat) : Int) + far), .bl true, .bl false, .non, .str (Str.ofString "1"), .str (Txt.mul (Str.ofString "0") (1 + (k : Int))), .ref p1, .ref p2, .ref p3, .ref p4, .ref p5]) n6
    have o6 := upd_same (H := G5) (a := p6) (o := .lst [.int (-1), .int (-1 - far), .int ((2 ^ (k + 1) : Nat) : Int), .int (((2 ^ (k + 1) : Nat) : Int) + far), .bl true, .bl false, .non, .str (Str.ofString "1"), .str (Txt.mul (Str.ofString "0") (1 + (k : Int))), .ref p1, .ref p2, .ref p3, .ref p4, .ref p5])
    generalize upd G5 p6 (.lst [.int (-1), .int (-1 - far), .int ((2 ^ (k + 1) : Nat) : Int), .int (((2 ^ (k + 1) : Nat) : Int) + far), .bl true, .bl false, .non, .str (Str.ofString "1"), .str (Txt.mul (Str.ofString "0") (1 + (k : Int))), .ref p1, .ref p2, .ref p3, .ref p4, .ref p5]) = G6 at x6 o6 ⊢
    have y5 := x6
    have y4 := x5.trans x6
    have y3 := x4.trans y4
    have y2 := x3.trans y3
    have y1 := x2.trans y2
    have y0 := x1.trans y1
    have hall : ∀ v ∈ [V.int (-1), .int (-1 - far), .int ((2 ^ (k + 1) : Nat) : Int), .int (((2 ^ (k + 1) : Nat) : Int) + far), .bl true, .bl false, .non, .str (Str.ofString "1"), .str (Txt.mul (Str.ofString "0") (1 + (k : Int))), .ref p1, .ref p2, .ref p3, .ref p4, .ref p5], v ≠ .ref p ∧ OddN G6 (k + 1) v := by
      intro v hv
      simp only [List.mem_cons, List.not_mem_nil, or_false] at hv
      rcases hv with rfl | rfl | rfl | rfl | rfl | rfl | rfl | rfl | rfl | rfl | rfl | rfl | rfl | rfl
      · exact ⟨fun z => (nomatch z), .neg _ (by decide)⟩
      · exact ⟨fun z => (nomatch z), .neg _ (by omega)⟩
      · exact ⟨fun z => (nomatch z), .big _ (Int.le_refl _)⟩
      · exact ⟨fun z => (nomatch z), .big _ (by omega)⟩
      · exact ⟨fun z => (nomatch z), .bl _⟩
      · exact ⟨fun z => (nomatch z), .bl _⟩
      · exact ⟨fun z => (nomatch z), .non⟩
      · exact ⟨fun z => (nomatch z), .str _⟩
      · exact ⟨fun z => (nomatch z), .str _⟩
      · exact ⟨fun z => hP2.ne n1 (V.ref.inj z), .lst (y1 _ _ o1)⟩
      · exact ⟨fun z => (hP2.ex x1).ne n2 (V.ref.inj z), .tup (y2 _ _ o2)⟩
      · exact ⟨fun z => ((hP2.ex x1).ex x2).ne n3 (V.ref.inj z), .dK (y3 _ _ o3)⟩
      · exact ⟨fun z => (((hP2.ex x1).ex x2).ex x3).ne n4 (V.ref.inj z), .dK (y4 _ _ o4)⟩
      · exact ⟨fun z => ((((hP2.ex x1).ex x2).ex x3).ex x4).ne n5 (V.ref.inj z), .lst (y5 _ _ o5)⟩
    have hP6 := hP2.ex y0
    have np6 : p6 ≠ p := (((((hP2.ex x1).ex x2).ex x3).ex x4).ex x5).ne n6
    refine ⟨_, rfl, _, rfl, p, 14, rfl, hP6, by decide, by decide, fun H9 d e9 hP9 d0 d1 => ?_⟩
    obtain ⟨j, rfl⟩ := Int.eq_ofNat_of_zero_le d0
    obtain ⟨v, hv⟩ : ∃ v, ([V.int (-1), .int (-1 - far), .int ((2 ^ (k + 1) : Nat) : Int), .int (((2 ^ (k + 1) : Nat) : Int) + far), .bl true, .bl false, .non, .str (Str.ofString "1"), .str (Txt.mul (Str.ofString "0") (1 + (k : Int))), .ref p1, .ref p2, .ref p3, .ref p4, .ref p5] : List V)[j]? = some v := ⟨_, List.getElem?_eq_getElem (by show j < 14; omega)⟩
    obtain ⟨g1, g2⟩ := hall v (List.mem_of_getElem? hv)
    exact ⟨p6, _, _, v, rfl, rfl, SqL.of (e9 _ _ np6 o6), atI_nat hv, q H9 v ((ExB.of e1).trans (z2.trans ((ExB.of y0).trans e9))) hP9 g1 (g2.exB g1 e9)⟩
theorem ok__law_right {f f1 f2 f3 f4 : Addr} {fd fd1 fd2 fd3 fd4 : FuncData} (F : Fun K "_law_right" "_law_right" s__law_right f fd) (B : Bi K w mg a_NoValue a_NoNumber a_NoTerm a_NoText a_NoRow a_Clash a_NoName a_Unending a_Busy a_TooMany a_WireError)  (D__law_take : Df P w K mg base CX0 "_law_take" 1 f1 fd1 ["_law_pot_here", "_law_many"] (spTake)) (D__law_odd : Df P w K mg base CX0 "_law_odd" 2 f2 fd2 ["_law_pot_here", "_law_wide"] (spOdd)) (D__law_told : Df P w K mg base CX0 "_law_told" 3 f3 fd3 ["_law_number", "_law_wide"] (spTold)) (D__law_read : Df P w K mg base CX0 "_law_read" 3 f4 fd4 ["_law_value"] (spReadN)) : FnOk P w K mg base CX0 (4) f fd ["_law_pot_here"] (spRight) := by
  refine F.ok sc__law_right (fun vs H Q E h => ?_) (fun cdv A outer s H vs Q E hr h => ?_)
  · obtain ⟨p, rfl, _⟩ := h
    rfl
  · obtain ⟨p, rfl, hP, q⟩ := h
    refine ⟨_, (pss_cons (ps_set (i := 1) sc__law_right.nd rfl (Or.inl rfl) (pe_op op_add pe_int (pe_call D__law_take.ok (hr.mono (by decide)) (by rfl) D__law_take.g D__law_take.kp D__law_take.b .nil pass0 (pa_cons (pv 0) (pa_cons pe_int pa_nil)))))
      (pss_cons (ps_set (i := 2) sc__law_right.nd rfl (Or.inl rfl) (pe_call D__law_odd.ok (hr.mono (by decide)) (by rfl) D__law_odd.g D__law_odd.kp D__law_odd.b .nil pass0 (pa_cons (pv 0) (pa_cons (pv 1) pa_nil))))
      (pss_cons (ps_set (i := 3) sc__law_right.nd rfl (Or.inl rfl) (pe_lst (pa_cons pe_bl (pa_cons pe_bl (pa_cons pe_bl (pa_cons pe_bl (pa_cons pe_bl (pa_cons pe_bl pa_nil))))))))
      (pss_cons (ps_set (i := 4) sc__law_right.nd rfl (Or.inr rfl) (pe_call D__law_take.ok (hr.mono (by decide)) (by rfl) D__law_take.g D__law_take.kp D__law_take.b .nil pass0 (pa_cons (pv 0) (pa_cons (pe_ix ix_list (pe_lst (pa_cons pe_int (pa_cons pe_int (pa_cons pe_int (pa_cons pe_int (pa_cons pe_int (pa_cons pe_int (pa_cons pe_int (pa_cons pe_int pa_nil))))))))) (pe_op op_sub (pv 1) pe_int) (fun _ _ => rfl)) pa_nil))))
      (pss_cons (ps_set (i := 5) sc__law_right.nd rfl (Or.inl rfl) (pe_join pe_str (pe_revL (pe_lc (own := [("_law_k", 9)]) (g := gName 9) (tt := tYes) (by rfl) sc__law_right.nd (pi_range1 (by rfl) B.range (pa_cons (pv 1) pa_nil)) (blkOk_by (own := [("_law_k", 9)]) (N := N__law_right) (sc := defScope s__law_right) (by decide +kernel)) (fun _ _ _ _ _ => pg_name (i := 9) sc__law_right.nd rfl (Or.inl rfl)) (fun _ _ _ _ _ => pts_nil) (fun _ _ _ _ _ => (pe_callTy call_str_int (by rfl) B.str (by decide +kernel) (pa_cons (pe_op op_mod (pe_op op_fdiv (pv 4) (pe_ix (ix_listK (K := K) rfl) (pe_lst (pa_cons pe_int (pa_cons pe_int (pa_cons pe_int (pa_cons pe_int (pa_cons pe_int (pa_cons pe_int (pa_cons pe_int (pa_cons pe_int pa_nil))))))))) (pv 9) (fun _ _ => rfl))) pe_int) pa_nil)))))))
      (pss_cons (ps_if (PW.pt (pw_or (pt_cmpR (op_neD hr.units) (pe_call D__law_told.ok (hr.mono (by decide)) (by rfl) D__law_told.g D__law_told.kp D__law_told.b .nil pass0 (pa_cons (pv 2) (pa_cons (pv 1) pa_nil))) (pv 3) (nomark _)) (pw_or (pt_cmpR (op_neD hr.units) (pe_call D__law_told.ok (hr.mono (by decide)) (by rfl) D__law_told.g D__law_told.kp D__law_told.b .nil pass0 (pa_cons (pv 4) (pa_cons (pv 1) pa_nil))) (pv 5) (nomark _)) (pw_or1 (pt_cmpR (op_neD hr.units) (pe_call D__law_told.ok (hr.mono (by decide)) (by rfl) D__law_told.g D__law_told.kp D__law_told.b .nil pass0 (pa_cons (pv 2) (pa_cons (pv 1) pa_nil))) (pv 3) (nomark _)))))) (pss_one (ps_ret pe_bl)) pss_nil)
      (pss_cons (ps_set (i := 6) sc__law_right.nd rfl (Or.inl rfl) (pe_and (pe_callB call_isi (by rfl) B.isinstance (by decide +kernel) (pa_cons (pv 2) (pa_cons (pe_bltn (v := .ty "int") (by rfl) B.int (by decide +kernel) rfl) pa_nil))) (pe_and (pe_not (pe_callB call_isi (by rfl) B.isinstance (by decide +kernel) (pa_cons (pv 2) (pa_cons (pe_bltn (v := .ty "bool") (by rfl) B.bool (by decide +kernel) rfl) pa_nil)))) (pe_one (pe_chain op_le op_lt pe_int (pv 2) pe_int)))))
      (pss_cons (ps_if (PW.pt (pw_and (pt_not (pt_val (pv 6))) (pw_and1 (pt_cmpR (op_neD hr.units) (pe_call D__law_told.ok (hr.mono (by decide)) (by rfl) D__law_told.g D__law_told.kp D__law_told.b .nil pass0 (pa_cons (pv 2) (pa_cons pe_int pa_nil))) (pv 3) (nomark _))))) (pss_one (ps_ret pe_bl)) pss_nil)
      (pss_cons (ps_set (i := 7) sc__law_right.nd rfl (Or.inl rfl) (pe_call D__law_take.ok (hr.mono (by decide)) (by rfl) D__law_take.g D__law_take.kp D__law_take.b .nil pass0 (pa_cons (pv 0) (pa_cons (pv 1) pa_nil))))
      (pss_cons (ps_set (i := 8) sc__law_right.nd rfl (Or.inl rfl) (pe_op op_add_str (pe_op op_add_str (pe_slice sl_str (pv 5) po_none (po_some (pv 7))) (pe_ix ix_str pe_str (pe_call D__law_take.ok (hr.mono (by decide)) (by rfl) D__law_take.g D__law_take.kp D__law_take.b .nil pass0 (pa_cons (pv 0) (pa_cons pe_int pa_nil))) (fun _ _ => rfl))) (pe_slice sl_str (pv 5) (po_some (pe_op op_add (pv 7) pe_int)) po_none)))
      (pss_one (ps_ret (pe_and (pe_cmpR (op_eqD hr.units) (pe_call D__law_read.ok (hr.mono (by decide)) (by rfl) D__law_read.g D__law_read.kp D__law_read.b .nil pass0 (pa_cons (pv 8) pa_nil)) (pe_lst (pa_cons pe_bl (pa_cons pe_bl (pa_cons pe_bl (pa_cons pe_bl (pa_cons pe_bl (pa_cons pe_bl pa_nil))))))) (nomark _)) (pe_one (pe_cmpR (op_eqD hr.units) (pe_call D__law_read.ok (hr.mono (by decide)) (by rfl) D__law_read.g D__law_read.kp D__law_read.b .nil pass0 (pa_cons (pv 5) pa_nil)) (pv 4) (nomark _)))))))))))))))), ?_⟩
    refine ⟨_, rfl, p, 8, rfl, hP, by decide, by decide, fun H1 d z1 hP1 d0 d1 => ⟨_, _, rfl, rfl, ?_⟩⟩
    obtain ⟨k, rfl⟩ := Int.eq_ofNat_of_zero_le d0
    have hk : k < 8 := by omega
    refine ⟨_, rfl, _, rfl, p, k, rfl, hk, hP1, fun H2 x z2 hP2 nx hx => ?_⟩
    refine g_name ?_
    dsimp only
    refine q_asgL (xs := (rfL true false).map V.bl) (el_lst (ea_cons ev_c (ea_cons ev_c (ea_cons ev_c (ea_cons ev_c (ea_cons ev_c (ea_cons ev_c ea_nil)))))) (by decide)) fun pr H3 nr e3 hr3 => ?_
    refine ⟨_, rfl, ?_⟩
    refine (ev_ixN (K := K) (v := .int ((2 ^ (k + 1) : Nat) : Int)) (el_lst (vs := pw2) (ea_cons ev_c (ea_cons ev_c (ea_cons ev_c (ea_cons ev_c (ea_cons ev_c (ea_cons ev_c (ea_cons ev_c (ea_cons ev_c ea_nil)))))))) (by decide)) (fun H2 _ => ev_is (ev_op (ev_var rfl) ev_c rv_I0) (w := .int (k : Int)) (by congr 1; omega)) (pw2_at ⟨k, hk⟩)) H3 (Ex.refl _) _ fun H4 e4 => ?_
    have hp0 : 0 < 2 ^ (k + 1) := Nat.pow_pos (by decide)
    have hp8 : 2 ^ (k + 1) ≤ 2 ^ 8 := Nat.pow_le_pow_right (by decide) (by omega)
    refine ⟨p, _, rfl, (hP2.ex e3).ex e4, by omega, by omega, fun H5 m z5 hP5 m0 m1 => ?_⟩
    obtain ⟨m, rfl⟩ := Int.eq_ofNat_of_zero_le m0
    have hm : m < 2 ^ (k + 1) := by omega
    have hm2 : m < 256 := by omega
    refine g_name ?_
    dsimp only
    have eb := bitsL_low ⟨k + 1, by omega⟩ ⟨m, hm2⟩
    simp only at eb
    refine q_asg (v := .str (Tx (bitsL (k + 1) m))) (ev_join1 ?_ (by rw [bitsL_len]; omega)) fun H6 e6 => ?_
    · rw [← eb, List.map_reverse, List.map_map]
      refine el_revL (el_is (el_lcR1 (n := 1 + (k : Int)) (fun _ => true) (fun t => V.str (Tx [48 + m / 2 ^ t % 2])) (ea_cons (ev_var rfl) ea_nil) ⟨by omega, by omega⟩ (fun x => rfl) (fun t H1 _ ht => et_yes) (fun t H1 _ ht _ => ?_)) ?_)
      · have ht8 : t < 8 := by omega
        obtain ⟨g1, g2⟩ := str_bit ⟨m / 2 ^ t % 2, by omega⟩
        simp only at g1 g2
        refine ev_is (ev_strI (i := ((m / 2 ^ t % 2 : Nat) : Int)) (ev_is (ev_op (ev_op (ev_var rfl) (ev_ixN (el_lst (vs := pw) (ea_cons ev_c (ea_cons ev_c (ea_cons ev_c (ea_cons ev_c (ea_cons ev_c (ea_cons ev_c (ea_cons ev_c (ea_cons ev_c ea_nil)))))))) (by decide)) (fun H2 _ => ev_var rfl) (pw_at ⟨t, ht8⟩)) (rv_I ⟨?_, ?_⟩)) ev_c (rv_I (by decide))) ?_) g1) g2
        · have : 0 < 2 ^ t := Nat.pow_pos (by decide)
          show (0 : Int) < ((2 ^ t : Nat) : Int)
          omega
        · have : 2 ^ t ≤ 2 ^ 8 := Nat.pow_le_pow_right (by decide) (by omega)
          simp only
          omega
        · simp
      · unfold given
        rw [List.filter_eq_self.mpr (fun _ _ => rfl), show (1 + (k : Int)).toNat = k + 1 by omega]
        rfl
    have hx6 : OddN H6 (k + 1) x := ((hx.ex (e3.trans e4)).exB nx z5).ex e6
    have npr : pr ≠ p := hP2.ne nr
    have hr6 : H6 pr = some (.lst ((rfL true false).map V.bl)) := e6 _ _ (z5 _ _ npr (e4 _ _ hr3))
    have hlow : LowS (Tx (bitsL (k + 1) m)) := low_Tx fun c hc => by
      have := bitsL_told _ _ c hc
      simp only [List.mem_cons, List.not_mem_nil, or_false] at this
      omega
    have htold : ∀ {σ : L2.St} {H7 : Hp} {E : XK}, Ex H6 H7 → σ[2]? = some (some x) → σ[1]? = some (some (.int (1 + (k : Int)))) → σ[3]? = some (some (.ref pr)) → Ev (tOp (rNeD K) (tCall spTold [] E (tCons (tVar 2) (tCons (tVar 1) tNil))) (tVar 3)) σ H7 (.bl false) := fun e7 s2 s1 s3 =>
      ev_is (ev_opL1 (el_call (ea_cons (ev_var s2) (ea_cons (ev_var s1) ea_nil)) (spl_told (by omega) (by omega) (.inl (by omega)) (hx6.ex e7))) (fun H8 e8 => ev_var s3) fun pz H8 hpz e8 => rv_neBls (sq_of hpz) (sq_of (e8 _ _ (e7 _ _ hr6)))) (by simp)
    refine q_when (b := false) (et_is (et_or (et_test (htold (Ex.refl _) rfl rfl rfl)) fun _ => et_or (et_test (ev_op (ev_call (ea_cons (ev_var rfl) (ea_cons (ev_var rfl) ea_nil)) (spv_told (w := k + 1) (by omega) (by omega) (by omega) hm)) (ev_var rfl) (rv_neD (d := .str (Tx (bitsL (k + 1) m))) (e := .str (Tx (bitsL (k + 1) m))) (fun _ _ => .str _) (fun _ _ => .str _) (low_str hlow) (low_str hlow) (eqv_str _)))) fun _ => et_test (htold (Ex.refl _) rfl rfl rfl)) rfl) (fun hb => by cases hb) (fun _ H7 e7 => ?_)
    have hx7 := hx6.ex e7
    refine q_asg (v := .bl (smB x)) ?_ fun H8 e8 => ?_
    · rcases hx7.kind (K := K) with ⟨i, rfl, hi⟩ | ⟨b, rfl⟩ | hty
      · exact ev_is (ev_andV (ev_isi (b := true) (ev_var rfl) ev_c fun H1 _ => ⟨_, .base (.int _), by decide +kernel⟩) fun _ => ev_andV (ev_notV (ev_isi (b := false) (ev_var rfl) ev_c fun H1 _ => ⟨_, .base (.int _), by decide +kernel⟩)) fun _ => ev_chain ev_c (ev_var rfl) rv_I0 fun _ => ⟨ev_c, rv_I0⟩) (by simp [smB])
      · exact ev_is (ev_andV (a := true) (b := false) (ev_isi (ev_var rfl) ev_c fun H1 _ => ⟨_, .base (.bl _), by decide +kernel⟩) fun _ => ev_is (ev_andV (a := false) (b := true) (ev_notV (a := true) (ev_isi (ev_var rfl) ev_c fun H1 _ => ⟨_, .base (.bl _), by decide +kernel⟩)) fun z => by cases z) rfl) rfl
      · exact ev_is (ev_andV (a := false) (b := true) (ev_isi (ev_var rfl) ev_c hty.2) fun z => by cases z) (by rw [smB_no hty.1]; rfl)
    have hr8 := e8 _ _ (e7 _ _ hr6)
    refine q_when (b := false) (et_is (et_and (b := false) (et_not (et_B (ev_var rfl))) fun hs => et_is (et_test (ev_opL1 (el_call (ea_cons (ev_var rfl) (ea_cons ev_c ea_nil)) (spl_told (w := 8) (by decide) (by decide) (.inr ⟨rfl, rfl⟩) (odd_eight (hx7.ex e8) (by simpa using hs)))) (fun H9 e9 => ev_var rfl) fun pz H9 hpz e9 => rv_neBls (sq_of hpz) (sq_of (e9 _ _ hr8)))) (by simp)) (by simp)) (fun hb => by cases hb) (fun _ H9 e9 => ?_)
    have hP9 := ((hP5.ex e6).ex (e7.trans e8)).ex e9
    refine ⟨_, rfl, _, rfl, p, 1 + (k : Int), rfl, hP9, by omega, by omega, fun H10 j z10 hP10 j0 j1 => ?_⟩
    obtain ⟨j, rfl⟩ := Int.eq_ofNat_of_zero_le j0
    refine g_name ?_
    dsimp only
    have hbl : (bitsL (k + 1) m).length = k + 1 := bitsL_len _ _
    refine (ev_cutLo (l := bitsL (k + 1) m) (j := j) (ev_var rfl) eo_none (eo_some (ev_var rfl)) (by omega) (by omega)) H10 (Ex.refl _) _ fun H11 e11 => ?_
    refine ⟨_, rfl, p, 2, rfl, hP10.ex e11, by decide, by decide, fun H12 d2 z12 hP12 g0 g1 => ?_⟩
    obtain ⟨c, hc, hcm⟩ := at_sign (l := [120, 122]) g0 g1
    refine ⟨Str.ofString "xz", d2, c, rfl, rfl, by decide +kernel, by rw [s_xz]; exact hc, ?_⟩
    refine ⟨_, _, rfl, rfl, sz_of (by rw [Tx_len, Tx_len, List.length_take]; simp; omega), ?_⟩
    refine (ev_cutHi (l := bitsL (k + 1) m) (i := j + 1) (ev_var rfl) (eo_some (ev_is (ev_op (ev_var rfl) ev_c rv_I0) (by simp))) eo_none (by omega) (by omega)) H12 (Ex.refl _) _ fun H13 e13 => ?_
    refine ⟨_, _, rfl, rfl, sz_of (by rw [Tx_cat, Tx_len, Tx_len, List.length_append, List.length_take, List.length_drop]; simp; omega), ?_⟩
    rw [Tx_cat, Tx_cat]
    refine g_name ?_
    dsimp only
    have hnt : ¬ Told ((bitsL (k + 1) m).take j ++ [c] ++ (bitsL (k + 1) m).drop (j + 1)) := fun z => by
      have := z c (List.mem_append.mpr (.inl (List.mem_append.mpr (.inr (List.mem_singleton.mpr rfl)))))
      simp only [List.mem_cons, List.not_mem_nil, or_false] at this hcm
      omega
    have hnl : ((bitsL (k + 1) m).take j ++ [c] ++ (bitsL (k + 1) m).drop (j + 1)).length ≤ 8 := by
      rw [List.length_append, List.length_append, List.length_take, List.length_drop]
      simp
      omega
    refine s_ret (ev_is (ev_andV (a := true) (b := true) (ev_is (ev_opLL (el_call (ea_cons (ev_var rfl) ea_nil) (spl_rd hnl hnt)) (el_lst (vs := (rfL false true).map V.bl) (ea_cons ev_c (ea_cons ev_c (ea_cons ev_c (ea_cons ev_c (ea_cons ev_c (ea_cons ev_c ea_nil)))))) (by decide)) fun q1 q2 G g1 g2 _ => rv_eqBls (sq_of g1) (sq_of g2)) (by simp)) fun _ => ev_is (ev_op (ev_call (ea_cons (ev_var rfl) ea_nil) (spv_rd (by omega) (bitsL_told _ _))) (ev_var rfl) (rv_eqD (d := .int (numN (bitsL (k + 1) m) : Int)) (e := .int (m : Int)) (fun _ _ => .int _) (fun _ _ => .int _) (shaped_int _) (shaped_int _) (by rw [numN_bitsL _ _ hm]; exact eqv_int _))) rfl) rfl) fun H14 e14 => q H14 ?_
    exact z1.trans (z2.trans ((ExB.of (e3.trans e4)).trans (z5.trans ((ExB.of (((e6.trans e7).trans e8).trans e9)).trans (z10.trans ((ExB.of e11).trans (z12.trans (ExB.of (e13.trans e14)))))))))
theorem ok_law {f f1 f2 : Addr} {fd fd1 fd2 : FuncData} (F : Fun K "law" "law" s_law f fd) (B : Bi K w mg a_NoValue a_NoNumber a_NoTerm a_NoText a_NoRow a_Clash a_NoName a_Unending a_Busy a_TooMany a_WireError)  (D__law_pot : Df P w K mg base CX0 "_law_pot" 2 f1 fd1 ["_law_script", "_law_k"] (spPot K)) (D__law_right : Df P w K mg base CX0 "_law_right" 4 f2 fd2 ["_law_pot_here"] (spRight)) : FnOk P w K mg base CX0 (5) f fd ["_law_script"] (spLaw K) := by
  refine F.ok sc_law (fun vs H Q E h => ?_) (fun cdv A outer s H vs Q E hr h => ?_)
  · obtain ⟨a, b, rfl, _⟩ := h
    rfl
  · obtain ⟨a, ns, rfl, hS, hlen, q⟩ := h
    refine ⟨_, (pss_cons (ps_for PassesOwn.never rfl (pi_range1 (by rfl) B.range (pa_cons (pe_callB (call_max2 rfl) (by rfl) B.max (by decide +kernel) (pa_cons pe_int (pa_cons (pe_callB (call_min2 rfl) (by rfl) B.min (by decide +kernel) (pa_cons pe_int (pa_cons (pe_callB call_len_seq (by rfl) B.len PySem.boot_len (pa_cons (pv 0) pa_nil)) pa_nil))) pa_nil))) pa_nil)) (pg_name (i := 1) sc_law.nd rfl (Or.inl rfl)) (pss_one (ps_if (pt_not (pt_val (pe_call D__law_right.ok (hr.mono (by decide)) (by rfl) D__law_right.g D__law_right.kp D__law_right.b .nil pass0 (pa_cons (pe_call D__law_pot.ok (hr.mono (by decide)) (by rfl) D__law_pot.g D__law_pot.kp D__law_pot.b .nil pass0 (pa_cons (pv 0) (pa_cons (pv 1) pa_nil))) pa_nil)))) (pss_one (ps_ret pe_bl)) pss_nil)))
      (pss_one (ps_ret pe_bl))), ?_⟩
    refine q_forR1 (n := if (if (ns.length : Int) < 10 then (ns.length : Int) else 10) > 3 then (if (ns.length : Int) < 10 then (ns.length : Int) else 10) else 3) ?_ ⟨by split <;> omega, by split <;> (try split) <;> omega⟩ (fun i σ' H' => (∃ a1, σ' = [some (.ref a), a1]) ∧ SqL K H' a (ns.map V.int))
      (fun H2 e2 => ⟨⟨none, rfl⟩, ex_l e2 hS⟩) (fun i σ' H' hi hv => ?_) (fun σ' H' hv => ?_)
    · refine fun H2 e2 Q2 q2 => ?_
      refine ⟨_, rfl, a, _, rfl, .inl (ex_l e2 hS), _, _, rfl, _, _, rfl, ?_⟩
      rw [List.length_map]
      exact q2 _ (Ex.refl _)
    · obtain ⟨⟨a1, rfl⟩, hS2⟩ := hv
      have hi2 : (i : Int) ≤ 1000 := by
        revert hi
        split <;> (try split) <;> omega
      refine ⟨_, rfl, _, rfl, a, ns, _, rfl, hS2, by omega, hi2, fun p H2 np x2 hP => ?_⟩
      refine ⟨p, rfl, hP, fun H3 z3 => ⟨true, rfl, ?_⟩⟩
      exact ⟨⟨_, rfl⟩, ex_l (z3.back x2 np) hS2⟩
    · exact s_ret ev_c fun H2 _ => q H2
end
theorem all_mk {l : PySem.W.OpenLaw} {w : World} {K : PySem.W.Frag} {h : Heap} {mg : Str → Option Value} {fa g0 g1 g2 g3 g4 g5 g6 g7 g8 g9 g10 g11 Dk2 : Addr} {od0 an0 od1 an1 od2 an2 od3 an3 od4 an4 od5 an5 od6 an6 od7 an7 od8 an8 od9 an9 od10 an10 od11 an11 : Option Addr} {sl0 sl1 sl2 sl3 sl4 sl5 sl6 sl7 sl8 sl9 sl10 sl11 : Array (Option Value)} {oc0 kV0 dc0 pm0 cd0 ct0 oc1 kV1 dc1 pm1 cd1 ct1 oc2 dc2 pm2 cd2 ct2 oc3 kV3 dc3 pm3 cd3 ct3 oc4 kV4 dc4 pm4 cd4 ct4 oc5 kV5 dc5 pm5 cd5 ct5 oc6 kV6 dc6 pm6 cd6 ct6 oc7 kV7 dc7 pm7 cd7 ct7 oc8 kV8 dc8 pm8 cd8 ct8 oc9 kV9 dc9 pm9 cd9 ct9 oc10 kV10 dc10 pm10 cd10 ct10 oc11 kV11 dc11 pm11 cd11 ct11 : Value} {ty0 td2_0 : Tok} {a_NoValue a_NoNumber a_NoTerm a_NoText a_NoRow a_Clash a_NoName a_Unending a_Busy a_TooMany a_WireError : Addr} (X : K.In h) (G : h.Ns mainGlobals mg) (hfa : mg "law" = some (.ref fa))
    (a0 : PySem.W.nsIn K mainGlobals "number_of" = some (some (.ref g0)))
    (l0 : K.lookup g0 = some ⟨oc0, od0, .func (PySem.W.fnOf "number_of" "number_of" (defArgs s_number_of) (defBody s_number_of) (defScope s_number_of) .none (kV0) dc0 pm0 an0 cd0 ct0), sl0⟩)
    (c0 : PySem.W.codeIn K cd0 "number_of" = true)
    (k0 : PySem.W.keepIn K (.ref g0) = true)
    (a1 : PySem.W.nsIn K mainGlobals "is_whole" = some (some (.ref g1)))
    (l1 : K.lookup g1 = some ⟨oc1, od1, .func (PySem.W.fnOf "is_whole" "is_whole" (defArgs s_is_whole) (defBody s_is_whole) (defScope s_is_whole) .none (kV1) dc1 pm1 an1 cd1 ct1), sl1⟩)
    (c1 : PySem.W.codeIn K cd1 "is_whole" = true)
    (k1 : PySem.W.keepIn K (.ref g1) = true)
    (a2 : PySem.W.nsIn K mainGlobals "value_of" = some (some (.ref g2)))
    (l2 : K.lookup g2 = some ⟨oc2, od2, .func (PySem.W.fnOf "value_of" "value_of" (defArgs s_value_of) (defBody s_value_of) (defScope s_value_of) .none (.ref Dk2) dc2 pm2 an2 cd2 ct2), sl2⟩)
    (c2 : PySem.W.codeIn K cd2 "value_of" = true)
    (k2 : PySem.W.keepIn K (.ref g2) = true)
    (d2_0 : PySem.W.nsIn K Dk2 "width" = some (some (.int 8 td2_0)))
    (a3 : PySem.W.nsIn K mainGlobals "_law_at" = some (some (.ref g3)))
    (l3 : K.lookup g3 = some ⟨oc3, od3, .func (PySem.W.fnOf "_law_at" "_law_at" (defArgs s__law_at) (defBody s__law_at) (defScope s__law_at) .none (kV3) dc3 pm3 an3 cd3 ct3), sl3⟩)
    (c3 : PySem.W.codeIn K cd3 "_law_at" = true)
    (k3 : PySem.W.keepIn K (.ref g3) = true)
    (a4 : PySem.W.nsIn K mainGlobals "_law_pot" = some (some (.ref g4)))
    (l4 : K.lookup g4 = some ⟨oc4, od4, .func (PySem.W.fnOf "_law_pot" "_law_pot" (defArgs s__law_pot) (defBody s__law_pot) (defScope s__law_pot) .none (kV4) dc4 pm4 an4 cd4 ct4), sl4⟩)
    (c4 : PySem.W.codeIn K cd4 "_law_pot" = true)
    (k4 : PySem.W.keepIn K (.ref g4) = true)
    (a5 : PySem.W.nsIn K mainGlobals "_law_take" = some (some (.ref g5)))
    (l5 : K.lookup g5 = some ⟨oc5, od5, .func (PySem.W.fnOf "_law_take" "_law_take" (defArgs s__law_take) (defBody s__law_take) (defScope s__law_take) .none (kV5) dc5 pm5 an5 cd5 ct5), sl5⟩)
    (c5 : PySem.W.codeIn K cd5 "_law_take" = true)
    (k5 : PySem.W.keepIn K (.ref g5) = true)
    (a6 : PySem.W.nsIn K mainGlobals "_law_word" = some (some (.ref g6)))
    (l6 : K.lookup g6 = some ⟨oc6, od6, .func (PySem.W.fnOf "_law_word" "_law_word" (defArgs s__law_word) (defBody s__law_word) (defScope s__law_word) .none (kV6) dc6 pm6 an6 cd6 ct6), sl6⟩)
    (c6 : PySem.W.codeIn K cd6 "_law_word" = true)
    (k6 : PySem.W.keepIn K (.ref g6) = true)
    (a7 : PySem.W.nsIn K mainGlobals "_law_told" = some (some (.ref g7)))
    (l7 : K.lookup g7 = some ⟨oc7, od7, .func (PySem.W.fnOf "_law_told" "_law_told" (defArgs s__law_told) (defBody s__law_told) (defScope s__law_told) .none (kV7) dc7 pm7 an7 cd7 ct7), sl7⟩)
    (c7 : PySem.W.codeIn K cd7 "_law_told" = true)
    (k7 : PySem.W.keepIn K (.ref g7) = true)
    (a8 : PySem.W.nsIn K mainGlobals "_law_read" = some (some (.ref g8)))
    (l8 : K.lookup g8 = some ⟨oc8, od8, .func (PySem.W.fnOf "_law_read" "_law_read" (defArgs s__law_read) (defBody s__law_read) (defScope s__law_read) .none (kV8) dc8 pm8 an8 cd8 ct8), sl8⟩)
    (c8 : PySem.W.codeIn K cd8 "_law_read" = true)
    (k8 : PySem.W.keepIn K (.ref g8) = true)
    (a9 : PySem.W.nsIn K mainGlobals "_law_odd" = some (some (.ref g9)))
    (l9 : K.lookup g9 = some ⟨oc9, od9, .func (PySem.W.fnOf "_law_odd" "_law_odd" (defArgs s__law_odd) (defBody s__law_odd) (defScope s__law_odd) .none (kV9) dc9 pm9 an9 cd9 ct9), sl9⟩)
    (c9 : PySem.W.codeIn K cd9 "_law_odd" = true)
    (k9 : PySem.W.keepIn K (.ref g9) = true)
    (a10 : PySem.W.nsIn K mainGlobals "_law_right" = some (some (.ref g10)))
    (l10 : K.lookup g10 = some ⟨oc10, od10, .func (PySem.W.fnOf "_law_right" "_law_right" (defArgs s__law_right) (defBody s__law_right) (defScope s__law_right) .none (kV10) dc10 pm10 an10 cd10 ct10), sl10⟩)
    (c10 : PySem.W.codeIn K cd10 "_law_right" = true)
    (k10 : PySem.W.keepIn K (.ref g10) = true)
    (a11 : PySem.W.nsIn K mainGlobals "law" = some (some (.ref g11)))
    (l11 : K.lookup g11 = some ⟨oc11, od11, .func (PySem.W.fnOf "law" "law" (defArgs s_law) (defBody s_law) (defScope s_law) .none (kV11) dc11 pm11 an11 cd11 ct11), sl11⟩)
    (c11 : PySem.W.codeIn K cd11 "law" = true)
    (k11 : PySem.W.keepIn K (.ref g11) = true)
    (z0 : PySem.W.nsIn K mainGlobals "ValueError" = some none)
    (z1 : PySem.W.nsIn K mainGlobals "bool" = some none)
    (z2 : PySem.W.nsIn K mainGlobals "divmod" = some none)
    (z3 : PySem.W.nsIn K mainGlobals "int" = some none)
    (z4 : PySem.W.nsIn K mainGlobals "isinstance" = some none)
    (z5 : PySem.W.nsIn K mainGlobals "len" = some none)
    (z6 : PySem.W.nsIn K mainGlobals "max" = some none)
    (z7 : PySem.W.nsIn K mainGlobals "min" = some none)
    (z8 : PySem.W.nsIn K mainGlobals "range" = some none)
    (z9 : PySem.W.nsIn K mainGlobals "str" = some none)
    (y0 : PySem.W.nsIn K mainGlobals "TOLD" = some (some (.str (Str.ofString "01") ty0)))
    (y_NoValue : PySem.W.nsIn K mainGlobals "NoValue" = some (some (.ref a_NoValue)))
    (y_NoNumber : PySem.W.nsIn K mainGlobals "NoNumber" = some (some (.ref a_NoNumber)))
    (y_NoTerm : PySem.W.nsIn K mainGlobals "NoTerm" = some (some (.ref a_NoTerm)))
    (y_NoText : PySem.W.nsIn K mainGlobals "NoText" = some (some (.ref a_NoText)))
    (y_NoRow : PySem.W.nsIn K mainGlobals "NoRow" = some (some (.ref a_NoRow)))
    (y_Clash : PySem.W.nsIn K mainGlobals "Clash" = some (some (.ref a_Clash)))
    (y_NoName : PySem.W.nsIn K mainGlobals "NoName" = some (some (.ref a_NoName)))
    (y_Unending : PySem.W.nsIn K mainGlobals "Unending" = some (some (.ref a_Unending)))
    (y_Busy : PySem.W.nsIn K mainGlobals "Busy" = some (some (.ref a_Busy)))
    (y_TooMany : PySem.W.nsIn K mainGlobals "TooMany" = some (some (.ref a_TooMany)))
    (y_WireError : PySem.W.nsIn K mainGlobals "WireError" = some (some (.ref a_WireError)))
    (i_NoValue : PySem.W.isClsIn K a_NoValue = true)
    (i_NoNumber : PySem.W.isClsIn K a_NoNumber = true)
    (i_NoTerm : PySem.W.isClsIn K a_NoTerm = true)
    (i_NoText : PySem.W.isClsIn K a_NoText = true)
    (i_NoRow : PySem.W.isClsIn K a_NoRow = true)
    (i_Clash : PySem.W.isClsIn K a_Clash = true)
    (i_NoName : PySem.W.isClsIn K a_NoName = true)
    (i_Unending : PySem.W.isClsIn K a_Unending = true)
    (i_Busy : PySem.W.isClsIn K a_Busy = true)
    (i_TooMany : PySem.W.isClsIn K a_TooMany = true)
    (i_WireError : PySem.W.isClsIn K a_WireError = true)
    (t_NoValue : PySem.W.typeIn K (.ref a_NoValue) = some (.type "type"))
    (t_NoNumber : PySem.W.typeIn K (.ref a_NoNumber) = some (.type "type"))
    (t_NoTerm : PySem.W.typeIn K (.ref a_NoTerm) = some (.type "type"))
    (t_NoText : PySem.W.typeIn K (.ref a_NoText) = some (.type "type"))
    (t_NoRow : PySem.W.typeIn K (.ref a_NoRow) = some (.type "type"))
    (t_Clash : PySem.W.typeIn K (.ref a_Clash) = some (.type "type"))
    (t_NoName : PySem.W.typeIn K (.ref a_NoName) = some (.type "type"))
    (t_Unending : PySem.W.typeIn K (.ref a_Unending) = some (.type "type"))
    (t_Busy : PySem.W.typeIn K (.ref a_Busy) = some (.type "type"))
    (t_TooMany : PySem.W.typeIn K (.ref a_TooMany) = some (.type "type"))
    (t_WireError : PySem.W.typeIn K (.ref a_WireError) = some (.type "type"))
    (b_NoValue : PySem.W.subIn K (.ref a_NoValue) (.type "BaseException") = some true)
    (b_NoNumber : PySem.W.subIn K (.ref a_NoNumber) (.type "BaseException") = some true)
    (b_WireError : PySem.W.subIn K (.ref a_WireError) (.type "BaseException") = some true)
    (s_NoValue_NoValue : PySem.W.subIn K (.ref a_NoValue) (.ref a_NoValue) = some true)
    (s_NoValue_NoNumber : PySem.W.subIn K (.ref a_NoValue) (.ref a_NoNumber) = some false)
    (s_NoValue_NoTerm : PySem.W.subIn K (.ref a_NoValue) (.ref a_NoTerm) = some false)
    (s_NoValue_NoText : PySem.W.subIn K (.ref a_NoValue) (.ref a_NoText) = some false)
    (s_NoValue_NoRow : PySem.W.subIn K (.ref a_NoValue) (.ref a_NoRow) = some false)
    (s_NoValue_Clash : PySem.W.subIn K (.ref a_NoValue) (.ref a_Clash) = some false)
    (s_NoValue_NoName : PySem.W.subIn K (.ref a_NoValue) (.ref a_NoName) = some false)
    (s_NoValue_Unending : PySem.W.subIn K (.ref a_NoValue) (.ref a_Unending) = some false)
    (s_NoValue_Busy : PySem.W.subIn K (.ref a_NoValue) (.ref a_Busy) = some false)
    (s_NoValue_TooMany : PySem.W.subIn K (.ref a_NoValue) (.ref a_TooMany) = some false)
    (s_NoValue_WireError : PySem.W.subIn K (.ref a_NoValue) (.ref a_WireError) = some true)
    (v_NoValue : PySem.W.subIn K (.ref a_NoValue) (.type "ValueError") = some true)
    (x_NoValue : PySem.W.excIn K a_NoValue [.type "ValueError", .type "Exception", .type "BaseException", .type "object"] "ValueError.__new__" = true)
    (k_NoValue : PySem.W.keepIn K (.ref a_NoValue) = true)
    (e1_NoValue : PySem.W.findIn K (.ref a_NoValue) "__getattribute__" = some (some (.builtin "BaseException.__getattribute__")))
    (e2_NoValue : PySem.W.findIn K (.ref a_NoValue) "__getattr__" = some none)
    (e3_NoValue : PySem.W.hasDictIn K a_NoValue = true)
    (e4_NoValue : PySem.W.findIn K (.ref a_NoValue) "__class__" = some (some (.builtin "object.__class__")))
    (e7_NoValue : PySem.W.mroIn K a_NoValue (.type "object") = some true)
    (s_NoNumber_NoValue : PySem.W.subIn K (.ref a_NoNumber) (.ref a_NoValue) = some false)
    (s_NoNumber_NoNumber : PySem.W.subIn K (.ref a_NoNumber) (.ref a_NoNumber) = some true)
    (s_NoNumber_NoTerm : PySem.W.subIn K (.ref a_NoNumber) (.ref a_NoTerm) = some false)
    (s_NoNumber_NoText : PySem.W.subIn K (.ref a_NoNumber) (.ref a_NoText) = some false)
    (s_NoNumber_NoRow : PySem.W.subIn K (.ref a_NoNumber) (.ref a_NoRow) = some false)
    (s_NoNumber_Clash : PySem.W.subIn K (.ref a_NoNumber) (.ref a_Clash) = some false)
    (s_NoNumber_NoName : PySem.W.subIn K (.ref a_NoNumber) (.ref a_NoName) = some false)
    (s_NoNumber_Unending : PySem.W.subIn K (.ref a_NoNumber) (.ref a_Unending) = some false)
    (s_NoNumber_Busy : PySem.W.subIn K (.ref a_NoNumber) (.ref a_Busy) = some false)
    (s_NoNumber_TooMany : PySem.W.subIn K (.ref a_NoNumber) (.ref a_TooMany) = some false)
    (s_NoNumber_WireError : PySem.W.subIn K (.ref a_NoNumber) (.ref a_WireError) = some true)
    (v_NoNumber : PySem.W.subIn K (.ref a_NoNumber) (.type "ValueError") = some true)
    (x_NoNumber : PySem.W.excIn K a_NoNumber [.type "ValueError", .type "Exception", .type "BaseException", .type "object"] "ValueError.__new__" = true)
    (k_NoNumber : PySem.W.keepIn K (.ref a_NoNumber) = true)
    (e1_NoNumber : PySem.W.findIn K (.ref a_NoNumber) "__getattribute__" = some (some (.builtin "BaseException.__getattribute__")))
    (e2_NoNumber : PySem.W.findIn K (.ref a_NoNumber) "__getattr__" = some none)
    (e3_NoNumber : PySem.W.hasDictIn K a_NoNumber = true)
    (e4_NoNumber : PySem.W.findIn K (.ref a_NoNumber) "__class__" = some (some (.builtin "object.__class__")))
    (e7_NoNumber : PySem.W.mroIn K a_NoNumber (.type "object") = some true)
    (e5 : PySem.W.specialIn K (.builtin "object.__class__") "__get__" = some (some (.builtin "getset_descriptor.__get__")))
    (e6 : PySem.W.takesIn K (.builtin "object.__class__") = some true)
    : ∃ fd : FuncData, (∀ (s : Shared) (v : Value), BindsTo s fd ⟨[v], []⟩ [("_law_script", v)]) ∧ ∀ base : Heap, K.In base → base.Ns mainGlobals mg → FnOk l.prog w K mg base CX0 5 fa fd ["_law_script"] (spLaw K) := by
  have e := hfa.symm.trans (PySem.W.mg_of X G a11)
  cases e
  have B : Bi K w mg a_NoValue a_NoNumber a_NoTerm a_NoText a_NoRow a_Clash a_NoName a_Unending a_Busy a_TooMany a_WireError := ⟨PySem.W.mg_none_of X G z0, PySem.W.mg_none_of X G z1, PySem.W.mg_none_of X G z2, PySem.W.mg_none_of X G z3, PySem.W.mg_none_of X G z4, PySem.W.mg_none_of X G z5, PySem.W.mg_none_of X G z6, PySem.W.mg_none_of X G z7, PySem.W.mg_none_of X G z8, PySem.W.mg_none_of X G z9, ⟨_, PySem.W.mg_of X G y0, _, rfl⟩, ⟨_, PySem.W.mg_of X G y_NoValue, rfl⟩, ⟨_, PySem.W.mg_of X G y_NoNumber, rfl⟩, ⟨_, PySem.W.mg_of X G y_NoTerm, rfl⟩, ⟨_, PySem.W.mg_of X G y_NoText, rfl⟩, ⟨_, PySem.W.mg_of X G y_NoRow, rfl⟩, ⟨_, PySem.W.mg_of X G y_Clash, rfl⟩, ⟨_, PySem.W.mg_of X G y_NoName, rfl⟩, ⟨_, PySem.W.mg_of X G y_Unending, rfl⟩, ⟨_, PySem.W.mg_of X G y_Busy, rfl⟩, ⟨_, PySem.W.mg_of X G y_TooMany, rfl⟩, ⟨_, PySem.W.mg_of X G y_WireError, rfl⟩, x_NoValue, PySem.W.mg_of X G y_NoValue, k_NoValue, b_NoValue, t_NoValue, ⟨kit_by i_NoValue t_NoValue s_NoValue_NoValue, kit_no i_NoNumber t_NoNumber s_NoValue_NoNumber s_NoValue_NoValue, any_no (kit_no i_NoTerm t_NoTerm s_NoValue_NoTerm s_NoValue_NoValue) (any_no (kit_no i_NoText t_NoText s_NoValue_NoText s_NoValue_NoValue) (any_no (kit_no i_NoRow t_NoRow s_NoValue_NoRow s_NoValue_NoValue) (any_no (kit_no i_Clash t_Clash s_NoValue_Clash s_NoValue_NoValue) (any_no (kit_no i_NoName t_NoName s_NoValue_NoName s_NoValue_NoValue) (any_nil))))), any_no (kit_no i_Unending t_Unending s_NoValue_Unending s_NoValue_NoValue) (any_no (kit_no i_Busy t_Busy s_NoValue_Busy s_NoValue_NoValue) (any_no (kit_no i_TooMany t_TooMany s_NoValue_TooMany s_NoValue_NoValue) (any_nil))), kit_by i_WireError t_WireError s_NoValue_WireError, kit_byT (by decide +kernel) v_NoValue, ⟨e1_NoValue, e2_NoValue, b_NoValue, e3_NoValue, e4_NoValue, e5, e6, e7_NoValue⟩, exm_by b_WireError i_WireError t_WireError s_NoValue_WireError⟩, x_NoNumber, PySem.W.mg_of X G y_NoNumber, k_NoNumber, b_NoNumber, t_NoNumber, ⟨kit_no i_NoValue t_NoValue s_NoNumber_NoValue s_NoNumber_NoNumber, kit_by i_NoNumber t_NoNumber s_NoNumber_NoNumber, any_no (kit_no i_NoTerm t_NoTerm s_NoNumber_NoTerm s_NoNumber_NoNumber) (any_no (kit_no i_NoText t_NoText s_NoNumber_NoText s_NoNumber_NoNumber) (any_no (kit_no i_NoRow t_NoRow s_NoNumber_NoRow s_NoNumber_NoNumber) (any_no (kit_no i_Clash t_Clash s_NoNumber_Clash s_NoNumber_NoNumber) (any_no (kit_no i_NoName t_NoName s_NoNumber_NoName s_NoNumber_NoNumber) (any_nil))))), any_no (kit_no i_Unending t_Unending s_NoNumber_Unending s_NoNumber_NoNumber) (any_no (kit_no i_Busy t_Busy s_NoNumber_Busy s_NoNumber_NoNumber) (any_no (kit_no i_TooMany t_TooMany s_NoNumber_TooMany s_NoNumber_NoNumber) (any_nil))), kit_by i_WireError t_WireError s_NoNumber_WireError, kit_byT (by decide +kernel) v_NoNumber, ⟨e1_NoNumber, e2_NoNumber, b_NoNumber, e3_NoNumber, e4_NoNumber, e5, e6, e7_NoNumber⟩, exm_by b_WireError i_WireError t_WireError s_NoNumber_WireError⟩, PySem.W.mg_of X G y_WireError⟩
  have F0 := fun_mk (st := s_number_of) l0 c0 k0
  have b0 := F0.binds (ps := ["value"]) fun _ _ _ _ _ _ us hl => match us, hl with | [_], _ => rfl
  have F1 := fun_mk (st := s_is_whole) l1 c1 k1
  have b1 := F1.binds (ps := ["thing"]) fun _ _ _ _ _ _ us hl => match us, hl with | [_], _ => rfl
  have F2 : FunD K "value_of" "value_of" (defArgs s_value_of) (defBody s_value_of) (defScope s_value_of) [] [("width", .int 8)] g2 (PySem.W.fnOf "value_of" "value_of" (defArgs s_value_of) (defBody s_value_of) (defScope s_value_of) .none (.ref Dk2) dc2 pm2 an2 cd2 ct2) := ⟨⟨_, _, _, _, _, _, _, _, _, _, rfl, l2, c2, .inl ⟨rfl, rfl⟩, .inr ⟨Dk2, rfl, fun q hq => by
    simp only [List.mem_cons, List.not_mem_nil, or_false] at hq
    rcases hq with rfl
    · exact ⟨_, d2_0, _, rfl⟩
    ⟩⟩, k2⟩
  have kb_value_of_width : KBn K (PySem.W.fnOf "value_of" "value_of" (defArgs s_value_of) (defBody s_value_of) (defScope s_value_of) .none (.ref Dk2) dc2 pm2 an2 cd2 ct2) ["number", "width"] 1 ["width"] (fun us ws => us ++ ws) (fun vs zs => vs ++ zs) := ⟨fun s us ws _ hu hw => match us, ws, hu, hw with | [_], [_], _, _ => .of_eq rfl, fun r1 r2 => r1.append r2⟩
  obtain ⟨ds2, v2_0, b2_0⟩ := F2.binds0 (ps := ["number", "width"]) 1 (by decide) rfl fun D doc pm an cdv ct us ks hu hk => match us, ks, hu, hk with | [_], [_], _, _ => ⟨_, _, _, _, _, _, rfl, rfl, rfl⟩
  have F3 := fun_mk (st := s__law_at) l3 c3 k3
  have b3 := F3.binds (ps := ["_law_script", "_law_k"]) fun _ _ _ _ _ _ us hl => match us, hl with | [_, _], _ => rfl
  have F4 := fun_mk (st := s__law_pot) l4 c4 k4
  have b4 := F4.binds (ps := ["_law_script", "_law_k"]) fun _ _ _ _ _ _ us hl => match us, hl with | [_, _], _ => rfl
  have F5 := fun_mk (st := s__law_take) l5 c5 k5
  have b5 := F5.binds (ps := ["_law_pot_here", "_law_many"]) fun _ _ _ _ _ _ us hl => match us, hl with | [_, _], _ => rfl
  have F6 := fun_mk (st := s__law_word) l6 c6 k6
  have b6 := F6.binds (ps := ["_law_e"]) fun _ _ _ _ _ _ us hl => match us, hl with | [_], _ => rfl
  have F7 := fun_mk (st := s__law_told) l7 c7 k7
  have b7 := F7.binds (ps := ["_law_number", "_law_wide"]) fun _ _ _ _ _ _ us hl => match us, hl with | [_, _], _ => rfl
  have F8 := fun_mk (st := s__law_read) l8 c8 k8
  have b8 := F8.binds (ps := ["_law_value"]) fun _ _ _ _ _ _ us hl => match us, hl with | [_], _ => rfl
  have F9 := fun_mk (st := s__law_odd) l9 c9 k9
  have b9 := F9.binds (ps := ["_law_pot_here", "_law_wide"]) fun _ _ _ _ _ _ us hl => match us, hl with | [_, _], _ => rfl
  have F10 := fun_mk (st := s__law_right) l10 c10 k10
  have b10 := F10.binds (ps := ["_law_pot_here"]) fun _ _ _ _ _ _ us hl => match us, hl with | [_], _ => rfl
  have F11 := fun_mk (st := s_law) l11 c11 k11
  refine ⟨PySem.W.fnOf "law" "law" (defArgs s_law) (defBody s_law) (defScope s_law) .none kV11 dc11 pm11 an11 cd11 ct11, fun s v => .of_eq rfl, fun base _ _ => ?_⟩
  have E0 : Df l.prog w K mg base (L2N.CX l.prog w) "number_of" 1 g0 _ ["value"] (spNumX a_NoNumber) := ⟨ok_number_of F0 B  , PySem.W.mg_of X G a0, k0, b0⟩
  have E1 : Df l.prog w K mg base CX0 "is_whole" 1 g1 _ ["thing"] (spWhK K) := ⟨ok_is_whole F1 B  , PySem.W.mg_of X G a1, k1, b1⟩
  have E2 : DfD l.prog w K mg base (L2N.CX l.prog w) "value_of" 2 g2 _ ["number", "width"] (spVX a_NoValue) := ⟨ok_value_of F2 B  E1, PySem.W.mg_of X G a2, k2⟩
  have E3 : Df l.prog w K mg base CX0 "_law_at" 1 g3 _ ["_law_script", "_law_k"] (spAt K) := ⟨ok__law_at F3 B  , PySem.W.mg_of X G a3, k3, b3⟩
  have E4 : Df l.prog w K mg base CX0 "_law_pot" 2 g4 _ ["_law_script", "_law_k"] (spPot K) := ⟨ok__law_pot F4 B  E3, PySem.W.mg_of X G a4, k4, b4⟩
  have E5 : Df l.prog w K mg base CX0 "_law_take" 1 g5 _ ["_law_pot_here", "_law_many"] (spTake) := ⟨ok__law_take F5 B  , PySem.W.mg_of X G a5, k5, b5⟩
  have Ew : Df l.prog w K mg base CX0 "_law_take" 1 g5 _ ["_law_pot_here", "_law_many"] spTakeW := ⟨okw__law_take F5 B, PySem.W.mg_of X G a5, k5, b5⟩
  have E6 : DfZ l.prog w K mg base CX0 "_law_word" 1 g6 _ ["_law_e"] (spWord K a_NoValue a_NoNumber a_NoTerm a_NoText a_NoRow a_Clash a_NoName a_Unending a_Busy a_TooMany a_WireError) := ⟨ok__law_word F6 B  , PySem.W.mg_of X G a6, k6, b6⟩
  have E7 : Df l.prog w K mg base CX0 "_law_told" 3 g7 _ ["_law_number", "_law_wide"] (spTold) := ⟨ok__law_told F7 B  E6 E2 kb_value_of_width b2_0 v2_0, PySem.W.mg_of X G a7, k7, b7⟩
  have E8 : Df l.prog w K mg base CX0 "_law_read" 3 g8 _ ["_law_value"] (spReadN) := ⟨ok__law_read F8 B  E6 E0, PySem.W.mg_of X G a8, k8, b8⟩
  have E9 : Df l.prog w K mg base CX0 "_law_odd" 2 g9 _ ["_law_pot_here", "_law_wide"] (spOdd) := ⟨ok__law_odd F9 B Ew E5, PySem.W.mg_of X G a9, k9, b9⟩
  have E10 : Df l.prog w K mg base CX0 "_law_right" 4 g10 _ ["_law_pot_here"] (spRight) := ⟨ok__law_right F10 B  E5 E9 E7 E8, PySem.W.mg_of X G a10, k10, b10⟩
  exact ok_law F11 B  E4 E10
end Dw
open PySem PySem.W PyProof.Rows
set_option maxHeartbeats 0 in
theorem PySem.Challenge.cw_deltawires_k18_no_numbers_holds : PySem.Challenge.rw_deltawires_k18_no_numbers.Holds := by
  w_on; o_law; k_head; (case hw => w_witness2)
  k_fill
  refine L2.walk_of (l := PySem.Challenge.rw_deltawires_k18_no_numbers) (n := 63) (k := 5) (x := "_law_script") (CX := fun _ => L2.CX0) (sp := fun w => Dw.spLaw _) rfl (by decide) rfl ⟨rfl, by decide, by decide⟩ (fun w h Y => PySem.W.kIn_of Y) ?F (fun _ _ a ns hl _ hS => ⟨a, ns, rfl, hS, hl, fun _ => rfl⟩) (fun _ _ _ _ _ h => h)
  case F =>
    intro w mg fa h KX G hmg
    refine' Dw.all_mk KX G hmg ?a0 ?l0 ?c0 ?k0 ?a1 ?l1 ?c1 ?k1 ?a2 ?l2 ?c2 ?k2 ?d2_0 ?a3 ?l3 ?c3 ?k3 ?a4 ?l4 ?c4 ?k4 ?a5 ?l5 ?c5 ?k5 ?a6 ?l6 ?c6 ?k6 ?a7 ?l7 ?c7 ?k7 ?a8 ?l8 ?c8 ?k8 ?a9 ?l9 ?c9 ?k9 ?a10 ?l10 ?c10 ?k10 ?a11 ?l11 ?c11 ?k11 ?z0 ?z1 ?z2 ?z3 ?z4 ?z5 ?z6 ?z7 ?z8 ?z9 ?y0 ?y_NoValue ?y_NoNumber ?y_NoTerm ?y_NoText ?y_NoRow ?y_Clash ?y_NoName ?y_Unending ?y_Busy ?y_TooMany ?y_WireError ?i_NoValue ?i_NoNumber ?i_NoTerm ?i_NoText ?i_NoRow ?i_Clash ?i_NoName ?i_Unending ?i_Busy ?i_TooMany ?i_WireError ?t_NoValue ?t_NoNumber ?t_NoTerm ?t_NoText ?t_NoRow ?t_Clash ?t_NoName ?t_Unending ?t_Busy ?t_TooMany ?t_WireError ?b_NoValue ?b_NoNumber ?b_WireError ?s_NoValue_NoValue ?s_NoValue_NoNumber ?s_NoValue_NoTerm ?s_NoValue_NoText ?s_NoValue_NoRow ?s_NoValue_Clash ?s_NoValue_NoName ?s_NoValue_Unending ?s_NoValue_Busy ?s_NoValue_TooMany ?s_NoValue_WireError ?v_NoValue ?x_NoValue ?k_NoValue ?e1_NoValue ?e2_NoValue ?e3_NoValue ?e4_NoValue ?e7_NoValue ?s_NoNumber_NoValue ?s_NoNumber_NoNumber ?s_NoNumber_NoTerm ?s_NoNumber_NoText ?s_NoNumber_NoRow ?s_NoNumber_Clash ?s_NoNumber_NoName ?s_NoNumber_Unending ?s_NoNumber_Busy ?s_NoNumber_TooMany ?s_NoNumber_WireError ?v_NoNumber ?x_NoNumber ?k_NoNumber ?e1_NoNumber ?e2_NoNumber ?e3_NoNumber ?e4_NoNumber ?e7_NoNumber ?e5 ?e6
    (case a0 => k_is)
    (case l0 => k_is)
    (case c0 => k_is)
    (case k0 => k_is)
    (case a1 => k_is)
    (case l1 => k_is)
    (case c1 => k_is)
    (case k1 => k_is)
    (case a2 => k_is)
    (case l2 => k_is)
    (case c2 => k_is)
    (case k2 => k_is)
    (case d2_0 => k_is)
    (case a3 => k_is)
    (case l3 => k_is)
    (case c3 => k_is)
    (case k3 => k_is)
    (case a4 => k_is)
    (case l4 => k_is)
    (case c4 => k_is)
    (case k4 => k_is)
    (case a5 => k_is)
    (case l5 => k_is)
    (case c5 => k_is)
    (case k5 => k_is)
    (case a6 => k_is)
    (case l6 => k_is)
    (case c6 => k_is)
    (case k6 => k_is)
    (case a7 => k_is)
    (case l7 => k_is)
    (case c7 => k_is)
    (case k7 => k_is)
    (case a8 => k_is)
    (case l8 => k_is)
    (case c8 => k_is)
    (case k8 => k_is)
    (case a9 => k_is)
    (case l9 => k_is)
    (case c9 => k_is)
    (case k9 => k_is)
    (case a10 => k_is)
    (case l10 => k_is)
    (case c10 => k_is)
    (case k10 => k_is)
    (case a11 => k_is)
    (case l11 => k_is)
    (case c11 => k_is)
    (case k11 => k_is)
    (case z0 => k_is)
    (case z1 => k_is)
    (case z2 => k_is)
    (case z3 => k_is)
    (case z4 => k_is)
    (case z5 => k_is)
    (case z6 => k_is)
    (case z7 => k_is)
    (case z8 => k_is)
    (case z9 => k_is)
    (case y0 => k_is)
    (case y_NoValue => k_is)
    (case y_NoNumber => k_is)
    (case y_NoTerm => k_is)
    (case y_NoText => k_is)
    (case y_NoRow => k_is)
    (case y_Clash => k_is)
    (case y_NoName => k_is)
    (case y_Unending => k_is)
    (case y_Busy => k_is)
    (case y_TooMany => k_is)
    (case y_WireError => k_is)
    (case i_NoValue => k_is)
    (case i_NoNumber => k_is)
    (case i_NoTerm => k_is)
    (case i_NoText => k_is)
    (case i_NoRow => k_is)
    (case i_Clash => k_is)
    (case i_NoName => k_is)
    (case i_Unending => k_is)
    (case i_Busy => k_is)
    (case i_TooMany => k_is)
    (case i_WireError => k_is)
    (case t_NoValue => k_is)
    (case t_NoNumber => k_is)
    (case t_NoTerm => k_is)
    (case t_NoText => k_is)
    (case t_NoRow => k_is)
    (case t_Clash => k_is)
    (case t_NoName => k_is)
    (case t_Unending => k_is)
    (case t_Busy => k_is)
    (case t_TooMany => k_is)
    (case t_WireError => k_is)
    (case b_NoValue => k_is)
    (case b_NoNumber => k_is)
    (case b_WireError => k_is)
    (case s_NoValue_NoValue => first | rfl | k_is)
    (case s_NoValue_NoNumber => k_is)
    (case s_NoValue_NoTerm => k_is)
    (case s_NoValue_NoText => k_is)
    (case s_NoValue_NoRow => k_is)
    (case s_NoValue_Clash => k_is)
    (case s_NoValue_NoName => k_is)
    (case s_NoValue_Unending => k_is)
    (case s_NoValue_Busy => k_is)
    (case s_NoValue_TooMany => k_is)
    (case s_NoValue_WireError => k_is)
    (case v_NoValue => k_is)
    (case x_NoValue => k_exc)
    (case k_NoValue => k_is)
    (case e1_NoValue => k_is)
    (case e2_NoValue => k_is)
    (case e3_NoValue => k_is)
    (case e4_NoValue => k_is)
    (case e7_NoValue => k_is)
    (case s_NoNumber_NoValue => k_is)
    (case s_NoNumber_NoNumber => first | rfl | k_is)
    (case s_NoNumber_NoTerm => k_is)
    (case s_NoNumber_NoText => k_is)
    (case s_NoNumber_NoRow => k_is)
    (case s_NoNumber_Clash => k_is)
    (case s_NoNumber_NoName => k_is)
    (case s_NoNumber_Unending => k_is)
    (case s_NoNumber_Busy => k_is)
    (case s_NoNumber_TooMany => k_is)
    (case s_NoNumber_WireError => k_is)
    (case v_NoNumber => k_is)
    (case x_NoNumber => k_exc)
    (case k_NoNumber => k_is)
    (case e1_NoNumber => k_is)
    (case e2_NoNumber => k_is)
    (case e3_NoNumber => k_is)
    (case e4_NoNumber => k_is)
    (case e7_NoNumber => k_is)
    (case e5 => k_is)
    (case e6 => k_is)
