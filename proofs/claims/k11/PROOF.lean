import PyProof.Rows.All
import Wide.All
import OpenK.AllK
import Wide.FinOn
import HandS.Base
import HandS.Call
import HandS.List
import HandS.Comp
import HandS.Ends
import HandS.Dict
import HandS.Iter
import HandS.Text
import HandS.Words
import HandS.WordsList
import HandS.WordsDict
import HandS.Evl
import HandS.Walk
import HandS.Steps
import HandS.IsInst
import HandS.Defaults
import PySem.Challenge.RW_deltawires_k11_values_judged
set_option Elab.async false
set_option linter.all false
set_option maxRecDepth 100000
namespace Dw
open PySem L2 Evl
/-! ### general words -/
def GlV (mg : Str → Option Value) (x : Str) (v : V) : Prop := ∃ u, mg x = some u ∧ RelV v u
theorem pgl {X : Cx} {x : Str} {v : V} {pos : Pos} (hg : Gl X x) (h : GlV X.mg x v) (hd : (x == ("__debug__" : Str)) = false := by decide) : PE X (.Name x pos) (tC v) :=
  let ⟨_, a, b⟩ := h
  pe_glob hg a b hd
/-- a def as callers know it -/
structure Df (P : Program) (w : World) (K : PySem.W.Frag) (mg : Str → Option Value) (base : Heap) (CX : CXT) (x : Str) (k : Nat) (f : Addr) (fd : FuncData) (ps : List Str) (sp : Sp) : Prop where
  ok : FnOk P w K mg base CX k f fd ps sp
  g : mg x = some (.ref f)
  kp : PySem.W.keepIn K (.ref f) = true
  b : Binds K fd ps []
/-- all but what stands at p is as it was -/
def ExB (p : Addr) (H H' : Hp) : Prop := ∀ b o, b ≠ p → H b = some o → H' b = some o
theorem ExB.refl (p : Addr) (H : Hp) : ExB p H H := fun _ _ _ h => h
theorem ExB.trans {p : Addr} {H H1 H2 : Hp} (a : ExB p H H1) (b : ExB p H1 H2) : ExB p H H2 := fun c o n h => b c o n (a c o n h)
theorem ExB.of {p : Addr} {H H' : Hp} (e : Ex H H') : ExB p H H' := fun b o _ h => e b o h
theorem ExB.upd {p : Addr} {H H' : Hp} {o : HO} (e : ExB p H H') : ExB p H (upd H' p o) := fun b u n h => by
  rw [upd_ne n]
  exact e b u n h
theorem ExB.back {p : Addr} {H0 H H' : Hp} (e0 : Ex H0 H) (hp : H0 p = none) (e : ExB p H H') : Ex H0 H' := fun b o h => e b o (ne_of_none h hp) (e0 b o h)
theorem ExB.rd {p a : Addr} {H H' : Hp} {u : HO} (e : ExB p H H') (n : a ≠ p) (h : Rd H a u) : Rd H' a u := by
  rcases h with h | ⟨o, h⟩
  · exact Or.inl (e a _ n h)
  · exact Or.inr ⟨o, e a _ n h⟩
theorem ExB.sq {K : PySem.W.Frag} {p a : Addr} {xs : List V} {H H' : Hp} (e : ExB p H H') (n : a ≠ p) (h : SqL K H a xs) : SqL K H' a xs := by
  rcases h with h | h
  · exact Or.inl (e.rd n h)
  · exact Or.inr h
/-- the pot: two numbers, of which take draws -/
def PotAt (H : Hp) (p : Addr) : Prop := ∃ x y : Int, H p = some (.lst [.int x, .int y]) ∧ 0 ≤ x ∧ 0 ≤ y ∧ y < 2147483647
theorem PotAt.ex {H H' : Hp} {p : Addr} (h : PotAt H p) (e : Ex H H') : PotAt H' p := by
  obtain ⟨x, y, h1, h2⟩ := h
  exact ⟨x, y, e _ _ h1, h2⟩
def spAt (K : PySem.W.Frag) : Sp := fun vs H Q _ => ∃ (a : Addr) (ns : List Int) (k : Int), vs = [.ref a, .int k] ∧ SqL K H a (ns.map V.int) ∧ 0 ≤ k ∧ ∀ c : Int, Q (.int c) H
def spPot (K : PySem.W.Frag) : Sp := fun vs H Q _ => ∃ (a : Addr) (ns : List Int) (k : Int), vs = [.ref a, .int k] ∧ SqL K H a (ns.map V.int) ∧ 0 ≤ k ∧ k ≤ 1000 ∧ ∀ (p : Addr) (H' : Hp), H p = none → Ex H H' → PotAt H' p → Q (.ref p) H'
def spTake : Sp := fun vs H Q _ => ∃ (p : Addr) (m : Int), vs = [.ref p, .int m] ∧ PotAt H p ∧ 0 < m ∧ m < 1073741824 ∧ ∀ (H' : Hp) (d : Int), ExB p H H' → PotAt H' p → 0 ≤ d → d < m → Q (.int d) H'
theorem at_map {ns : List Int} {k : Int} (h0 : 0 ≤ k) (h1 : k < ((ns.map V.int).length : Int)) : ∃ c : Int, atI (ns.map V.int) k = some (.int c) := by
  obtain ⟨j, rfl⟩ := Int.eq_ofNat_of_zero_le h0
  have h2 : j < ns.length := by
    rw [List.length_map] at h1
    omega
  refine ⟨ns[j], atI_nat ?_⟩
  rw [List.getElem?_map, List.getElem?_eq_getElem h2]
  rfl
/-! ### the text by places -/
def top (i : Nat) : Stmt := PySem.Challenge.pw_deltawires_k11_values_judged.main.body.getD i (.Pass ⟨0, 0, 0, 0⟩)
abbrev s_is_value : Stmt := top 3
abbrev N_is_value : List Str := ["thing", "width", "sign"]
theorem sc_is_value : FnScope N_is_value ["thing", "width"] (defScope s_is_value) := ⟨rfl, rfl, rfl, by decide +kernel, rfl, by decide +kernel, by decide +kernel⟩
abbrev s__law_at : Stmt := top 5
abbrev N__law_at : List Str := ["_law_script", "_law_k"]
theorem sc__law_at : FnScope N__law_at ["_law_script", "_law_k"] (defScope s__law_at) := ⟨rfl, rfl, rfl, by decide +kernel, rfl, by decide +kernel, by decide +kernel⟩
abbrev s__law_pot : Stmt := top 6
abbrev N__law_pot : List Str := ["_law_script", "_law_k", "_law_cell"]
theorem sc__law_pot : FnScope N__law_pot ["_law_script", "_law_k"] (defScope s__law_pot) := ⟨rfl, rfl, rfl, by decide +kernel, rfl, by decide +kernel, by decide +kernel⟩
abbrev s__law_take : Stmt := top 7
abbrev N__law_take : List Str := ["_law_pot_here", "_law_many", "_law_digit"]
theorem sc__law_take : FnScope N__law_take ["_law_pot_here", "_law_many"] (defScope s__law_take) := ⟨rfl, rfl, rfl, by decide +kernel, rfl, by decide +kernel, by decide +kernel⟩
abbrev s__law_thing : Stmt := top 8
abbrev N__law_thing : List Str := ["_law_pot_here", "_law_signs", "_law_odd", "_law_k"]
theorem sc__law_thing : FnScope N__law_thing ["_law_pot_here"] (defScope s__law_thing) := ⟨rfl, rfl, rfl, by decide +kernel, rfl, by decide +kernel, by decide +kernel⟩
abbrev s__law_is : Stmt := top 9
abbrev N__law_is : List Str := ["_law_found", "_law_due"]
theorem sc__law_is : FnScope N__law_is ["_law_found", "_law_due"] (defScope s__law_is) := ⟨rfl, rfl, rfl, by decide +kernel, rfl, by decide +kernel, by decide +kernel⟩
abbrev s__law_right : Stmt := top 10
abbrev N__law_right : List Str := ["_law_thing_here", "_law_wide", "_law_due", "_law_sign"]
theorem sc__law_right : FnScope N__law_right ["_law_thing_here", "_law_wide"] (defScope s__law_right) := ⟨rfl, rfl, rfl, by decide +kernel, rfl, by decide +kernel, by decide +kernel⟩
abbrev s_law : Stmt := top 11
abbrev N_law : List Str := ["_law_script", "_law_k", "_law_pot_here", "_law_thing_here", "_law_wide"]
theorem sc_law : FnScope N_law ["_law_script"] (defScope s_law) := ⟨rfl, rfl, rfl, by decide +kernel, rfl, by decide +kernel, by decide +kernel⟩
structure Bi (mg : Str → Option Value) : Prop where
  all : mg "all" = none
  bool : mg "bool" = none
  divmod : mg "divmod" = none
  isinstance : mg "isinstance" = none
  len : mg "len" = none
  max : mg "max" = none
  min : mg "min" = none
  range : mg "range" = none
  str : mg "str" = none
  c_SIGNS : GlV mg "SIGNS" (.str "01xz")
  c_WIDEST : GlV mg "WIDEST" (.int 8)
section
variable {P : Program} {w : World} {K : PySem.W.Frag} {mg : Str → Option Value} {base : Heap}
theorem ok__law_at {f : Addr} {fd : FuncData} {k : Nat} (F : Fun K "_law_at" "_law_at" s__law_at f fd) (B : Bi mg) : FnOk P w K mg base CX0 (k + 1) f fd ["_law_script", "_law_k"] (spAt K) := by
  refine F.ok sc__law_at (fun vs H Q E h => ?_) (fun cdv A outer s H vs Q E hr h => ?_)
  · obtain ⟨a, ns, k, rfl, _⟩ := h
    rfl
  · obtain ⟨a, ns, k, rfl, hS, h0, q⟩ := h
    refine ⟨_, (pss_one (ps_ret (pe_ifExp (pt_cmpR op_lt (pv 1) (pe_callB call_len_seq (by rfl) B.len PySem.boot_len (pa_cons (pv 0) pa_nil)) (nomark _)) (pe_ix ix_list (pv 0) (pv 1) (fun _ _ => rfl)) pe_int))), ?_⟩
    refine ⟨_, rfl, _, rfl, a, _, rfl, .inl hS, _, _, rfl, rfl, _, rfl, ?_⟩
    refine ite2 (fun e => ?_) (fun e => ?_)
    · obtain ⟨c, hc⟩ := at_map h0 (of_decide_eq_true e)
      exact ⟨_, rfl, _, rfl, a, _, _, _, rfl, rfl, hS, hc, q c⟩
    · exact q 0
theorem ok__law_pot {f f1 : Addr} {fd fd1 : FuncData} (F : Fun K "_law_pot" "_law_pot" s__law_pot f fd) (B : Bi mg) (D__law_at : Df P w K mg base CX0 "_law_at" 1 f1 fd1 ["_law_script", "_law_k"] (spAt K)) : FnOk P w K mg base CX0 2 f fd ["_law_script", "_law_k"] (spPot K) := by
  refine F.ok sc__law_pot (fun vs H Q E h => ?_) (fun cdv A outer s H vs Q E hr h => ?_)
  · obtain ⟨a, ns, k, rfl, _⟩ := h
    rfl
  · obtain ⟨a, ns, k, rfl, hS, h0, h1, q⟩ := h
    refine ⟨_, (pss_cons (ps_set (i := 2) sc__law_pot.nd rfl (Or.inl rfl) (pe_call D__law_at.ok (hr.mono (by decide)) (by rfl) D__law_at.g D__law_at.kp D__law_at.b .nil pass0 (pa_cons (pv 0) (pa_cons (pv 1) pa_nil))))
      (pss_one (ps_ret (pe_lst (pa_cons (pe_callB (call_max2 rfl) (by rfl) B.max (by decide +kernel) (pa_cons pe_int (pa_cons (pe_op op_sub (pv 2) (pe_op op_pow pe_int pe_int)) pa_nil))) (pa_cons (pe_op op_mod (pe_op op_add (pe_op op_add (pe_op op_mul (pe_op op_mod (pv 2) pe_int) pe_int) (pe_op op_mul pe_int (pv 1))) pe_int) pe_int) pa_nil)))))), ?_⟩
    refine ⟨_, rfl, _, rfl, a, ns, k, rfl, hS, h0, fun c => ?_⟩
    refine ⟨_, rfl, _, _, rfl, rfl, ⟨by decide, by decide, by decide⟩, _, _, rfl, rfl, _, _, rfl, ?_⟩
    refine ⟨_, rfl, _, _, rfl, rfl, (by show (0 : Int) < 2147483629; decide), _, _, rfl, rfl, .inr ⟨by decide, by decide⟩, _, rfl, _, _, rfl, rfl, .inl ⟨by decide, by decide⟩, _, _, rfl, rfl, _, _, rfl, rfl, _, _, rfl, rfl, (by show (0 : Int) < 2147483647; decide), ?_⟩
    refine ⟨by show 2 ≤ sizeLine; decide, fun p hp => ?_⟩
    refine q p _ hp (Ex.new hp) ⟨_, _, upd_same, ?_, ?_, ?_⟩
    · split <;> omega
    · omega
    · omega
theorem ok__law_take {f : Addr} {fd : FuncData} {k : Nat} (F : Fun K "_law_take" "_law_take" s__law_take f fd) (B : Bi mg) : FnOk P w K mg base CX0 (k + 1) f fd ["_law_pot_here", "_law_many"] spTake := by
  refine F.ok sc__law_take (fun vs H Q E h => ?_) (fun cdv A outer s H vs Q E hr h => ?_)
  · obtain ⟨a, m, rfl, _⟩ := h
    rfl
  · obtain ⟨p, m, rfl, ⟨x, y, hp, hx, hy, hy2⟩, h0, h1, q⟩ := h
    refine ⟨_, (pss_cons (ps_if (pt_cmpR op_gt (pe_ix ix_list (pv 0) pe_int (fun _ _ => rfl)) pe_int (nomark _)) (pss_cons (ps_asg (pe_callB call_divmod (by rfl) B.divmod (by decide +kernel) (pa_cons (pe_ix ix_list (pv 0) pe_int (fun _ _ => rfl)) (pa_cons (pv 1) pa_nil))) (pg_tup rfl (pgs_cons (pg_sub (pv 0) pe_int set_list) (pgs_cons (pg_name (i := 2) sc__law_take.nd rfl (Or.inl rfl)) pgs_nil))))
      (pss_one (ps_ret (pv 2)))) pss_nil)
      (pss_cons (ps_asg (pe_op op_mod (pe_op op_add (pe_op op_mul (pe_ix ix_list (pv 0) pe_int (fun _ _ => rfl)) pe_int) pe_int) pe_int) (pg_sub (pv 0) pe_int set_list))
      (pss_one (ps_ret (pe_op op_mod (pe_op op_fdiv (pe_op op_mod (pe_op op_mul (pe_ix ix_list (pv 0) pe_int (fun _ _ => rfl)) (pe_ix ix_list (pv 0) pe_int (fun _ _ => rfl))) pe_int) pe_int) (pv 1)))))), ?_⟩
    refine ⟨_, rfl, p, _, _, _, rfl, rfl, SqL.of hp, rfl, _, _, rfl, rfl, _, rfl, ?_⟩
    refine ite2 (fun e => ?_) (fun e => ?_)
    · refine ⟨_, rfl, p, _, _, _, rfl, rfl, SqL.of hp, rfl, _, rfl, _, _, rfl, ⟨h0, h1⟩, fun t ht => ?_⟩
      have npt : p ≠ t := ne_of_none hp ht
      refine ⟨t, _, rfl, SqT.of upd_same, rfl, _, _, rfl, _, rfl, p, _, _, 0, rfl, rfl, (upd_ne npt).trans hp, rfl, _, _, rfl, rfl, _, rfl, ?_⟩
      refine q _ _ (fun b o n hb => ?_) ⟨_, _, upd_same, Int.ediv_nonneg hx (by omega), hy, hy2⟩ (Int.emod_nonneg _ (by omega)) (Int.emod_lt_of_pos _ h0)
      rw [upd_ne n, upd_ne (ne_of_none hb ht)]
      exact hb
    · refine ⟨_, rfl, p, _, _, _, rfl, rfl, SqL.of hp, rfl, _, _, rfl, rfl, .inr ⟨by decide, by decide⟩, _, _, rfl, rfl, _, _, rfl, rfl, (by show (0 : Int) < 2147483629; decide), _, rfl, p, _, _, 1, rfl, rfl, hp, rfl, ?_⟩
      have hz0 : 0 ≤ (y * 39373 + 20011) % 2147483629 := by omega
      have hz1 : (y * 39373 + 20011) % 2147483629 < 2147483629 := by omega
      refine ⟨_, rfl, p, _, _, _, rfl, rfl, SqL.of upd_same, rfl, _, rfl, p, _, _, _, rfl, rfl, SqL.of upd_same, rfl, _, _, rfl, rfl, .inl ⟨?_, ?_⟩, _, _, rfl, rfl, (by show (0 : Int) < 2147483563; decide), _, _, rfl, rfl, ⟨by decide, by decide⟩, _, rfl, _, _, rfl, rfl, h0, ?_⟩
      · omega
      · omega
      · exact q _ _ (ExB.refl _ _).upd ⟨_, _, upd_same, hx, hz0, by omega⟩ (Int.emod_nonneg _ (by omega)) (Int.emod_lt_of_pos _ h0)
end
end Dw

set_option Elab.async false
set_option linter.all false
set_option maxRecDepth 100000
namespace Dw
open PySem L2 Evl
/-! ### texts by their codes -/
abbrev Tx (l : List Nat) : Str := ⟨l.toArray⟩
theorem Tx_len (l : List Nat) : (Tx l).length = l.length := by simp [Tx, Str.length]
theorem Tx_tl (x : Str) : Tx x.cps.toList = x := TL.mk_tl x
theorem Tx_inj {a b : List Nat} (h : Tx a = Tx b) : a = b := congrArg (fun x : Str => x.cps.toList) h
theorem Tx_cat (a b : List Nat) : Tx a ++ Tx b = Tx (a ++ b) := TL.ext_tl (TL.tl_append (Tx a) (Tx b))
theorem joinL_ones : ∀ l : List Nat, TL.joinL [] (l.map fun c => [c]) = l
  | [] => rfl
  | [_] => rfl
  | c :: d :: r => by
    show [c] ++ ([] ++ TL.joinL [] ((d :: r).map fun c => [c])) = c :: d :: r
    rw [joinL_ones (d :: r)]
    rfl
theorem tl_empty : TL.tl (Str.ofString "") = [] := by decide +kernel
theorem join_ones (l : List Nat) : Txt.join (Str.ofString "") (l.map fun c => Tx [c]) = Tx l := by
  refine TL.ext_tl ?_
  rw [TL.join_eq, TL.tl_join, tl_empty, List.map_map]
  show TL.joinL [] (l.map fun c => [c]) = l
  exact joinL_ones l
theorem ones_len (l : List Nat) : ((l.map fun c => Tx [c]).map (·.length)).sum + (l.map fun c => Tx [c]).length * (Str.ofString "").length = l.length := by
  have e : (Str.ofString "").length = 0 := by decide +kernel
  rw [e, Nat.mul_zero, Nat.add_zero]
  induction l with
  | nil => rfl
  | cons c l ih =>
    rw [List.map_cons, List.map_cons, List.sum_cons, ih, Tx_len]
    simp
    omega
theorem map_strs (l : List Nat) : (l.map fun c => Tx [c]).map V.str = l.map fun c => V.str (Tx [c]) := by
  rw [List.map_map]
  rfl
/-! ### comprehensions by lists -/
theorem range_getD {α : Type} (l : List α) (d : α) : (List.range l.length).map (fun i => l.getD i d) = l := by
  apply List.ext_getElem
  · simp
  · intro i h1 h2
    simp at h1
    simp [h1]
theorem given_list {α : Type} (l : List α) (d : α) (p : α → Bool) (g : α → V) : given l.length (fun i => p (l.getD i d)) (fun i => g (l.getD i d)) = (l.filter p).map g := by
  unfold given
  have e : l.filter p = ((List.range l.length).map (fun i => l.getD i d)).filter p := by rw [range_getD]
  rw [e, List.filter_map, List.map_map]
  rfl
theorem given_all {α : Type} (l : List α) (d : α) (g : α → V) : given l.length (fun _ => true) (fun i => g (l.getD i d)) = l.map g := by
  have e := given_list l d (fun _ => true) g
  rw [List.filter_eq_self.mpr (fun _ _ => rfl)] at e
  exact e
section
variable {K : PySem.W.Frag} {σ : L2.St} {H H' : Hp} {ta tb te tx tl : TE} {t u : TT} {x y z v : V}
theorem el_lcS {z : Str} {j : Nat} {vs : List Nat} (f : Nat → Bool) (v : Nat → V) (h : Ev tl σ H (.str z)) (hz : z.cps.size ≤ 40000) (hw : ∀ x, wipe ((wipe σ vs).set j (some x)) vs = wipe σ vs)
    (ht : ∀ (i : Nat) (c : Nat) H1, Ex H H1 → z.cps[i]? = some c → EvT t ((wipe σ vs).set j (some (.str ⟨#[c]⟩))) H1 (f i)) (he : ∀ (i : Nat) (c : Nat) H1, Ex H H1 → z.cps[i]? = some c → f i = true → Ev te ((wipe σ vs).set j (some (.str ⟨#[c]⟩))) H1 (v i)) :
    EvL (tLc (iStr tl) (gName j) t te vs) σ H (given z.cps.size f v) := fun H0 e Q q => h H0 e _ fun H1 e1 => ⟨z, rfl, fun Dl hD =>
  lc_it walk_str (Cw H1 f v Dl) ⟨hD, Ex.new hD, upd_same⟩ (fun _ _ _ _ => True.intro) (fun i x H2 H3 hi p y => by
    obtain ⟨rfl, c, hc, rfl⟩ := y
    exact ⟨hw _, cw_turn p (by omega) (ht i c H1 (e.trans e1) hc) (fun hf => he i c H1 (e.trans e1) hc hf)⟩)
    (fun H' p => q Dl H' (fresh_back e1 p.1) (e1.trans p.2.1) p.2.2)⟩
/-- over a text: p tells which codes, g what of each -/
theorem el_lcT {l : List Nat} {j : Nat} {vs : List Nat} (p : Nat → Bool) (g : Nat → V) (h : Ev tl σ H (.str (Tx l))) (hz : l.length ≤ 40000) (hw : ∀ x, wipe ((wipe σ vs).set j (some x)) vs = wipe σ vs)
    (ht : ∀ (c : Nat) H1, Ex H H1 → c ∈ l → EvT t ((wipe σ vs).set j (some (.str (Tx [c])))) H1 (p c)) (he : ∀ (c : Nat) H1, Ex H H1 → c ∈ l → p c = true → Ev te ((wipe σ vs).set j (some (.str (Tx [c])))) H1 (g c)) :
    EvL (tLc (iStr tl) (gName j) t te vs) σ H ((l.filter p).map g) := by
  have hs : (Tx l).cps.size = l.length := Tx_len l
  have key : ∀ (i c : Nat), (Tx l).cps[i]? = some c → l.getD i 0 = c ∧ c ∈ l := fun i c hc => by
    have h1 : l[i]? = some c := by
      rw [← hc]
      simp [Tx]
    exact ⟨by rw [List.getD_eq_getElem?_getD, h1]; rfl, List.mem_of_getElem? h1⟩
  rw [← given_list l 0 p g, ← hs]
  refine el_lcS (fun i => p (l.getD i 0)) (fun i => g (l.getD i 0)) h (by omega) hw (fun i c H1 e hc => ?_) (fun i c H1 e hc hf => ?_)
  · obtain ⟨e1, e2⟩ := key i c hc
    simp only [e1]
    exact ht c H1 e e2
  · obtain ⟨e1, e2⟩ := key i c hc
    simp only [e1] at hf ⊢
    exact he c H1 e e2 hf
theorem et_yes : EvT tYes σ H true := fun H1 _ _ q => q H1 (Ex.refl H1)
theorem ev_cbL {r : List V → Hp → VK → Prop} {xs : List V} (h : EvL te σ H xs) (hr : ∀ p H1, H1 p = some (.lst xs) → Ex H H1 → RC r [.ref p] H1 z) : Ev (tCB r (tCons te tNil)) σ H z := fun H1 e Q q =>
  h H1 e _ fun p H2 _ e2 h2 => hr p H2 h2 (e.trans e2) H2 (Ex.refl _) Q fun H3 e3 => q H3 (e2.trans e3)
theorem ev_all {bs : List Bool} (h : EvL te σ H (bs.map V.bl)) : Ev (tCB (rAll K) (tCons te tNil)) σ H (.bl (bs.all id)) :=
  ev_cbL h fun p _ hp _ H2 e2 _ q => ⟨p, bs, rfl, sq_of (e2 p _ hp), q H2 (Ex.refl _)⟩
def rJoinS (K : PySem.W.Frag) : V → List V → Hp → VK → Prop := fun x xs H Q => ∃ a p, ∃ ys : List Str, x = .str a ∧ xs = [.ref p] ∧ (SqL K H p (ys.map V.str) ∨ SqT K H p (ys.map V.str)) ∧
      (ys.map (·.length)).sum + ys.length * a.length ≤ 16777216 ∧ Q (.str (Txt.join a ys)) H
/-- ''.join of a new list of signs -/
theorem ev_join1 {l : List Nat} (h : EvL te σ H (l.map fun c => V.str (Tx [c]))) (hz : l.length ≤ 40000) : Ev (tM1 (rJoinS K) (tC (.str (Str.ofString ""))) te) σ H (.str (Tx l)) := fun H1 e Q q =>
  ⟨⟨_, rfl⟩, h H1 e _ fun p H2 _ e2 h2 => ⟨Str.ofString "", p, l.map fun c => Tx [c], rfl, rfl, Or.inl (sq_of (by rw [map_strs]; exact h2)), by rw [ones_len]; omega, by rw [join_ones]; exact q H2 e2⟩⟩
theorem ev_inS {c : Nat} {w : Str} (ha : Ev ta σ H (.str (Tx [c]))) (hb : Ev tb σ H (.str w)) : Ev (tOp rInS ta tb) σ H (.bl (decide (c ∈ w.cps.toList))) :=
  ev_op ha hb fun H1 _ _ q => ⟨c, w, rfl, rfl, q H1 (Ex.refl _)⟩
theorem ev_notInS {c : Nat} {w : Str} (ha : Ev ta σ H (.str (Tx [c]))) (hb : Ev tb σ H (.str w)) : Ev (tOp rNotInS ta tb) σ H (.bl (!decide (c ∈ w.cps.toList))) :=
  ev_op ha hb fun H1 _ _ q => ⟨c, w, rfl, rfl, q H1 (Ex.refl _)⟩
def rLenT : List V → Hp → VK → Prop := fun xs H Q => ∃ z, xs = [.str z] ∧ z.length ≤ sizeLine ∧ Q (.int z.length) H
theorem ev_lenT {l : List Nat} (ha : Ev ta σ H (.str (Tx l))) (hz : l.length ≤ 40000) : Ev (tCB rLenT (tCons ta tNil)) σ H (.int (l.length : Int)) := fun H1 e Q q =>
  ha H1 e _ fun H2 e2 => ⟨Tx l, rfl, sz_of (by rw [Tx_len]; omega), by rw [Tx_len]; exact q H2 e2⟩
end
end Dw

set_option Elab.async false
set_option linter.all false
set_option maxRecDepth 100000
namespace Dw
open PySem L2 Evl
/-! ### lists of texts and of numbers compared -/
theorem dpAll_strs {K : PySem.W.Frag} {H : Hp} : ∀ xs : List Str, DpAll K H (xs.map V.str) (xs.map PyData.str)
  | [] => .nil
  | x :: xs => .cons (.str x) (dpAll_strs xs)
theorem dpAll_ints {K : PySem.W.Frag} {H : Hp} : ∀ xs : List Int, DpAll K H (xs.map V.int) (xs.map PyData.int)
  | [] => .nil
  | x :: xs => .cons (.int x) (dpAll_ints xs)
theorem dpAll_bls {K : PySem.W.Frag} {H : Hp} : ∀ xs : List Bool, DpAll K H (xs.map V.bl) (xs.map PyData.bool)
  | [] => .nil
  | x :: xs => .cons (.bl x) (dpAll_bls xs)
theorem eqvAll_strs : ∀ xs ys : List Str, PyData.eqvAll (xs.map PyData.str) (ys.map PyData.str) = decide (xs = ys)
  | [], [] => by simp [PyData.eqvAll]
  | [], y :: ys => by simp [PyData.eqvAll]
  | x :: xs, [] => by simp [PyData.eqvAll]
  | x :: xs, y :: ys => by
    have ih := eqvAll_strs xs ys
    simp only [List.map_cons, PyData.eqvAll, PyData.eqv, ih]
    rw [Bool.eq_iff_iff]
    simp
theorem eqvAll_ints : ∀ xs ys : List Int, PyData.eqvAll (xs.map PyData.int) (ys.map PyData.int) = decide (xs = ys)
  | [], [] => by simp [PyData.eqvAll]
  | [], y :: ys => by simp [PyData.eqvAll]
  | x :: xs, [] => by simp [PyData.eqvAll]
  | x :: xs, y :: ys => by
    have ih := eqvAll_ints xs ys
    simp only [List.map_cons, PyData.eqvAll, PyData.eqv, ih]
    rw [Bool.eq_iff_iff]
    simp
theorem eqvAll_bls : ∀ xs ys : List Bool, PyData.eqvAll (xs.map PyData.bool) (ys.map PyData.bool) = decide (xs = ys)
  | [], [] => by simp [PyData.eqvAll]
  | [], y :: ys => by simp [PyData.eqvAll]
  | x :: xs, [] => by simp [PyData.eqvAll]
  | x :: xs, y :: ys => by
    have ih := eqvAll_bls xs ys
    simp only [List.map_cons, PyData.eqvAll, PyData.eqv, ih]
    rw [Bool.eq_iff_iff]
    simp
def LowS (x : Str) : Prop := PyData.canLay0 (.str x) = true
theorem lay_strs : ∀ {xs : List Str}, (∀ x ∈ xs, LowS x) → PyData.canLayAll0 (xs.map PyData.str) = true
  | [], _ => by simp [PyData.canLayAll0]
  | x :: xs, h => by
    rw [List.map_cons, PyData.canLayAll0, h x (List.mem_cons_self ..), lay_strs fun y hy => h y (List.mem_cons_of_mem _ hy)]
    rfl
theorem lay_ints : ∀ xs : List Int, PyData.canLayAll0 (xs.map PyData.int) = true
  | [] => by simp [PyData.canLayAll0]
  | x :: xs => by
    rw [List.map_cons, PyData.canLayAll0, lay_ints xs]
    simp [PyData.canLay0]
theorem lay_bls : ∀ xs : List Bool, PyData.canLayAll0 (xs.map PyData.bool) = true
  | [] => by simp [PyData.canLayAll0]
  | x :: xs => by
    rw [List.map_cons, PyData.canLayAll0, lay_bls xs]
    simp [PyData.canLay0]
theorem deep_strs : ∀ xs : List Str, PyData.depthAll (xs.map PyData.str) = 0
  | [] => by simp [PyData.depthAll]
  | x :: xs => by
    rw [List.map_cons, PyData.depthAll, deep_strs xs]
    simp [PyData.depth]
theorem deep_ints : ∀ xs : List Int, PyData.depthAll (xs.map PyData.int) = 0
  | [] => by simp [PyData.depthAll]
  | x :: xs => by
    rw [List.map_cons, PyData.depthAll, deep_ints xs]
    simp [PyData.depth]
theorem deep_bls : ∀ xs : List Bool, PyData.depthAll (xs.map PyData.bool) = 0
  | [] => by simp [PyData.depthAll]
  | x :: xs => by
    rw [List.map_cons, PyData.depthAll, deep_bls xs]
    simp [PyData.depth]
theorem shaped_strs {xs : List Str} (h : ∀ x ∈ xs, LowS x) : SeqAt.shaped (.list (xs.map PyData.str)) = true := by
  unfold SeqAt.shaped
  rw [PyData.canLay0, lay_strs h, PyData.depth, deep_strs]
  rfl
theorem shaped_ints (xs : List Int) : SeqAt.shaped (.list (xs.map PyData.int)) = true := by
  unfold SeqAt.shaped
  rw [PyData.canLay0, lay_ints, PyData.depth, deep_ints]
  rfl
theorem shaped_bls (xs : List Bool) : SeqAt.shaped (.list (xs.map PyData.bool)) = true := by
  unfold SeqAt.shaped
  rw [PyData.canLay0, lay_bls, PyData.depth, deep_bls]
  rfl
theorem low_Tx {l : List Nat} (h : ∀ c ∈ l, c < 128) : LowS (Tx l) := by
  unfold LowS
  rw [PyData.canLay0]
  unfold PyData.strOk
  first
    | (simp only [Tx, List.all_toArray, List.all_eq_true]; intro c hc; have := h c hc; simp; omega)
    | (simp [Tx]; intro c hc; have := h c hc; omega)
section
variable {K : PySem.W.Frag} {H : Hp}
theorem rv_eqStrs {p q : Addr} {xs ys : List Str} (h1 : SqL K H p (xs.map V.str)) (h2 : SqL K H q (ys.map V.str)) (l1 : ∀ x ∈ xs, LowS x) (l2 : ∀ x ∈ ys, LowS x) : RV (rEqD K) (.ref p) (.ref q) H (.bl (decide (xs = ys))) := fun H1 e Q k =>
  ⟨_, _, .lst (ex_l e h1) (dpAll_strs xs), .lst (ex_l e h2) (dpAll_strs ys), shaped_strs l1, shaped_strs l2, by rw [PyData.eqv, eqvAll_strs]; exact k H1 (Ex.refl _)⟩
theorem rv_neStrs {p q : Addr} {xs ys : List Str} (h1 : SqL K H p (xs.map V.str)) (h2 : SqL K H q (ys.map V.str)) (l1 : ∀ x ∈ xs, LowS x) (l2 : ∀ x ∈ ys, LowS x) : RV (rNeD K) (.ref p) (.ref q) H (.bl (!decide (xs = ys))) := fun H1 e Q k =>
  ⟨_, _, .lst (ex_l e h1) (dpAll_strs xs), .lst (ex_l e h2) (dpAll_strs ys), shaped_strs l1, shaped_strs l2, by rw [PyData.eqv, eqvAll_strs]; exact k H1 (Ex.refl _)⟩
theorem rv_eqInts {p q : Addr} {xs ys : List Int} (h1 : SqL K H p (xs.map V.int)) (h2 : SqL K H q (ys.map V.int)) : RV (rEqD K) (.ref p) (.ref q) H (.bl (decide (xs = ys))) := fun H1 e Q k =>
  ⟨_, _, .lst (ex_l e h1) (dpAll_ints xs), .lst (ex_l e h2) (dpAll_ints ys), shaped_ints xs, shaped_ints ys, by rw [PyData.eqv, eqvAll_ints]; exact k H1 (Ex.refl _)⟩
theorem rv_neBls {p q : Addr} {xs ys : List Bool} (h1 : SqL K H p (xs.map V.bl)) (h2 : SqL K H q (ys.map V.bl)) : RV (rNeD K) (.ref p) (.ref q) H (.bl (!decide (xs = ys))) := fun H1 e Q k =>
  ⟨_, _, .lst (ex_l e h1) (dpAll_bls xs), .lst (ex_l e h2) (dpAll_bls ys), shaped_bls xs, shaped_bls ys, by rw [PyData.eqv, eqvAll_bls]; exact k H1 (Ex.refl _)⟩
theorem rv_eqBls {p q : Addr} {xs ys : List Bool} (h1 : SqL K H p (xs.map V.bl)) (h2 : SqL K H q (ys.map V.bl)) : RV (rEqD K) (.ref p) (.ref q) H (.bl (decide (xs = ys))) := fun H1 e Q k =>
  ⟨_, _, .lst (ex_l e h1) (dpAll_bls xs), .lst (ex_l e h2) (dpAll_bls ys), shaped_bls xs, shaped_bls ys, by rw [PyData.eqv, eqvAll_bls]; exact k H1 (Ex.refl _)⟩
end
section
variable {K : PySem.W.Frag} {σ : L2.St} {H H' : Hp} {ta tb tc te tx tl : TE} {t u : TT} {x y z v : V}
theorem ev_chain {r r' : R2} {w' : V} {k k2 : Bool} (ha : Ev ta σ H x) (hb : Ev tb σ H y) (h1 : RV r x y H (.bl k)) (h2 : k = true → Ev tc σ H w' ∧ RV r' y w' H (.bl k2)) : Ev (tChain r r' ta tb tc) σ H (.bl (k && k2)) := fun H1 e Q q =>
  ha H1 e _ fun H2 e2 => hb H2 (e.trans e2) _ fun H3 e3 => h1 H3 ((e.trans e2).trans e3) _ fun H4 e4 => ⟨k, rfl, by
    cases k with
    | true =>
      obtain ⟨hc, h3⟩ := h2 rfl
      show tc σ H4 fun w' H4 => r' y w' H4 Q
      exact hc H4 (((e.trans e2).trans e3).trans e4) _ fun H5 e5 => h3 H5 ((((e.trans e2).trans e3).trans e4).trans e5) Q fun H6 e6 => q H6 ((((e2.trans e3).trans e4).trans e5).trans e6)
    | false =>
      show Q (.bl false) H4
      exact q H4 ((e2.trans e3).trans e4)⟩
theorem ev_isi {T : String} {b : Bool} (ha : Ev ta σ H v) (hb : Ev tb σ H (.ty T)) (ty : ∀ H1, Ex H H1 → ∃ t, TyX K H1 v (.type t) ∧ kitB t T = some b) : Ev (tCB (rIsi K) (tCons ta (tCons tb tNil))) σ H (.bl b) := fun H1 e Q q =>
  ha H1 e _ fun H2 e2 => hb H2 (e.trans e2) _ fun H3 e3 => by
    obtain ⟨t, h1, h2⟩ := ty H3 ((e.trans e2).trans e3)
    exact ⟨v, .ty T, .type t, .type T, b, rfl, .ty T, h1, kit_ty h2, q H3 (e2.trans e3)⟩
theorem ev_eqS {r : R2} (ha : Ev ta σ H x) (hb : Ev tb σ H y) (h : RV r x y H z) : Ev (tOp r ta tb) σ H z := ev_op ha hb h
end
theorem op_mulS {X : Cx} : OpR X (binaryOp .Mult) (fun x y H Q => ∃ a i, x = .str a ∧ y = .int i ∧ MulOk a i ∧ Q (.str (Txt.mul a i)) H) := by
  intro pins s σ H x y v u Q I rx ry h
  obtain ⟨a, i, rfl, rfl, hm, q⟩ := h
  obtain ⟨t, rfl⟩ := rx
  obtain ⟨t', rfl⟩ := ry
  exact SB.mul hm fun t' k => ⟨.str (Txt.mul a i), H, I.tok _, ⟨_, rfl⟩, q⟩
end Dw

set_option Elab.async false
set_option linter.all false
set_option maxRecDepth 100000
namespace Dw
open PySem L2 Evl
structure DfD (P : Program) (w : World) (K : PySem.W.Frag) (mg : Str → Option Value) (base : Heap) (CX : CXT) (x : Str) (k : Nat) (f : Addr) (fd : FuncData) (ps : List Str) (sp : Sp) : Prop where
  ok : FnOk P w K mg base CX k f fd ps sp
  g : mg x = some (.ref f)
  kp : PySem.W.keepIn K (.ref f) = true
section
variable {K : PySem.W.Frag} {σ : L2.St} {H H' : Hp} {ta tb tc te tx tl : TE} {t u : TT} {x y z v : V}
theorem el_lcT1 {l : List Nat} {j : Nat} {vs : List Nat} (g : Nat → V) (h : Ev tl σ H (.str (Tx l))) (hz : l.length ≤ 40000) (hw : ∀ x, wipe ((wipe σ vs).set j (some x)) vs = wipe σ vs)
    (he : ∀ (c : Nat) H1, Ex H H1 → c ∈ l → Ev te ((wipe σ vs).set j (some (.str (Tx [c])))) H1 (g c)) :
    EvL (tLc (iStr tl) (gName j) tYes te vs) σ H (l.map g) := by
  have e := el_lcT (fun _ => true) g h hz hw (fun c H1 _ _ => et_yes) (fun c H1 e hc _ => he c H1 e hc)
  rw [List.filter_eq_self.mpr (fun _ _ => rfl)] at e
  exact e
theorem ev_callN {sp : Sp} {n m : Nat} {gV : List V → List V → List V} {E : XK} {tA tK : TA} {vs zs : List V} (h : EvA tA σ H vs) (hk : EvA tK σ H zs) (l1 : vs.length = n) (l2 : zs.length = m) (hs : SpV sp (gV vs zs) H z) : Ev (tCallN n m sp gV E tA tK) σ H z := fun H1 e Q q =>
  h H1 e _ fun H2 e2 => hk H2 (e.trans e2) _ fun H3 e3 => ⟨l1, l2, hs H3 ((e.trans e2).trans e3) Q (fun H4 e4 => q H4 ((e2.trans e3).trans e4)) E⟩
end
def sgn : List Nat := [48, 49, 120, 122]
theorem e_sgn : (Str.ofString "01xz").cps.toList = sgn := by decide +kernel
def okL (l : List Nat) : Bool := decide (1 ≤ l.length) && decide (l.length ≤ 8) && (l.all fun c => decide (c ∈ sgn))
/-- things that are no text -/
inductive Odd (H : Hp) : V → Prop where
  | non : Odd H .non
  | bl (b : Bool) : Odd H (.bl b)
  | int (i : Int) : Odd H (.int i)
  | lst {a : Addr} {xs : List V} (e : H a = some (.lst xs)) : Odd H (.ref a)
  | tup {a : Addr} {xs : List V} (e : H a = some (.tup xs)) : Odd H (.ref a)
  | dK {a : Addr} {xs : List (Key × V)} (e : H a = some (.dK xs)) : Odd H (.ref a)
theorem Odd.ex {H H' : Hp} {v : V} (h : Odd H v) (e : Ex H H') : Odd H' v := by
  cases h with
  | non => exact .non
  | bl b => exact .bl b
  | int i => exact .int i
  | lst a => exact .lst (e _ _ a)
  | tup a => exact .tup (e _ _ a)
  | dK a => exact .dK (e _ _ a)
theorem Odd.exB {p : Addr} {H H' : Hp} {v : V} (h : Odd H v) (n : v ≠ .ref p) (e : ExB p H H') : Odd H' v := by
  cases h with
  | non => exact .non
  | bl b => exact .bl b
  | int i => exact .int i
  | lst a => exact .lst (e _ _ (fun z => n (by rw [z])) a)
  | tup a => exact .tup (e _ _ (fun z => n (by rw [z])) a)
  | dK a => exact .dK (e _ _ (fun z => n (by rw [z])) a)
theorem Odd.ty {K : PySem.W.Frag} {H : Hp} {v : V} (h : Odd H v) : ∃ t, TyX K H v (.type t) ∧ kitB t "str" = some false := by
  cases h with
  | non => exact ⟨_, .base .non, by decide +kernel⟩
  | bl b => exact ⟨_, .base (.bl b), by decide +kernel⟩
  | int i => exact ⟨_, .base (.int i), by decide +kernel⟩
  | lst a => exact ⟨_, .base (.lst a), by decide +kernel⟩
  | tup a => exact ⟨_, .base (.tup a), by decide +kernel⟩
  | dK a => exact ⟨_, .base (.dK a), by decide +kernel⟩
def isV (v : V) (w : Int) (b : Bool) : Prop := (∃ l, v = .str (Tx l) ∧ l.length ≤ 10 ∧ b = (okL l && (decide (w = 0) || decide ((l.length : Int) = w))))
def spIsValue : Sp := fun vs H Q _ => ∃ (v : V) (w : Int), vs = [v, .int w] ∧ ((∃ l, v = .str (Tx l) ∧ l.length ≤ 10 ∧ ∀ H', Ex H H' → Q (.bl (okL l && (decide (w = 0) || decide ((l.length : Int) = w)))) H') ∨ (Odd H v ∧ ∀ H', Ex H H' → Q (.bl false) H'))
section
variable {P : Program} {w : World} {K : PySem.W.Frag} {mg : Str → Option Value} {base : Heap}
theorem ok_is_value {f : Addr} {fd : FuncData} {k : Nat} (F : FunD K "is_value" "is_value" (defArgs s_is_value) (defBody s_is_value) (defScope s_is_value) [] [("width", .int 0)] f fd) (B : Bi mg) : FnOk P w K mg base CX0 (k + 1) f fd ["thing", "width"] spIsValue := by
  refine F.ok sc_is_value (fun vs H Q E h => ?_) (fun cdv A outer s H vs Q E hr h => ?_)
  · obtain ⟨a, ns, rfl, _⟩ := h
    rfl
  · obtain ⟨v, w, rfl, h⟩ := h
    refine ⟨_, (pss_cons (ps_if (PW.pt (pw_or (pt_not (pt_val (pe_callB call_isi (by rfl) B.isinstance (by decide +kernel) (pa_cons (pv 0) (pa_cons (pe_bltn (v := .ty "str") (by rfl) B.str (by decide +kernel) rfl) pa_nil))))) (pw_or1 (pt_not (pt_chain op_le op_le pe_int (pe_callB call_len_str (by rfl) B.len PySem.boot_len (pa_cons (pv 0) pa_nil)) (pgl (by rfl) B.c_WIDEST)))))) (pss_one (ps_ret pe_bl)) pss_nil)
      (pss_cons (ps_if (PW.pt (pw_and (pt_cmpR op_ne (pv 1) pe_int (nomark _)) (pw_and1 (pt_cmpR op_ne (pe_callB call_len_str (by rfl) B.len PySem.boot_len (pa_cons (pv 0) pa_nil)) (pv 1) (nomark _))))) (pss_one (ps_ret pe_bl)) pss_nil)
      (pss_one (ps_ret (pe_callB (cr_all rfl) (by rfl) B.all (by decide +kernel) (pa_cons (pe_lc (own := [("sign", 2)]) (g := gName 2) (tt := tYes) (by rfl) sc_is_value.nd (pi_str (pv 0)) (blkOk_by (own := [("sign", 2)]) (N := N_is_value) (sc := defScope s_is_value) (by decide +kernel)) (fun _ _ _ _ _ => pg_name (i := 2) sc_is_value.nd rfl (Or.inl rfl)) (fun _ _ _ _ _ => pts_nil) (fun _ _ _ _ _ => (pe_cmpR op_inS (pv 2) (pgl (by rfl) B.c_SIGNS) rfl))) pa_nil)))))), ?_⟩
    rcases h with ⟨l, rfl, hl, q⟩ | ⟨ho, q⟩
    · have hlen : ∀ H1, Ev (tCB rLenT (tCons (tVar 0) tNil)) (start N_is_value [.str (Tx l), .int w]) H1 (.int (l.length : Int)) := fun H1 => ev_lenT (ev_var rfl) (by omega)
      refine q_when (b := !true || !(decide ((1 : Int) ≤ (l.length : Int)) && decide ((l.length : Int) ≤ 8))) ?_ (fun hb H1 e1 => ?_) (fun hb H1 e1 => ?_)
      · exact et_or (et_not (et_B (ev_isi (ev_var rfl) ev_c fun H1 _ => ⟨_, .base (.str _), by decide +kernel⟩))) fun _ => et_not (et_test (ev_chain ev_c (hlen _) rv_I0 fun _ => ⟨ev_c, rv_I0⟩))
      · refine s_ret ev_c fun H2 e2 => ?_
        have e0 : okL l = false := by
          unfold okL
          simp at hb
          rw [Bool.and_eq_false_iff, Bool.and_eq_false_iff]
          refine .inl ?_
          by_cases h1 : 1 ≤ l.length
          · exact .inr (decide_eq_false (by omega))
          · exact .inl (decide_eq_false h1)
        have q2 := q H2 (e1.trans e2)
        rw [e0] at q2
        exact q2
      · simp at hb
        have hb2 : decide (1 ≤ l.length) = true ∧ decide (l.length ≤ 8) = true := ⟨decide_eq_true (by omega), decide_eq_true (by omega)⟩
        refine q_when (b := (!decide (V.int w = V.int 0)) && (!decide (V.int (l.length : Int) = V.int w))) (et_and (et_test (ev_op (ev_var rfl) ev_c (rv_ne rfl))) fun _ => et_test (ev_op (hlen _) (ev_var rfl) (rv_ne rfl))) (fun hc H2 e2 => ?_) (fun hc H2 e2 => ?_)
        · refine s_ret ev_c fun H3 e3 => ?_
          simp at hc
          have q2 := q H3 ((e1.trans e2).trans e3)
          rw [show (decide (w = 0) || decide ((l.length : Int) = w)) = false by simp [hc.1, hc.2], Bool.and_false] at q2
          exact q2
        · have hc2 : (decide (w = 0) || decide ((l.length : Int) = w)) = true := by
            simp at hc
            simp
            by_cases h0 : w = 0
            · exact .inl h0
            · exact .inr (hc h0)
          have hL : EvL (tLc (iStr (tVar 0)) (gName 2) tYes (tOp rInS (tVar 2) (tC (.str (Str.ofString "01xz")))) [2]) (start N_is_value [.str (Tx l), .int w]) H2 ((l.map fun c => decide (c ∈ sgn)).map V.bl) := by
            rw [List.map_map]
            refine el_lcT1 _ (ev_var rfl) (by omega) (fun x => rfl) (fun c H3 _ _ => ?_)
            have g := ev_inS (σ := (wipe (start N_is_value [V.str (Tx l), V.int w]) [2]).set 2 (some (V.str (Tx [c])))) (H := H3) (ta := tVar 2) (tb := tC (.str (Str.ofString "01xz"))) (c := c) (ev_var rfl) ev_c
            rw [e_sgn] at g
            exact g
          refine s_ret (ev_all hL) fun H3 e3 => ?_
          have q2 := q H3 ((e1.trans e2).trans e3)
          rw [hc2, Bool.and_true] at q2
          unfold okL at q2
          rw [hb2.1, hb2.2, Bool.true_and, Bool.true_and] at q2
          rw [List.all_map]
          exact q2
    · refine q_when (b := true) ?_ (fun _ H1 e1 => s_ret ev_c fun H2 e2 => q H2 (e1.trans e2)) (fun hb => by cases hb)
      exact et_is (et_or (b := true) (et_not (et_B (ev_isi (b := false) (ev_var rfl) ev_c fun H1 e => (ho.ex e).ty))) fun hb => by cases hb) rfl
end
end Dw

set_option Elab.async false
set_option linter.all false
set_option maxRecDepth 100000
namespace Dw
open PySem L2 Evl
theorem ExB.mut {p D : Addr} {H H' : Hp} {o : HO} (e : ExB p H H') (h : H D = none) : ExB p H (L2.upd H' D o) := fun b u n hb => by
  rw [upd_ne (ne_of_none hb h)]
  exact e b u n hb
theorem PotAt.upd {H : Hp} {p D : Addr} {o : HO} (h : PotAt H p) (n : D ≠ p) : PotAt (L2.upd H D o) p := by
  obtain ⟨x, y, h1, h2⟩ := h
  exact ⟨x, y, (upd_ne n.symm).trans h1, h2⟩
/-- what the law holds of a drawn thing -/
def Thing (H : Hp) (v : V) : Prop := (∃ l : List Nat, v = .str (Tx l) ∧ l.length ≤ 10 ∧ ∀ c ∈ l, c < 128) ∨ Odd H v
theorem Thing.ex {H H' : Hp} {v : V} (h : Thing H v) (e : Ex H H') : Thing H' v := by
  rcases h with h | h
  · exact .inl h
  · exact .inr (h.ex e)
theorem Thing.exB {p : Addr} {H H' : Hp} {v : V} (h : Thing H v) (n : v ≠ .ref p) (e : ExB p H H') : Thing H' v := by
  rcases h with h | h
  · exact .inl h
  · exact .inr (h.exB n e)
def spIs : Sp := fun vs H Q _ => ∃ a b : Bool, vs = [.bl a, .bl b] ∧ ∀ H', Ex H H' → Q (.bl (decide (a = b))) H'
def spThing : Sp := fun vs H Q _ => ∃ p : Addr, vs = [.ref p] ∧ PotAt H p ∧ ∀ (H' : Hp) (v : V), ExB p H H' → PotAt H' p → v ≠ .ref p → Thing H' v → Q v H'
def spRight : Sp := fun vs H Q _ => ∃ (v : V) (w : Int), vs = [v, .int w] ∧ Thing H v ∧ ∀ H', Ex H H' → Q (.bl true) H'
/-- any list of signs at a pot's drawing -/
def menu (i : Nat) : Str := [Str.ofString "01xz", Str.ofString "01xz", Str.ofString "01xz 2XZ-+a.\n"].getD i (Str.ofString "01xz")
section
variable {P : Program} {w : World} {K : PySem.W.Frag} {mg : Str → Option Value} {base : Heap}
theorem ok__law_is {f : Addr} {fd : FuncData} {k : Nat} (F : Fun K "_law_is" "_law_is" s__law_is f fd) (B : Bi mg) : FnOk P w K mg base CX0 (k + 1) f fd ["_law_found", "_law_due"] spIs := by
  refine F.ok sc__law_is (fun vs H Q E h => ?_) (fun cdv A outer s H vs Q E hr h => ?_)
  · obtain ⟨a, b, rfl, _⟩ := h
    rfl
  · obtain ⟨a, b, rfl, q⟩ := h
    refine ⟨_, (pss_one (ps_ret (pe_and (pe_callB call_isi (by rfl) B.isinstance (by decide +kernel) (pa_cons (pv 0) (pa_cons (pe_bltn (v := .ty "bool") (by rfl) B.bool (by decide +kernel) rfl) pa_nil))) (pe_one (pe_cmpR op_eq (pv 0) (pv 1) (nomark _)))))), ?_⟩
    refine s_ret (v := .bl (decide (a = b))) ?_ q
    exact ev_is (ev_andV (a := true) (b := decide (V.bl a = V.bl b)) (ev_isi (ev_var rfl) ev_c fun H1 _ => ⟨_, .base (.bl _), by decide +kernel⟩) fun _ => ev_op (ev_var rfl) (ev_var rfl) (rv_eq rfl)) (by cases a <;> cases b <;> rfl)
theorem menu_at {d : Int} (h0 : 0 ≤ d) (h1 : d < 3) : ∃ l : List Nat, atI [V.str (Str.ofString "01xz"), V.str (Str.ofString "01xz"), V.str (Str.ofString "01xz 2XZ-+a.\n")] d = some (.str (Tx l)) ∧ 0 < l.length ∧ l.length < 20 ∧ ∀ c ∈ l, c < 128 := by
  have e : d = 0 ∨ d = 1 ∨ d = 2 := by omega
  have f1 : Str.ofString "01xz" = Tx [48, 49, 120, 122] := by decide +kernel
  have f2 : Str.ofString "01xz 2XZ-+a.\n" = Tx [48, 49, 120, 122, 32, 50, 88, 90, 45, 43, 97, 46, 10] := by decide +kernel
  rcases e with rfl | rfl | rfl
  · exact ⟨[48, 49, 120, 122], by rw [← f1]; rfl, by decide, by decide, by decide⟩
  · exact ⟨[48, 49, 120, 122], by rw [← f1]; rfl, by decide, by decide, by decide⟩
  · exact ⟨[48, 49, 120, 122, 32, 50, 88, 90, 45, 43, 97, 46, 10], by rw [← f2]; rfl, by decide, by decide, by decide⟩
theorem at_sign {l : List Nat} {d : Int} (h0 : 0 ≤ d) (h1 : d < (l.length : Int)) : ∃ c, atI (Tx l).cps.toList d = some c ∧ c ∈ l := by
  obtain ⟨j, rfl⟩ := Int.eq_ofNat_of_zero_le h0
  have h2 : j < l.length := by omega
  refine ⟨l[j], atI_nat ?_, List.getElem_mem h2⟩
  show l[j]? = some l[j]
  exact List.getElem?_eq_getElem h2
theorem odd_at {vs : List V} {d : Int} (h0 : 0 ≤ d) (h1 : d < (vs.length : Int)) : ∃ v, atI vs d = some v ∧ v ∈ vs := by
  obtain ⟨j, rfl⟩ := Int.eq_ofNat_of_zero_le h0
  have h2 : j < vs.length := by omega
  exact ⟨vs[j], atI_nat (List.getElem?_eq_getElem h2), List.getElem_mem h2⟩
theorem ok__law_thing {f f1 : Addr} {fd fd1 : FuncData} (F : Fun K "_law_thing" "_law_thing" s__law_thing f fd) (B : Bi mg) (D__law_take : Df P w K mg base CX0 "_law_take" 1 f1 fd1 ["_law_pot_here", "_law_many"] spTake) : FnOk P w K mg base CX0 2 f fd ["_law_pot_here"] spThing := by
  refine F.ok sc__law_thing (fun vs H Q E h => ?_) (fun cdv A outer s H vs Q E hr h => ?_)
  · obtain ⟨a, rfl, _⟩ := h
    rfl
  · obtain ⟨p, rfl, hP, q⟩ := h
    refine ⟨_, (pss_cons (ps_if (pt_cmpR op_eq (pe_call D__law_take.ok (hr.mono (by decide)) (by rfl) D__law_take.g D__law_take.kp D__law_take.b .nil pass0 (pa_cons (pv 0) (pa_cons pe_int pa_nil))) pe_int (nomark _)) (pss_cons (ps_set (i := 2) sc__law_thing.nd rfl (Or.inl rfl) (pe_lst (pa_cons pe_non (pa_cons pe_bl (pa_cons pe_bl (pa_cons pe_int (pa_cons pe_int (pa_cons pe_int (pa_cons (pe_un un_neg pe_int) (pa_cons (pe_lst (pa_cons pe_str pa_nil)) (pa_cons (pe_tup (pa_cons pe_str (pa_cons pe_str pa_nil))) (pa_cons (pe_lst pa_nil) (pa_cons pe_dnewK (pa_cons (pe_disp (pps_cons pe_str pe_str pps_nil) (by rfl) (by rfl) (fun z => by cases z) (by decide)) (pa_cons (pe_tup (pa_cons pe_str pa_nil)) (pa_cons (pe_lst (pa_cons (pe_lst (pa_cons pe_str pa_nil)) pa_nil)) pa_nil))))))))))))))))
      (pss_one (ps_ret (pe_ix ix_list (pv 2) (pe_call D__law_take.ok (hr.mono (by decide)) (by rfl) D__law_take.g D__law_take.kp D__law_take.b .nil pass0 (pa_cons (pv 0) (pa_cons pe_int pa_nil))) (fun _ _ => rfl))))) pss_nil)
      (pss_cons (ps_set (i := 1) sc__law_thing.nd rfl (Or.inr rfl) (pe_ix ix_list (pe_lst (pa_cons pe_str (pa_cons pe_str (pa_cons pe_str pa_nil)))) (pe_call D__law_take.ok (hr.mono (by decide)) (by rfl) D__law_take.g D__law_take.kp D__law_take.b .nil pass0 (pa_cons (pv 0) (pa_cons pe_int pa_nil))) (fun _ _ => rfl)))
      (pss_one (ps_ret (pe_join pe_str (pe_lc (own := [("_law_k", 3)]) (g := gName 3) (tt := tYes) (by rfl) sc__law_thing.nd (pi_range1 (by rfl) B.range (pa_cons (pe_call D__law_take.ok (hr.mono (by decide)) (by rfl) D__law_take.g D__law_take.kp D__law_take.b .nil pass0 (pa_cons (pv 0) (pa_cons pe_int pa_nil))) pa_nil)) (blkOk_by (own := [("_law_k", 3)]) (N := N__law_thing) (sc := defScope s__law_thing) (by decide +kernel)) (fun _ _ _ _ _ => pg_name (i := 3) sc__law_thing.nd rfl (Or.inl rfl)) (fun _ _ _ _ _ => pts_nil) (fun _ _ _ _ _ => (pe_ix ix_str (pv 1) (pe_call D__law_take.ok (hr.mono (by decide)) (by rfl) D__law_take.g D__law_take.kp D__law_take.b .nil pass0 (pa_cons (pv 0) (pa_cons (pe_callB call_len_str (by rfl) B.len PySem.boot_len (pa_cons (pv 1) pa_nil)) pa_nil))) (fun _ _ => rfl))))))))), ?_⟩
    refine ⟨_, rfl, p, 6, rfl, hP, by decide, by decide, fun H1 d1 e1 hP1 _ _ => ⟨rfl, _, rfl, ?_⟩⟩
    refine ite2 (fun _ => ?_) (fun _ => ?_)
    · -- one of the fourteen
      refine ⟨1, rfl, by show 1 ≤ sizeLine; decide, fun p1 n1 => ?_⟩
      have x1 := Ex.new (o := .lst [.str (Str.ofString "0")]) n1
      have o1 := upd_same (H := H1) (a := p1) (o := .lst [.str (Str.ofString "0")])
      generalize upd H1 p1 (.lst [.str (Str.ofString "0")]) = G1 at x1 o1 ⊢
      refine ⟨by show 2 ≤ sizeLine; decide, fun p2 n2 => ?_⟩
      have x2 := Ex.new (o := .tup [.str (Str.ofString "1"), .str (Str.ofString "0")]) n2
      have o2 := upd_same (H := G1) (a := p2) (o := .tup [.str (Str.ofString "1"), .str (Str.ofString "0")])
      generalize upd G1 p2 (.tup [.str (Str.ofString "1"), .str (Str.ofString "0")]) = G2 at x2 o2 ⊢
      refine ⟨Nat.zero_le _, fun p3 n3 => ?_⟩
      have x3 := Ex.new (o := .lst []) n3
      have o3 := upd_same (H := G2) (a := p3) (o := .lst [])
      generalize upd G2 p3 (.lst []) = G3 at x3 o3 ⊢
      refine fun p4 n4 => ?_
      have x4 := Ex.new (o := .dK []) n4
      have o4 := upd_same (H := G3) (a := p4) (o := .dK [])
      generalize upd G3 p4 (.dK []) = G4 at x4 o4 ⊢
      refine fun p5 n5 => ?_
      refine ⟨upd_same, [(Sum.inr (Str.ofString "0"), .str (Str.ofString "1"))], rfl, by decide, ?_⟩
      have x5 := Ex.mut (o := .dK (mergeK [] [(Sum.inr (Str.ofString "0"), .str (Str.ofString "1"))])) (Ex.new (o := .dK []) n5) n5
      have o5 := upd_same (H := upd G4 p5 (.dK [])) (a := p5) (o := .dK (mergeK [] [(Sum.inr (Str.ofString "0"), .str (Str.ofString "1"))]))
      generalize upd (upd G4 p5 (.dK [])) p5 (.dK (mergeK [] [(Sum.inr (Str.ofString "0"), .str (Str.ofString "1"))])) = G5 at x5 o5 ⊢
      refine ⟨by show 1 ≤ sizeLine; decide, fun p6 n6 => ?_⟩
      have x6 := Ex.new (o := .tup [.str (Str.ofString "01")]) n6
      have o6 := upd_same (H := G5) (a := p6) (o := .tup [.str (Str.ofString "01")])
      generalize upd G5 p6 (.tup [.str (Str.ofString "01")]) = G6 at x6 o6 ⊢
      refine ⟨by show 1 ≤ sizeLine; decide, fun p7 n7 => ?_⟩
      have x7 := Ex.new (o := .lst [.str (Str.ofString "0")]) n7
      generalize upd G6 p7 (.lst [.str (Str.ofString "0")]) = G7 at x7 ⊢
      refine ⟨by show 1 ≤ sizeLine; decide, fun p8 n8 => ?_⟩
      have x8 := Ex.new (o := .lst [.ref p7]) n8
      have o8 := upd_same (H := G7) (a := p8) (o := .lst [.ref p7])
      generalize upd G7 p8 (.lst [.ref p7]) = G8 at x8 o8 ⊢
      refine ⟨by show 14 ≤ sizeLine; decide, fun p9 n9 => ?_⟩
      have x9 := Ex.new (o := .lst [.non, .bl true, .bl false, .int 0, .int 1, .int 10, .int (-1), .ref p1, .ref p2, .ref p3, .ref p4, .ref p5, .ref p6, .ref p8]) n9
      have o9 := upd_same (H := G8) (a := p9) (o := .lst [.non, .bl true, .bl false, .int 0, .int 1, .int 10, .int (-1), .ref p1, .ref p2, .ref p3, .ref p4, .ref p5, .ref p6, .ref p8])
      generalize upd G8 p9 (.lst [.non, .bl true, .bl false, .int 0, .int 1, .int 10, .int (-1), .ref p1, .ref p2, .ref p3, .ref p4, .ref p5, .ref p6, .ref p8]) = G9 at x9 o9 ⊢
      obtain ⟨a, b, hp, _⟩ := id hP1
      have g : ∀ {v : Addr} {Hz : Hp}, Ex H1 Hz → Hz v = none → V.ref v ≠ V.ref p := fun e n z => by
        cases z
        rw [e _ _ hp] at n
        cases n
      have hall : ∀ v ∈ [V.non, .bl true, .bl false, .int 0, .int 1, .int 10, .int (-1), .ref p1, .ref p2, .ref p3, .ref p4, .ref p5, .ref p6, .ref p8], v ≠ .ref p ∧ Odd G9 v := by
        intro v hv
        simp only [List.mem_cons, List.not_mem_nil, or_false] at hv
        rcases hv with rfl | rfl | rfl | rfl | rfl | rfl | rfl | rfl | rfl | rfl | rfl | rfl | rfl | rfl
        · exact ⟨fun z => (nomatch z), .non⟩
        · exact ⟨fun z => (nomatch z), .bl _⟩
        · exact ⟨fun z => (nomatch z), .bl _⟩
        · exact ⟨fun z => (nomatch z), .int _⟩
        · exact ⟨fun z => (nomatch z), .int _⟩
        · exact ⟨fun z => (nomatch z), .int _⟩
        · exact ⟨fun z => (nomatch z), .int _⟩
        · exact ⟨g (Ex.refl _) n1, .lst ((((((((x2.trans x3).trans x4).trans x5).trans x6).trans x7).trans x8).trans x9) _ _ o1)⟩
        · exact ⟨g x1 n2, .tup (((((((x3.trans x4).trans x5).trans x6).trans x7).trans x8).trans x9) _ _ o2)⟩
        · exact ⟨g (x1.trans x2) n3, .lst ((((((x4.trans x5).trans x6).trans x7).trans x8).trans x9) _ _ o3)⟩
        · exact ⟨g ((x1.trans x2).trans x3) n4, .dK (((((x5.trans x6).trans x7).trans x8).trans x9) _ _ o4)⟩
        · exact ⟨g (((x1.trans x2).trans x3).trans x4) n5, .dK ((((x6.trans x7).trans x8).trans x9) _ _ o5)⟩
        · exact ⟨g ((((x1.trans x2).trans x3).trans x4).trans x5) n6, .tup (((x7.trans x8).trans x9) _ _ o6)⟩
        · exact ⟨g ((((((x1.trans x2).trans x3).trans x4).trans x5).trans x6).trans x7) n8, .lst (x9 _ _ o8)⟩
      have x : Ex H1 G9 := (((((((x1.trans x2).trans x3).trans x4).trans x5).trans x6).trans x7).trans x8).trans x9
      have n9p : p9 ≠ p := fun z => g ((((((((x1.trans x2).trans x3).trans x4).trans x5).trans x6).trans x7).trans x8)) n9 (by rw [z])
      refine ⟨_, rfl, _, rfl, p, 14, rfl, hP1.ex x, by decide, by decide, fun H2 d2 e2 hP2 c0 c1 => ?_⟩
      obtain ⟨v, hv, hm⟩ := odd_at (vs := [V.non, .bl true, .bl false, .int 0, .int 1, .int 10, .int (-1), .ref p1, .ref p2, .ref p3, .ref p4, .ref p5, .ref p6, .ref p8]) c0 c1
      refine ⟨p9, _, d2, v, rfl, rfl, SqL.of (e2 p9 _ n9p o9), hv, ?_⟩
      exact q H2 v (e1.trans ((ExB.of x).trans e2)) hP2 (hall v hm).1 (.inr ((hall v hm).2.exB (hall v hm).1 e2))
    · -- a text
      refine ⟨by show 3 ≤ sizeLine; decide, fun p1 n1 => ?_⟩
      have x1 := Ex.new (o := .lst [V.str (Str.ofString "01xz"), V.str (Str.ofString "01xz"), V.str (Str.ofString "01xz 2XZ-+a.\n")]) n1
      have n1p : p1 ≠ p := fun z => by
        obtain ⟨a, b, hp, _⟩ := hP1
        rw [z, hp] at n1
        cases n1
      refine ⟨_, rfl, p, 3, rfl, hP1.ex x1, by decide, by decide, fun H2 d2 e2 hP2 c0 c1 => ?_⟩
      obtain ⟨l, hl, l0, l1, hb⟩ := menu_at c0 c1
      refine ⟨p1, _, d2, _, rfl, rfl, SqL.of (e2 p1 _ n1p upd_same), hl, ?_⟩
      refine ⟨⟨_, rfl⟩, _, rfl, p, 11, rfl, hP2, by decide, by decide, fun H3 d3 e3 hP3 k0 k1 => ⟨d3, rfl, by omega, by omega, fun D hD => ?_⟩⟩
      have nD : D ≠ p := fun z => by
        obtain ⟨a, b, hp, _⟩ := hP3
        rw [z, hp] at hD
        cases hD
      have e03 : ExB p H H3 := ((e1.trans (ExB.of x1)).trans e2).trans e3
      refine lc_range (lo := 0) (n := d3.toNat) (fun i H4 => ExB p H3 H4 ∧ PotAt H4 p ∧ ∃ ls : List Nat, H4 D = some (.lst (ls.map fun c => V.str (Tx [c]))) ∧ ls.length = i ∧ ∀ c ∈ ls, c < 128)
        ⟨ExB.of (Ex.new hD), hP3.ex (Ex.new hD), [], upd_same, rfl, fun c hc => by cases hc⟩ (fun i H4 hi hv => ?_) (fun H4 hv => ?_)
      · obtain ⟨e4, hP4, ls, h4, hn, hs⟩ := hv
        refine ⟨rfl, ?_⟩
        refine ⟨_, rfl, _, rfl, _, rfl, Tx l, rfl, sz_of (by rw [Tx_len]; omega), p, ((Tx l).length : Int), rfl, hP4, by rw [Tx_len]; omega, by rw [Tx_len]; omega, fun H5 d5 e5 hP5 g0 g1 => ?_⟩
        rw [Tx_len] at g1
        obtain ⟨c, hc, hm⟩ := at_sign g0 g1
        refine ⟨Tx l, d5, c, rfl, rfl, sz_of (by rw [Tx_len]; omega), hc, _, e5 D _ nD h4, sz_lt (by rw [List.length_map]; omega), (e4.trans e5).mut hD, hP5.upd nD, ls ++ [c], ?_, by rw [List.length_append, hn]; rfl, fun y hy => ?_⟩
        · rw [upd_same, List.map_append]
          rfl
        · rcases List.mem_append.mp hy with h | h
          · exact hs y h
          · rw [List.mem_singleton.mp h]
            exact hb c hm
      · obtain ⟨e4, hP4, ls, h4, hn, hs⟩ := hv
        refine ⟨Str.ofString "", D, ls.map fun c => Tx [c], rfl, rfl, .inl (SqL.of (by rw [map_strs]; exact h4)), by rw [ones_len]; omega, ?_⟩
        rw [join_ones]
        exact q H4 _ (e03.trans e4) hP4 (fun z => nomatch z) (.inl ⟨ls, rfl, by omega, hs⟩)
end
end Dw

set_option Elab.async false
set_option linter.all false
set_option maxRecDepth 100000
namespace Dw
open PySem L2 Evl
theorem spv_is {a b : Bool} {H : Hp} : SpV spIs [.bl a, .bl b] H (.bl (decide (a = b))) := fun H1 _ Q q E => ⟨a, b, rfl, q⟩
theorem spv_isT {l : List Nat} {w : Int} {H : Hp} (hl : l.length ≤ 10) : SpV spIsValue [.str (Tx l), .int w] H (.bl (okL l && (decide (w = 0) || decide ((l.length : Int) = w)))) := fun H1 _ Q q E => ⟨_, w, rfl, .inl ⟨l, rfl, hl, q⟩⟩
theorem spv_isO {v : V} {w : Int} {H : Hp} (h : Odd H v) : SpV spIsValue [v, .int w] H (.bl false) := fun H1 e Q q E => ⟨v, w, rfl, .inr ⟨h.ex e, q⟩⟩
theorem filter_nil_iff (l : List Nat) : decide (((l.filter fun c => !decide (c ∈ sgn)).map fun c => Tx [c]) = []) = l.all fun c => decide (c ∈ sgn) := by
  rw [Bool.eq_iff_iff]
  simp [List.filter_eq_nil_iff]
section
variable {P : Program} {w : World} {K : PySem.W.Frag} {mg : Str → Option Value} {base : Heap}
theorem ok__law_right {f f1 f2 : Addr} {fd fd1 fd2 : FuncData} {ds : List Value} {gK : List Value → List Value → List Value} (F : Fun K "_law_right" "_law_right" s__law_right f fd) (B : Bi mg)
    (D_is_value : DfD P w K mg base CX0 "is_value" 1 f1 fd1 ["thing", "width"] spIsValue) (b0_is_value : Binds K fd1 ["thing", "width"] ds) (v0_is_value : Vals [V.int 0] ds)
    (kb_is_value_width : KBn K fd1 ["thing", "width"] 1 ["width"] gK (fun vs zs => vs ++ zs)) (D__law_is : Df P w K mg base CX0 "_law_is" 1 f2 fd2 ["_law_found", "_law_due"] spIs) :
    FnOk P w K mg base CX0 2 f fd ["_law_thing_here", "_law_wide"] spRight := by
  refine F.ok sc__law_right (fun vs H Q E h => ?_) (fun cdv A outer s H vs Q E hr h => ?_)
  · obtain ⟨a, b, rfl, _⟩ := h
    rfl
  · obtain ⟨v, w, rfl, hv, q⟩ := h
    refine ⟨_, (pss_cons (ps_set (i := 2) sc__law_right.nd rfl (Or.inl rfl) (pe_and (pe_callB call_isi (by rfl) B.isinstance (by decide +kernel) (pa_cons (pv 0) (pa_cons (pe_bltn (v := .ty "str") (by rfl) B.str (by decide +kernel) rfl) pa_nil))) (pe_and (pe_chain op_lt op_lt pe_int (pe_callB call_len_str (by rfl) B.len PySem.boot_len (pa_cons (pv 0) pa_nil)) pe_int) (pe_one (pe_cmpR (op_eqD hr.units) (pe_lc (own := [("_law_sign", 3)]) (g := gName 3) (by rfl) sc__law_right.nd (pi_str (pv 0)) (blkOk_by (own := [("_law_sign", 3)]) (N := N__law_right) (sc := defScope s__law_right) (by decide +kernel)) (fun _ _ _ _ _ => pg_name (i := 3) sc__law_right.nd rfl (Or.inl rfl)) (fun _ _ _ _ _ => pts_one (pt_cmpR op_notInS (pv 3) pe_str rfl)) (fun _ _ _ _ _ => (pv 3))) (pe_lst pa_nil) (nomark _))))))
      (pss_cons (ps_if (PW.pt (pw_or (pt_not (pt_val (pe_call D__law_is.ok (hr.mono (by decide)) (by rfl) D__law_is.g D__law_is.kp D__law_is.b .nil pass0 (pa_cons (pe_call D_is_value.ok (hr.mono (by decide)) (by rfl) D_is_value.g D_is_value.kp b0_is_value v0_is_value pass0 (pa_cons (pv 0) pa_nil)) (pa_cons (pv 2) pa_nil))))) (pw_or1 (pt_not (pt_val (pe_call D__law_is.ok (hr.mono (by decide)) (by rfl) D__law_is.g D__law_is.kp D__law_is.b .nil pass0 (pa_cons (pe_callN D_is_value.ok (hr.mono (by decide)) (by rfl) D_is_value.g D_is_value.kp kb_is_value_width pass0 (pa_cons (pv 0) pa_nil) (pk_cons pe_int pk_nil)) (pa_cons (pv 2) pa_nil)))))))) (pss_one (ps_ret pe_bl)) pss_nil)
      (pss_one (ps_ret (pe_call D__law_is.ok (hr.mono (by decide)) (by rfl) D__law_is.g D__law_is.kp D__law_is.b .nil pass0 (pa_cons (pe_callN D_is_value.ok (hr.mono (by decide)) (by rfl) D_is_value.g D_is_value.kp kb_is_value_width pass0 (pa_cons (pv 0) pa_nil) (pk_cons (pv 1) pk_nil)) (pa_cons (pe_and (pv 2) (pe_one (pe_or (pe_cmpR op_eq (pv 1) pe_int (nomark _)) (pe_one (pe_cmpR op_eq (pe_callB call_len_str (by rfl) B.len PySem.boot_len (pa_cons (pv 0) pa_nil)) (pv 1) (nomark _)))))) pa_nil))))))), ?_⟩
    rcases hv with ⟨l, rfl, hl, hc⟩ | ho
    · have hlen : ∀ {v2 v3 H1}, Ev (tCB rLenT (tCons (tVar 0) tNil)) [some (V.str (Tx l)), some (.int w), v2, v3] H1 (.int (l.length : Int)) := ev_lenT (ev_var rfl) (by omega)
      refine q_asg (v := .bl (okL l)) ?_ fun H1 e1 => ?_
      · refine ev_is (ev_andV (a := true) (b := (decide ((0 : Int) < (l.length : Int)) && decide ((l.length : Int) < 9)) && decide (((l.filter fun c => !decide (c ∈ sgn)).map fun c => Tx [c]) = [])) (ev_isi (ev_var rfl) ev_c fun H1 _ => ⟨_, .base (.str _), by decide +kernel⟩)
          fun _ => ev_andV (ev_chain ev_c (hlen) rv_I0 fun _ => ⟨ev_c, rv_I0⟩) fun _ => ev_opLL (xs := ((l.filter fun c => !decide (c ∈ sgn)).map fun c => Tx [c]).map V.str) (ys := ([] : List Str).map V.str) ?_ (el_lst ea_nil (by decide)) fun p r H1 h1 h2 _ => rv_eqStrs (sq_of h1) (sq_of h2) (fun x hx => ?_) (fun x hx => by cases hx)) ?_
        · rw [List.map_map]
          refine el_lcT _ _ (ev_var rfl) (by omega) (fun x => rfl) (fun c H3 _ _ => ?_) (fun c H3 _ _ _ => ev_var rfl)
          have g := ev_notInS (σ := (wipe (start N__law_right [V.str (Tx l), V.int w]) [3]).set 3 (some (V.str (Tx [c])))) (H := H3) (ta := tVar 3) (tb := tC (.str (Str.ofString "01xz"))) (c := c) (ev_var rfl) ev_c
          rw [e_sgn] at g
          exact et_test g
        · obtain ⟨c, hm, rfl⟩ := List.mem_map.mp hx
          exact low_Tx fun d hd => by
            rw [List.mem_singleton.mp hd]
            exact hc c (List.mem_filter.mp hm).1
        · rw [filter_nil_iff]
          unfold okL
          have e1 : decide ((0 : Int) < (l.length : Int)) = decide (1 ≤ l.length) := decide_eq_decide.mpr (by omega)
          have e2 : decide ((l.length : Int) < 9) = decide (l.length ≤ 8) := decide_eq_decide.mpr (by omega)
          rw [e1, e2]
          rfl
      · refine q_when (b := false) (et_is (et_or (et_not (et_B (ev_call (ea_cons (ev_call (ea_cons (ev_var rfl) ea_nil) (spv_isT hl)) (ea_cons (ev_var rfl) ea_nil)) spv_is))) fun _ => et_not (et_B (ev_call (ea_cons (ev_callN (ea_cons (ev_var rfl) ea_nil) (ea_cons ev_c ea_nil) rfl rfl (spv_isT hl)) (ea_cons (ev_var rfl) ea_nil)) spv_is))) ?_) (fun hb => by cases hb) (fun _ H2 e2 => ?_)
        · cases okL l <;> simp
        · refine s_ret (ev_is (ev_call (ea_cons (ev_callN (ea_cons (ev_var rfl) ea_nil) (ea_cons (ev_var rfl) ea_nil) rfl rfl (spv_isT hl)) (ea_cons (ev_andV (ev_var rfl) fun _ => ev_orV (ev_op (ev_var rfl) ev_c (rv_eq rfl)) fun _ => ev_op hlen (ev_var rfl) (rv_eq rfl)) ea_nil)) spv_is) ?_) fun H3 e3 => q H3 ((e1.trans e2).trans e3)
          congr 1
          simp
    · refine q_asg (v := .bl false) (ev_is (ev_andV (a := false) (b := true) (ev_isi (ev_var rfl) ev_c fun H1 e => (ho.ex e).ty) fun hb => by cases hb) rfl) fun H1 e1 => ?_
      have h1 := ho.ex e1
      refine q_when (b := false) (et_is (et_or (et_not (et_B (ev_call (ea_cons (ev_call (ea_cons (ev_var rfl) ea_nil) (spv_isO h1)) (ea_cons (ev_var rfl) ea_nil)) spv_is))) fun _ => et_not (et_B (ev_call (ea_cons (ev_callN (ea_cons (ev_var rfl) ea_nil) (ea_cons ev_c ea_nil) rfl rfl (spv_isO h1)) (ea_cons (ev_var rfl) ea_nil)) spv_is))) rfl) (fun hb => by cases hb) (fun _ H2 e2 => ?_)
      refine s_ret (ev_is (ev_call (ea_cons (ev_callN (ea_cons (ev_var rfl) ea_nil) (ea_cons (ev_var rfl) ea_nil) rfl rfl (spv_isO (h1.ex e2))) (ea_cons (ev_is (ev_andV (a := false) (b := true) (ev_var rfl) fun hb => by cases hb) rfl) ea_nil)) spv_is) rfl) fun H3 e3 => q H3 ((e1.trans e2).trans e3)
end
end Dw

set_option Elab.async false
set_option linter.all false
set_option maxRecDepth 100000
namespace Dw
open PySem L2 Evl
def spLaw (K : PySem.W.Frag) : Sp := fun vs H Q _ => ∃ (a : Addr) (ns : List Int), vs = [.ref a] ∧ SqL K H a (ns.map V.int) ∧ ns.length ≤ 63 ∧ ∀ H', Q (.bl true) H'
theorem mul_x {d : Int} (h0 : 0 ≤ d) (h1 : d < 10) : ∃ l : List Nat, MulOk (Str.ofString "x") (1 + d % 8) ∧ Txt.mul (Str.ofString "x") (1 + d % 8) = Tx l ∧ l.length ≤ 10 ∧ ∀ c ∈ l, c < 128 := by
  have e : d = 0 ∨ d = 1 ∨ d = 2 ∨ d = 3 ∨ d = 4 ∨ d = 5 ∨ d = 6 ∨ d = 7 ∨ d = 8 ∨ d = 9 := by omega
  unfold MulOk
  rcases e with rfl | rfl | rfl | rfl | rfl | rfl | rfl | rfl | rfl | rfl
  · exact ⟨List.replicate 1 120, by decide +kernel, by decide +kernel, by decide, by decide⟩
  · exact ⟨List.replicate 2 120, by decide +kernel, by decide +kernel, by decide, by decide⟩
  · exact ⟨List.replicate 3 120, by decide +kernel, by decide +kernel, by decide, by decide⟩
  · exact ⟨List.replicate 4 120, by decide +kernel, by decide +kernel, by decide, by decide⟩
  · exact ⟨List.replicate 5 120, by decide +kernel, by decide +kernel, by decide, by decide⟩
  · exact ⟨List.replicate 6 120, by decide +kernel, by decide +kernel, by decide, by decide⟩
  · exact ⟨List.replicate 7 120, by decide +kernel, by decide +kernel, by decide, by decide⟩
  · exact ⟨List.replicate 8 120, by decide +kernel, by decide +kernel, by decide, by decide⟩
  · exact ⟨List.replicate 1 120, by decide +kernel, by decide +kernel, by decide, by decide⟩
  · exact ⟨List.replicate 2 120, by decide +kernel, by decide +kernel, by decide, by decide⟩
theorem spv_right {v : V} {w : Int} {H : Hp} (h : Thing H v) : SpV spRight [v, .int w] H (.bl true) := fun H1 e Q q E => ⟨v, w, rfl, h.ex e, q⟩
section
variable {P : Program} {w : World} {K : PySem.W.Frag} {mg : Str → Option Value} {base : Heap}
theorem ok_law {f f1 f2 f3 f4 : Addr} {fd fd1 fd2 fd3 fd4 : FuncData} (F : Fun K "law" "law" s_law f fd) (B : Bi mg)
    (D__law_pot : Df P w K mg base CX0 "_law_pot" 2 f1 fd1 ["_law_script", "_law_k"] (spPot K)) (D__law_thing : Df P w K mg base CX0 "_law_thing" 2 f2 fd2 ["_law_pot_here"] spThing)
    (D__law_take : Df P w K mg base CX0 "_law_take" 1 f3 fd3 ["_law_pot_here", "_law_many"] spTake) (D__law_right : Df P w K mg base CX0 "_law_right" 2 f4 fd4 ["_law_thing_here", "_law_wide"] spRight) :
    FnOk P w K mg base CX0 3 f fd ["_law_script"] (spLaw K) := by
  refine F.ok sc_law (fun vs H Q E h => ?_) (fun cdv A outer s H vs Q E hr h => ?_)
  · obtain ⟨a, b, rfl, _⟩ := h
    rfl
  · obtain ⟨a, ns, rfl, hS, hlen, q⟩ := h
    refine ⟨_, (pss_cons (ps_if (PW.pt (pw_or (pt_cmpR op_ne (pgl (by rfl) B.c_WIDEST) pe_int (nomark _)) (pw_or1 (pt_val (pe_callB call_isi (by rfl) B.isinstance (by decide +kernel) (pa_cons (pgl (by rfl) B.c_WIDEST) (pa_cons (pe_bltn (v := .ty "bool") (by rfl) B.bool (by decide +kernel) rfl) pa_nil))))))) (pss_one (ps_ret pe_bl)) pss_nil)
      (pss_cons (ps_for PassesOwn.never rfl (pi_range1 (by rfl) B.range (pa_cons (pe_callB (call_max2 rfl) (by rfl) B.max (by decide +kernel) (pa_cons pe_int (pa_cons (pe_callB (call_min2 rfl) (by rfl) B.min (by decide +kernel) (pa_cons pe_int (pa_cons (pe_callB call_len_seq (by rfl) B.len PySem.boot_len (pa_cons (pv 0) pa_nil)) pa_nil))) pa_nil))) pa_nil)) (pg_name (i := 1) sc_law.nd rfl (Or.inl rfl)) (pss_cons (ps_set (i := 2) sc_law.nd rfl (Or.inl rfl) (pe_call D__law_pot.ok (hr.mono (by decide)) (by rfl) D__law_pot.g D__law_pot.kp D__law_pot.b .nil pass0 (pa_cons (pv 0) (pa_cons (pv 1) pa_nil))))
      (pss_cons (ps_set (i := 3) sc_law.nd rfl (Or.inl rfl) (pe_call D__law_thing.ok (hr.mono (by decide)) (by rfl) D__law_thing.g D__law_thing.kp D__law_thing.b .nil pass0 (pa_cons (pv 2) pa_nil)))
      (pss_cons (ps_set (i := 4) sc_law.nd rfl (Or.inl rfl) (pe_call D__law_take.ok (hr.mono (by decide)) (by rfl) D__law_take.g D__law_take.kp D__law_take.b .nil pass0 (pa_cons (pv 2) (pa_cons pe_int pa_nil))))
      (pss_one (ps_if (PW.pt (pw_or (pt_not (pt_val (pe_call D__law_right.ok (hr.mono (by decide)) (by rfl) D__law_right.g D__law_right.kp D__law_right.b .nil pass0 (pa_cons (pv 3) (pa_cons (pv 4) pa_nil))))) (pw_or (pt_not (pt_val (pe_call D__law_right.ok (hr.mono (by decide)) (by rfl) D__law_right.g D__law_right.kp D__law_right.b .nil pass0 (pa_cons (pe_op op_mulS pe_str (pe_op op_add pe_int (pe_op op_mod (pv 4) pe_int))) (pa_cons (pv 4) pa_nil))))) (pw_or1 (pt_not (pt_val (pe_call D__law_right.ok (hr.mono (by decide)) (by rfl) D__law_right.g D__law_right.kp D__law_right.b .nil pass0 (pa_cons (pv 3) (pa_cons (pv 4) pa_nil))))))))) (pss_one (ps_ret pe_bl)) pss_nil))))))
      (pss_one (ps_ret pe_bl)))), ?_⟩
    refine q_when (b := false) (et_is (et_or (et_test (ev_op ev_c ev_c (rv_ne rfl))) fun _ => et_B (ev_isi ev_c ev_c fun H1 _ => ⟨_, .base (.int _), by decide +kernel⟩)) rfl) (fun hb => by cases hb) (fun _ H1 e1 => ?_)
    refine q_forR1 (n := if (if (ns.length : Int) < 12 then (ns.length : Int) else 12) > 3 then (if (ns.length : Int) < 12 then (ns.length : Int) else 12) else 3) ?_ ⟨by split <;> omega, by split <;> (try split) <;> omega⟩ (fun i σ' H' => (∃ a1 a2 a3 a4, σ' = [some (.ref a), a1, a2, a3, a4]) ∧ SqL K H' a (ns.map V.int))
      (fun H2 e2 => ⟨⟨none, none, none, none, rfl⟩, ex_l (e1.trans e2) hS⟩) (fun i σ' H' hi hv => ?_) (fun σ' H' hv => ?_)
    · refine fun H2 e2 Q2 q2 => ?_
      refine ⟨_, rfl, a, _, rfl, .inl (ex_l (e1.trans e2) hS), _, _, rfl, _, _, rfl, ?_⟩
      rw [List.length_map]
      exact q2 _ (Ex.refl _)
    · obtain ⟨⟨a1, a2, a3, a4, rfl⟩, hS2⟩ := hv
      have hi2 : (i : Int) ≤ 1000 := by
        revert hi
        split <;> (try split) <;> omega
      refine ⟨_, rfl, _, rfl, a, ns, _, rfl, hS2, by omega, hi2, fun p H2 np x2 hP => ?_⟩
      refine ⟨_, rfl, p, rfl, hP, fun H3 v e3 hP3 nv hv => ?_⟩
      refine ⟨_, rfl, p, 10, rfl, hP3, by decide, by decide, fun H4 d e4 hP4 d0 d1 => ?_⟩
      have hv4 := hv.exB nv e4
      have x4 : Ex H' H4 := (e3.trans e4).back x2 np
      obtain ⟨l, m1, m2, m3, m4⟩ := mul_x d0 d1
      refine s_when (b := false) (et_is (et_or (et_not (et_B (ev_call (ea_cons (ev_var rfl) (ea_cons (ev_var rfl) ea_nil)) (spv_right hv4)))) fun _ => et_or (et_not (et_B (ev_call (ea_cons (x := .str (Tx l)) ?_ (ea_cons (ev_var rfl) ea_nil)) (spv_right (.inl ⟨l, rfl, m3, m4⟩))))) fun _ => et_not (et_B (ev_call (ea_cons (ev_var rfl) (ea_cons (ev_var rfl) ea_nil)) (spv_right hv4)))) rfl) (fun hb => by cases hb) (fun _ H5 e5 => ?_)
      · refine ev_op ev_c (ev_op ev_c (ev_op (ev_var rfl) ev_c (rv_I (by show (0 : Int) < 8; decide))) rv_I0) fun H6 _ Q6 q6 => ⟨_, _, rfl, rfl, m1, ?_⟩
        rw [m2]
        exact q6 _ (Ex.refl _)
      · exact ⟨⟨_, _, _, _, rfl⟩, ex_l (x4.trans e5) hS2⟩
    · exact s_ret ev_c fun H2 _ => q H2
end
theorem all_mk {l : PySem.W.OpenLaw} {w : World} {K : PySem.W.Frag} {h : Heap} {mg : Str → Option Value} {fa g0 g1 g2 g3 g4 g5 g6 g7 Dk : Addr} (X : K.In h) (G : h.Ns mainGlobals mg) (hfa : mg "law" = some (.ref fa))
    {od0 an0 od1 an1 od2 an2 od3 an3 od4 an4 od5 an5 od6 an6 od7 an7 : Option Addr} {sl0 sl1 sl2 sl3 sl4 sl5 sl6 sl7 : Array (Option Value)} {oc0 dc0 pm0 cd0 ct0 oc1 kV1 dc1 pm1 cd1 ct1 oc2 kV2 dc2 pm2 cd2 ct2 oc3 kV3 dc3 pm3 cd3 ct3 oc4 kV4 dc4 pm4 cd4 ct4 oc5 kV5 dc5 pm5 cd5 ct5 oc6 kV6 dc6 pm6 cd6 ct6 oc7 kV7 dc7 pm7 cd7 ct7 : Value} {tw tW tS : Tok}
    (a0 : PySem.W.nsIn K mainGlobals "is_value" = some (some (.ref g0))) (l0 : K.lookup g0 = some ⟨oc0, od0, .func (PySem.W.fnOf "is_value" "is_value" (defArgs s_is_value) (defBody s_is_value) (defScope s_is_value) .none (.ref Dk) dc0 pm0 an0 cd0 ct0), sl0⟩) (c0 : PySem.W.codeIn K cd0 "is_value" = true) (k0 : PySem.W.keepIn K (.ref g0) = true) (d0 : PySem.W.nsIn K Dk "width" = some (some (.int 0 tw)))
    (a1 : PySem.W.nsIn K mainGlobals "_law_at" = some (some (.ref g1))) (l1 : K.lookup g1 = some ⟨oc1, od1, .func (PySem.W.fnOf "_law_at" "_law_at" (defArgs s__law_at) (defBody s__law_at) (defScope s__law_at) .none kV1 dc1 pm1 an1 cd1 ct1), sl1⟩) (c1 : PySem.W.codeIn K cd1 "_law_at" = true) (k1 : PySem.W.keepIn K (.ref g1) = true)
    (a2 : PySem.W.nsIn K mainGlobals "_law_pot" = some (some (.ref g2))) (l2 : K.lookup g2 = some ⟨oc2, od2, .func (PySem.W.fnOf "_law_pot" "_law_pot" (defArgs s__law_pot) (defBody s__law_pot) (defScope s__law_pot) .none kV2 dc2 pm2 an2 cd2 ct2), sl2⟩) (c2 : PySem.W.codeIn K cd2 "_law_pot" = true) (k2 : PySem.W.keepIn K (.ref g2) = true)
    (a3 : PySem.W.nsIn K mainGlobals "_law_take" = some (some (.ref g3))) (l3 : K.lookup g3 = some ⟨oc3, od3, .func (PySem.W.fnOf "_law_take" "_law_take" (defArgs s__law_take) (defBody s__law_take) (defScope s__law_take) .none kV3 dc3 pm3 an3 cd3 ct3), sl3⟩) (c3 : PySem.W.codeIn K cd3 "_law_take" = true) (k3 : PySem.W.keepIn K (.ref g3) = true)
    (a4 : PySem.W.nsIn K mainGlobals "_law_thing" = some (some (.ref g4))) (l4 : K.lookup g4 = some ⟨oc4, od4, .func (PySem.W.fnOf "_law_thing" "_law_thing" (defArgs s__law_thing) (defBody s__law_thing) (defScope s__law_thing) .none kV4 dc4 pm4 an4 cd4 ct4), sl4⟩) (c4 : PySem.W.codeIn K cd4 "_law_thing" = true) (k4 : PySem.W.keepIn K (.ref g4) = true)
    (a5 : PySem.W.nsIn K mainGlobals "_law_is" = some (some (.ref g5))) (l5 : K.lookup g5 = some ⟨oc5, od5, .func (PySem.W.fnOf "_law_is" "_law_is" (defArgs s__law_is) (defBody s__law_is) (defScope s__law_is) .none kV5 dc5 pm5 an5 cd5 ct5), sl5⟩) (c5 : PySem.W.codeIn K cd5 "_law_is" = true) (k5 : PySem.W.keepIn K (.ref g5) = true)
    (a6 : PySem.W.nsIn K mainGlobals "_law_right" = some (some (.ref g6))) (l6 : K.lookup g6 = some ⟨oc6, od6, .func (PySem.W.fnOf "_law_right" "_law_right" (defArgs s__law_right) (defBody s__law_right) (defScope s__law_right) .none kV6 dc6 pm6 an6 cd6 ct6), sl6⟩) (c6 : PySem.W.codeIn K cd6 "_law_right" = true) (k6 : PySem.W.keepIn K (.ref g6) = true)
    (a7 : PySem.W.nsIn K mainGlobals "law" = some (some (.ref g7))) (l7 : K.lookup g7 = some ⟨oc7, od7, .func (PySem.W.fnOf "law" "law" (defArgs s_law) (defBody s_law) (defScope s_law) .none kV7 dc7 pm7 an7 cd7 ct7), sl7⟩) (c7 : PySem.W.codeIn K cd7 "law" = true) (k7 : PySem.W.keepIn K (.ref g7) = true)
    (z0 : PySem.W.nsIn K mainGlobals "all" = some none) (z1 : PySem.W.nsIn K mainGlobals "bool" = some none) (z2 : PySem.W.nsIn K mainGlobals "divmod" = some none) (z3 : PySem.W.nsIn K mainGlobals "isinstance" = some none) (z4 : PySem.W.nsIn K mainGlobals "len" = some none) (z5 : PySem.W.nsIn K mainGlobals "max" = some none) (z6 : PySem.W.nsIn K mainGlobals "min" = some none) (z7 : PySem.W.nsIn K mainGlobals "range" = some none) (z8 : PySem.W.nsIn K mainGlobals "str" = some none)
    (y0 : PySem.W.nsIn K mainGlobals "SIGNS" = some (some (.str (Str.ofString "01xz") tS))) (y1 : PySem.W.nsIn K mainGlobals "WIDEST" = some (some (.int 8 tW))) :
    ∃ fd : FuncData, (∀ (s : Shared) (v : Value), BindsTo s fd ⟨[v], []⟩ [("_law_script", v)]) ∧ ∀ base : Heap, K.In base → base.Ns mainGlobals mg → FnOk l.prog w K mg base CX0 3 fa fd ["_law_script"] (spLaw K) := by
  have e := hfa.symm.trans (PySem.W.mg_of X G a7)
  cases e
  have B : Bi mg := ⟨PySem.W.mg_none_of X G z0, PySem.W.mg_none_of X G z1, PySem.W.mg_none_of X G z2, PySem.W.mg_none_of X G z3, PySem.W.mg_none_of X G z4, PySem.W.mg_none_of X G z5, PySem.W.mg_none_of X G z6, PySem.W.mg_none_of X G z7, PySem.W.mg_none_of X G z8, ⟨_, PySem.W.mg_of X G y0, _, rfl⟩, ⟨_, PySem.W.mg_of X G y1, _, rfl⟩⟩
  have F0 : FunD K "is_value" "is_value" (defArgs s_is_value) (defBody s_is_value) (defScope s_is_value) [] [("width", .int 0)] g0 _ := ⟨⟨_, _, _, _, _, _, _, _, _, _, rfl, l0, c0, .inl ⟨rfl, rfl⟩, .inr ⟨Dk, rfl, fun q hq => by
    rw [List.mem_singleton.mp hq]
    exact ⟨_, d0, _, rfl⟩⟩⟩, k0⟩
  have F1 := fun_mk (st := s__law_at) l1 c1 k1
  have F2 := fun_mk (st := s__law_pot) l2 c2 k2
  have F3 := fun_mk (st := s__law_take) l3 c3 k3
  have F4 := fun_mk (st := s__law_thing) l4 c4 k4
  have F5 := fun_mk (st := s__law_is) l5 c5 k5
  have F6 := fun_mk (st := s__law_right) l6 c6 k6
  have F7 := fun_mk (st := s_law) l7 c7 k7
  have b1 := F1.binds (ps := ["_law_script", "_law_k"]) fun _ _ _ _ _ _ us hl => match us, hl with | [_, _], _ => rfl
  have b2 := F2.binds (ps := ["_law_script", "_law_k"]) fun _ _ _ _ _ _ us hl => match us, hl with | [_, _], _ => rfl
  have b3 := F3.binds (ps := ["_law_pot_here", "_law_many"]) fun _ _ _ _ _ _ us hl => match us, hl with | [_, _], _ => rfl
  have b4 := F4.binds (ps := ["_law_pot_here"]) fun _ _ _ _ _ _ us hl => match us, hl with | [_], _ => rfl
  have b5 := F5.binds (ps := ["_law_found", "_law_due"]) fun _ _ _ _ _ _ us hl => match us, hl with | [_, _], _ => rfl
  have b6 := F6.binds (ps := ["_law_thing_here", "_law_wide"]) fun _ _ _ _ _ _ us hl => match us, hl with | [_, _], _ => rfl
  obtain ⟨ds, v0, b0⟩ := F0.binds0 (ps := ["thing", "width"]) 1 (by decide) rfl fun D doc pm an cdv ct us ks hu hk => match us, ks, hu, hk with | [_], [_], _, _ => ⟨_, _, _, _, _, _, rfl, rfl, rfl⟩
  have kb : KBn K (PySem.W.fnOf "is_value" "is_value" (defArgs s_is_value) (defBody s_is_value) (defScope s_is_value) .none (.ref Dk) dc0 pm0 an0 cd0 ct0) ["thing", "width"] 1 ["width"] (fun us ws => us ++ ws) (fun vs zs => vs ++ zs) :=
    ⟨fun s us ws _ hu hw => match us, ws, hu, hw with | [_], [_], _, _ => .of_eq rfl, fun r1 r2 => r1.append r2⟩
  refine ⟨PySem.W.fnOf "law" "law" (defArgs s_law) (defBody s_law) (defScope s_law) .none kV7 dc7 pm7 an7 cd7 ct7, fun s v => .of_eq rfl, fun base _ _ => ?_⟩
  have E0 : DfD l.prog w K mg base CX0 "is_value" 1 g0 _ ["thing", "width"] spIsValue := ⟨ok_is_value F0 B, PySem.W.mg_of X G a0, k0⟩
  have E1 : Df l.prog w K mg base CX0 "_law_at" 1 g1 _ ["_law_script", "_law_k"] (spAt K) := ⟨ok__law_at F1 B, PySem.W.mg_of X G a1, k1, b1⟩
  have E2 : Df l.prog w K mg base CX0 "_law_pot" 2 g2 _ ["_law_script", "_law_k"] (spPot K) := ⟨ok__law_pot F2 B E1, PySem.W.mg_of X G a2, k2, b2⟩
  have E3 : Df l.prog w K mg base CX0 "_law_take" 1 g3 _ ["_law_pot_here", "_law_many"] spTake := ⟨ok__law_take F3 B, PySem.W.mg_of X G a3, k3, b3⟩
  have E4 : Df l.prog w K mg base CX0 "_law_thing" 2 g4 _ ["_law_pot_here"] spThing := ⟨ok__law_thing F4 B E3, PySem.W.mg_of X G a4, k4, b4⟩
  have E5 : Df l.prog w K mg base CX0 "_law_is" 1 g5 _ ["_law_found", "_law_due"] spIs := ⟨ok__law_is F5 B, PySem.W.mg_of X G a5, k5, b5⟩
  have E6 : Df l.prog w K mg base CX0 "_law_right" 2 g6 _ ["_law_thing_here", "_law_wide"] spRight := ⟨ok__law_right F6 B E0 b0 v0 kb E5, PySem.W.mg_of X G a6, k6, b6⟩
  exact ok_law F7 B E2 E4 E3 E6
end Dw
open PySem PySem.W PyProof.Rows
set_option maxHeartbeats 0 in
theorem PySem.Challenge.cw_deltawires_k11_values_judged_holds : PySem.Challenge.rw_deltawires_k11_values_judged.Holds := by
  w_on; o_law; k_head; (case hw => w_witness2)
  k_fill
  refine L2.walk_of (l := PySem.Challenge.rw_deltawires_k11_values_judged) (n := 63) (k := 3) (x := "_law_script") (CX := fun _ => L2.CX0) (sp := fun w => Dw.spLaw _) rfl (by decide) rfl ⟨rfl, by decide, by decide⟩ (fun w h Y => PySem.W.kIn_of Y) ?F (fun _ _ a ns hl _ hS => ⟨a, ns, rfl, hS, hl, fun _ => rfl⟩) (fun _ _ _ _ _ h => h)
  case F =>
    intro w mg fa h KX G hmg
    refine' Dw.all_mk KX G hmg ?a0 ?l0 ?c0 ?k0 ?d0 ?a1 ?l1 ?c1 ?k1 ?a2 ?l2 ?c2 ?k2 ?a3 ?l3 ?c3 ?k3 ?a4 ?l4 ?c4 ?k4 ?a5 ?l5 ?c5 ?k5 ?a6 ?l6 ?c6 ?k6 ?a7 ?l7 ?c7 ?k7 ?z0 ?z1 ?z2 ?z3 ?z4 ?z5 ?z6 ?z7 ?z8 ?y0 ?y1
    (case a0 => k_is); (case l0 => k_is); (case c0 => k_is); (case k0 => k_is); (case d0 => k_is)
    (case a1 => k_is); (case l1 => k_is); (case c1 => k_is); (case k1 => k_is)
    (case a2 => k_is); (case l2 => k_is); (case c2 => k_is); (case k2 => k_is)
    (case a3 => k_is); (case l3 => k_is); (case c3 => k_is); (case k3 => k_is)
    (case a4 => k_is); (case l4 => k_is); (case c4 => k_is); (case k4 => k_is)
    (case a5 => k_is); (case l5 => k_is); (case c5 => k_is); (case k5 => k_is)
    (case a6 => k_is); (case l6 => k_is); (case c6 => k_is); (case k6 => k_is)
    (case a7 => k_is); (case l7 => k_is); (case c7 => k_is); (case k7 => k_is)
    (case z0 => k_is); (case z1 => k_is); (case z2 => k_is); (case z3 => k_is); (case z4 => k_is); (case z5 => k_is); (case z6 => k_is); (case z7 => k_is); (case z8 => k_is)
    (case y0 => k_is); (case y1 => k_is)
