import PyProof.Rows.All
import Wide.All
import OpenK.AllK
import Wide.FinOn
import HandS.ForMost
import HandS.Wide
import HandS.IsInst
import HandS.Zip
import HandS.TupAny
import HandS.Evl
import HandS.Codes
import HandS.Walk
import HandS.Conv
import HandS.DictComp
import HandS.More
import PySem.Challenge.RW_casefamilies_k03_sizes_and_variables
set_option Elab.async false
set_option linter.unusedVariables false
set_option linter.unusedSimpArgs false
set_option maxRecDepth 100000
set_option maxHeartbeats 4000000
namespace Cf
open PySem L2
def top (i : Nat) : Stmt := PySem.Challenge.pw_casefamilies_k03_sizes_and_variables.main.body.getD i (.Pass ⟨0, 0, 0, 0⟩)
/-- the built-in names that the text leaves as they are -/
structure Blt (mg : Str → Option Value) : Prop where
  int : mg "int" = none
  len : mg "len" = none
  range : mg "range" = none
  list : mg "list" = none
  tuple : mg "tuple" = none
  isinstance : mg "isinstance" = none
  bool : mg "bool" = none
  str : mg "str" = none
  type : mg "type" = none
  max : mg "max" = none
  sum : mg "sum" = none
  set : mg "set" = none
  dict : mg "dict" = none
  sorted : mg "sorted" = none
  enumerate : mg "enumerate" = none
  zip : mg "zip" = none
  all : mg "all" = none
  repr : mg "repr" = none
  min : mg "min" = none
/-- all but what stands at a is as it was -/
def But (a : Addr) (H H' : Hp) : Prop := ∀ b o, b ≠ a → H b = some o → H' b = some o
theorem But.refl (a : Addr) (H : Hp) : But a H H := fun _ _ _ h => h
theorem But.trans {a : Addr} {H H1 H2 : Hp} (x : But a H H1) (y : But a H1 H2) : But a H H2 := fun b o n h => y b o n (x b o n h)
theorem But.of {a : Addr} {H H' : Hp} (x : Same H H') : But a H H' := fun b o _ h => x b o h
theorem But.put {a : Addr} {H : Hp} {o : HO} : But a H (upd H a o) := fun b u n h => by rw [upd_ne n]; exact h
theorem same_new {H : Hp} {p : Addr} (h : H p = none) (o : HO) : Same H (upd H p o) := fun b u q => by rw [upd_ne (ne_of_none q h)]; exact q
/-- the pool of a law stands at a: the script's list, a place in it, the rest of a number, how often was drawn, the salt -/
def PoolAt (H : Hp) (a b : Addr) : Prop := ∃ (ns : List Int) (i v c salt : Int), H a = some (.lst [.ref b, .int i, .int v, .int c, .int salt]) ∧ H b = some (.lst (ns.map V.int)) ∧ ns.length ≤ 63 ∧ 0 ≤ i
theorem pool_ne {a b : Addr} {H : Hp} {ns : List Int} {xs : List V} {c : Addr} (h : H a = some (.lst (.ref c :: xs))) (h' : H b = some (.lst (ns.map V.int))) : a ≠ b := by
  refine ne_of h h' fun e => ?_
  cases ns with
  | nil => cases e
  | cons n r => cases e
def spDraw : Sp := fun vs H Q _ => ∃ (a b : Addr) (many : Int), vs = [.ref a, .int many] ∧ PoolAt H a b ∧ 0 < many ∧ many < 2 ^ 63 ∧
  ∀ (d : Int) (H' : Hp), 0 ≤ d → d < many → PoolAt H' a b → But a H H' → Q (.int d) H'
/-- what a def is to the text: where it stands, what it promises -/
structure At (P : Program) (w : World) (K : PySem.W.Frag) (mg : Str → Option Value) (base : Heap) (x : Str) (k : Nat) (ps : List Str) (sp : Sp) : Prop where
  ex : ∃ (f : Addr) (fd : FuncData), FnOk P w K mg base CX0 k f fd ps sp ∧ Binds K fd ps [] ∧ PySem.W.keepIn K (.ref f) = true ∧ mg x = some (.ref f)
def spLaw (K : PySem.W.Frag) : Sp := fun vs H Q _ => ∃ (a : Addr) (ns : List Int), vs = [.ref a] ∧ SqL K H a (ns.map V.int) ∧ ns.length ≤ 63 ∧ ∀ H', Q (.bl true) H'
theorem none_left {P : Program} {w : World} {K : PySem.W.Frag} {mg : Str → Option Value} {base : Heap} {k : Nat} {f : Addr} {fd : FuncData} {ps : List Str} {sp : Sp} (no : ∀ vs H Q E, ¬ sp vs H Q E) : FnOk P w K mg base CX0 k f fd ps sp :=
  ⟨fun vs H Q E h => absurd h (no vs H Q E), fun A outer s H args us vs Q E _ _ _ _ h => absurd h (no vs H Q E)⟩
end Cf
namespace Cf
open PySem L2
abbrev sSpread : Stmt := top 11
def spSpread : Sp := fun vs H Q _ => ∃ c : Int, vs = [.int c] ∧ ∀ t : Int, Q (.int t) H
section
variable {P : Program} {w : World} {K : PySem.W.Frag} {mg : Str → Option Value} {base : Heap}
theorem scSpread : FnScope ["cell", "mixed", "total", "k"] ["cell"] (defScope sSpread) := ⟨rfl, rfl, rfl, by decide +kernel, rfl, by decide +kernel, by decide +kernel⟩
theorem ok_spread {f : Addr} {fd : FuncData} (F : Fun K "_law_spread" "_law_spread" sSpread f fd) (B : Blt mg) : FnOk P w K mg base CX0 1 f fd ["cell"] spSpread := by
  refine F.ok scSpread (fun vs H Q E h => ?_) (fun cdv A outer s H vs Q E hr h => ?_)
  · obtain ⟨c, rfl, _⟩ := h
    rfl
  obtain ⟨c, rfl, q⟩ := h
  refine ⟨_, pss_cons (ps_set (i := 1) scSpread.nd rfl (.inl rfl) (pe_op op_mod (pe_callTy call_int1 (by rfl) B.int (by decide +kernel) (pa_cons (pv 0) pa_nil)) pe_int))
    (pss_cons (ps_set (i := 2) scSpread.nd rfl (.inl rfl) pe_int)
    (pss_cons (ps_for PassesOwn.never rfl (pi_range1 rfl B.range (pa_cons pe_int pa_nil)) (pg_name (i := 3) scSpread.nd rfl (.inl rfl))
      (pss_cons (ps_set (i := 1) scSpread.nd rfl (.inl rfl) (pe_op op_mod (pe_callTy call_int1 (by rfl) B.int (by decide +kernel)
          (pa_cons (pe_op op_add (pe_op op_add (pe_op op_mul (pv 1) pe_int) pe_int) (pv 3)) pa_nil)) pe_int))
      (pss_one (ps_set (i := 2) scSpread.nd rfl (.inl rfl) (pe_op op_add (pe_op op_mul (pv 2) pe_int) (pv 1))))))
    (pss_one (ps_ret (pv 2))))), ?_⟩
  refine ⟨_, rfl, .inl ⟨_, rfl, ?_⟩⟩
  refine ⟨_, _, rfl, rfl, (by show (0 : Int) < _; decide), ?_⟩
  refine ⟨_, rfl, (by decide), (by decide), ?_⟩
  refine for_range (n := 4) (fun i σ H' => H' = H ∧ ∃ (x m t : Int) (k : Option V), σ = [some (.int x), some (.int m), some (.int t), k]) ⟨rfl, _, _, _, _, rfl⟩ (fun i σ H' hi hp => ?_) (fun σ H' hp => ?_)
  · obtain ⟨rfl, x, m, t, k, rfl⟩ := hp
    refine ⟨_, rfl, _, _, rfl, rfl, .inr ⟨by decide, by decide⟩, _, _, rfl, rfl, _, rfl, _, _, rfl, rfl, .inl ⟨_, rfl, ?_⟩⟩
    refine ⟨_, _, rfl, rfl, (by show (0 : Int) < _; decide), ?_⟩
    refine ⟨_, rfl, _, _, rfl, rfl, .inr ⟨by decide, by decide⟩, _, rfl, _, _, rfl, rfl, ?_⟩
    exact ⟨rfl, _, _, _, _, rfl⟩
  · obtain ⟨rfl, x, m, t, k, rfl⟩ := hp
    exact ⟨_, rfl, q t⟩
end
end Cf
namespace Cf
open PySem L2
abbrev sDraw : Stmt := top 12
section
variable {P : Program} {w : World} {K : PySem.W.Frag} {mg : Str → Option Value} {base : Heap}
theorem scDraw : FnScope ["pool", "many", "cell", "mixed", "value"] ["pool", "many"] (defScope sDraw) := ⟨rfl, rfl, rfl, by decide +kernel, rfl, by decide +kernel, by decide +kernel⟩
theorem at0 {a b c d e : V} : atI [a, b, c, d, e] 0 = some a := rfl
theorem at1 {a b c d e : V} : atI [a, b, c, d, e] 1 = some b := rfl
theorem at2 {a b c d e : V} : atI [a, b, c, d, e] 2 = some c := rfl
theorem at3 {a b c d e : V} : atI [a, b, c, d, e] 3 = some d := rfl
theorem at4 {a b c d e : V} : atI [a, b, c, d, e] 4 = some e := rfl
theorem fits63 {m : Int} (h0 : 0 < m) (h : m < 2 ^ 63) (i : Int) : CDivW i m := wide_div (b := 63) h0 (by omega) (by decide) (by decide)
theorem ok_draw {f g : Addr} {fd gd : FuncData} (F : Fun K "_law_draw" "_law_draw" sDraw f fd) (B : Blt mg) (G : FnOk P w K mg base CX0 1 g gd ["cell"] spSpread) (bG : Binds K gd ["cell"] [])
    (kG : PySem.W.keepIn K (.ref g) = true) (mG : mg "_law_spread" = some (.ref g)) : FnOk P w K mg base CX0 2 f fd ["pool", "many"] spDraw := by
  refine F.ok scDraw (fun vs H Q E h => ?_) (fun cdv A outer s H vs Q E hr h => ?_)
  · obtain ⟨a, b, m, rfl, _⟩ := h
    rfl
  obtain ⟨a, b, m, rfl, ⟨ns, i, v, c, salt, ha, hb, hn, hi⟩, m0, m1, q⟩ := h
  have hab : a ≠ b := pool_ne ha hb
  refine ⟨_, Evl.pss_cut (ps_if (PW.pt (pw_and (pt_cmpR op_le (pe_ix ix_list (pv 0) pe_int (fun _ _ => rfl)) pe_int (nomark _)) (pw_and1 (pt_cmpR op_lt (pe_ix ix_list (pv 0) pe_int (fun _ _ => rfl))
        (pe_callB call_len_seq (by rfl) B.len PySem.boot_len (pa_cons (pe_ix ix_list (pv 0) pe_int (fun _ _ => rfl)) pa_nil)) (nomark _)))))
      (pss_cons (ps_set (i := 2) scDraw.nd rfl (.inl rfl) (pe_ix ix_list (pe_ix ix_list (pv 0) pe_int (fun _ _ => rfl)) (pe_ix ix_list (pv 0) pe_int (fun _ _ => rfl)) (fun _ _ => rfl)))
      (pss_cons (ps_asg (pe_op op_add (pe_ix ix_list (pv 0) pe_int (fun _ _ => rfl)) pe_int) (pg_sub (pv 0) pe_int set_list))
      (pss_cons (ps_asg (pv 2) (pg_sub (pv 0) pe_int set_list))
      (pss_one (ps_if (pt_cmpR op_lt (pv 2) pe_int (nomark _)) (pss_one (ps_asg (pe_call G hr rfl mG kG bG .nil pass0 (pa_cons (pv 2) pa_nil)) (pg_sub (pv 0) pe_int set_list))) pss_nil))))) pss_nil)
    (pss_cons (ps_asg (pe_op op_add (pe_ix ix_list (pv 0) pe_int (fun _ _ => rfl)) pe_int) (pg_sub (pv 0) pe_int set_list))
    (pss_cons (ps_if (pt_cmpR op_le (pe_ix ix_list (pv 0) pe_int (fun _ _ => rfl)) pe_int (nomark _))
      (pss_cons (ps_set (i := 3) scDraw.nd rfl (.inl rfl) (pe_op op_mod (pe_callTy call_int1 (by rfl) B.int (by decide +kernel) (pa_cons
          (pe_op op_add (pe_op op_add (pe_op op_mul (pe_ix ix_list (pv 0) pe_int (fun _ _ => rfl)) pe_int) (pe_op op_mul (pe_ix ix_list (pv 0) pe_int (fun _ _ => rfl)) pe_int)) pe_int) pa_nil)) pe_int))
      (pss_cons (ps_set (i := 3) scDraw.nd rfl (.inl rfl) (pe_op op_mod (pe_callTy call_int1 (by rfl) B.int (by decide +kernel) (pa_cons
          (pe_op op_add (pe_op op_mul (pv 3) pe_int) (pe_ix ix_list (pv 0) pe_int (fun _ _ => rfl))) pa_nil)) pe_int))
      (pss_one (ps_ret (pe_op op_mod (pe_op op_fdiv (pv 3) pe_int) (pv 1)))))) pss_nil)
    (pss_cons (ps_set (i := 4) scDraw.nd rfl (.inl rfl) (pe_op op_mod (pe_callTy call_int1 (by rfl) B.int (by decide +kernel) (pa_cons (pe_ix ix_list (pv 0) pe_int (fun _ _ => rfl)) pa_nil)) (pv 1)))
    (pss_cons (ps_asg (pe_op op_fdivW (pe_ix ix_list (pv 0) pe_int (fun _ _ => rfl)) (pv 1)) (pg_sub (pv 0) pe_int set_list))
    (pss_one (ps_ret (pv 4))))))), ?_⟩
  refine ⟨fun σ H1 => ∃ (i v : Int) (cl : Option V), σ = [some (.ref a), some (.int m), cl, none, none] ∧ H1 a = some (.lst [.ref b, .int i, .int v, .int c, .int salt]) ∧ 0 ≤ i ∧ But a H H1, ?_, ?_⟩
  · refine ⟨_, rfl, _, _, _, _, rfl, rfl, SqL.of ha, at2, _, _, rfl, rfl, _, rfl, ite2 (fun c1 => ?_) (fun c1 => iteF ⟨i, v, none, rfl, ha, hi, But.refl _ _⟩)⟩
    refine ⟨_, rfl, _, _, _, _, rfl, rfl, SqL.of ha, at1, _, rfl, _, _, _, _, rfl, rfl, SqL.of ha, at0, b, _, rfl, .inl (SqL.of hb), _, _, rfl, rfl, _, rfl, ite2 (fun c2 => ?_) (fun c2 => ⟨i, v, none, rfl, ha, hi, But.refl _ _⟩)⟩
    have c2' : i < ((ns.map V.int).length : Int) := of_decide_eq_true c2
    rw [List.length_map] at c2'
    have hin : i.toNat < ns.length := by omega
    have ei : i = ((i.toNat : Nat) : Int) := by omega
    have hat : atI (ns.map V.int) i = some (.int ns[i.toNat]) := at_of ei (by rw [List.getElem?_map, List.getElem?_eq_getElem hin] <;> rfl)
    refine ⟨_, rfl, _, _, _, _, rfl, rfl, SqL.of ha, at0, _, rfl, _, _, _, _, rfl, rfl, SqL.of ha, at1, _, _, _, _, rfl, rfl, SqL.of hb, hat, ?_⟩
    refine ⟨_, rfl, _, _, _, _, rfl, rfl, SqL.of ha, at1, _, _, rfl, rfl, _, rfl, _, _, _, 1, rfl, rfl, ha, rfl, ?_⟩
    refine ⟨_, rfl, _, rfl, _, _, _, 2, rfl, rfl, upd_same, rfl, ?_⟩
    refine ⟨_, rfl, _, _, rfl, rfl, _, rfl, ite2 (fun c3 => ?_) (fun c3 => ?_)⟩
    · refine ⟨_, rfl, _, rfl, fun t => ?_⟩
      refine ⟨_, rfl, _, _, _, 2, rfl, rfl, upd_same, rfl, ?_⟩
      exact ⟨i + 1, t, _, rfl, upd_same, by omega, (But.put.trans But.put).trans But.put⟩
    · exact ⟨i + 1, _, _, rfl, upd_same, by omega, But.put.trans But.put⟩
  · rintro σ H1 ⟨i, v, cl, rfl, ha1, hi1, e1⟩
    refine ⟨_, rfl, _, _, _, _, rfl, rfl, SqL.of ha1, at3, _, _, rfl, rfl, _, rfl, _, _, _, 3, rfl, rfl, ha1, rfl, ?_⟩
    have hb1 : H1 b = some (.lst (ns.map V.int)) := e1 b _ hab.symm hb
    have e2 : ∀ o, But a H (upd H1 a o) := fun o => e1.trans But.put
    refine ⟨_, rfl, _, _, _, _, rfl, rfl, SqL.of upd_same, at2, _, _, rfl, rfl, _, rfl, ite2 (fun c1 => ?_) (fun c1 => ?_)⟩
    · refine ⟨_, rfl, _, _, _, _, rfl, rfl, SqL.of upd_same, at4, _, _, rfl, rfl, .inr ⟨by decide, by decide⟩, _, rfl, _, _, _, _, rfl, rfl, SqL.of upd_same, at3, _, _, rfl, rfl, .inr ⟨by decide, by decide⟩, _, _, rfl, rfl, _, _, rfl, rfl, .inl ⟨_, rfl, _, _, rfl, rfl, (by show (0 : Int) < _; decide), ?_⟩⟩
      refine ⟨_, rfl, _, _, rfl, rfl, .inr ⟨by decide, by decide⟩, _, rfl, _, _, _, _, rfl, rfl, SqL.of upd_same, at3, _, _, rfl, rfl, .inl ⟨_, rfl, _, _, rfl, rfl, (by show (0 : Int) < _; decide), ?_⟩⟩
      refine ⟨_, rfl, _, _, rfl, rfl, ⟨by decide, by decide⟩, _, rfl, _, _, rfl, rfl, m0, ?_⟩
      refine q _ _ (Int.emod_nonneg _ (by omega)) (Int.emod_lt_of_pos _ m0) ⟨ns, i, v, _, salt, upd_same, by rw [upd_ne hab.symm]; exact hb1, hn, hi1⟩ (e2 _)
    · refine ⟨_, rfl, _, _, _, _, rfl, rfl, SqL.of upd_same, at2, .inl ⟨_, rfl, _, rfl, _, _, rfl, rfl, m0, ?_⟩⟩
      refine ⟨_, rfl, _, _, _, _, rfl, rfl, SqL.of upd_same, at2, _, rfl, _, _, rfl, rfl, fits63 m0 m1 _, _, rfl, _, _, _, 2, rfl, rfl, upd_same, rfl, ?_⟩
      refine ⟨_, rfl, ?_⟩
      refine q _ _ (Int.emod_nonneg _ (by omega)) (Int.emod_lt_of_pos _ m0) ⟨ns, i, _, _, salt, upd_same, ?_, hn, hi1⟩ ((e2 _).trans But.put)
      rw [upd_ne hab.symm, upd_ne hab.symm]
      exact hb1
end
end Cf
namespace Cf
open PySem L2
abbrev sPick : Stmt := top 13
abbrev sSpelled : Stmt := top 14
theorem But.seqL {K : PySem.W.Frag} {a p : Addr} {H H' : Hp} {xs : List V} (e : But a H H') (n : p ≠ a) (h : SqL K H p xs) : SqL K H' p xs := by
  rcases h with (h | ⟨o, h⟩) | h
  · exact .inl (.inl (e _ _ n h))
  · exact .inl (.inr ⟨o, e _ _ n h⟩)
  · exact .inr h
theorem But.seqT {K : PySem.W.Frag} {a p : Addr} {H H' : Hp} {xs : List V} (e : But a H H') (n : p ≠ a) (h : SqT K H p xs) : SqT K H' p xs := by
  rcases h with (h | ⟨o, h⟩) | h
  · exact .inl (.inl (e _ _ n h))
  · exact .inl (.inr ⟨o, e _ _ n h⟩)
  · exact .inr h
theorem at_mem {α : Type} {xs : List α} {i : Int} (h0 : 0 ≤ i) (h : i < (xs.length : Int)) : ∃ x, atI xs i = some x ∧ x ∈ xs := by
  have hk : i.toNat < xs.length := by omega
  have ek : ((i.toNat : Nat) : Int) = i := by omega
  have q : atI xs ((i.toNat : Nat) : Int) = some xs[i.toNat] := atI_nat (List.getElem?_eq_getElem hk)
  rw [ek] at q
  exact ⟨_, q, List.getElem_mem hk⟩
def spPick (K : PySem.W.Frag) : Sp := fun vs H Q _ => ∃ (a b p : Addr) (xs : List V), vs = [.ref a, .ref p] ∧ PoolAt H a b ∧ (SqL K H p xs ∨ SqT K H p xs) ∧ p ≠ a ∧ 0 < xs.length ∧ xs.length ≤ 1000000 ∧
  ∀ (x : V) (H' : Hp), x ∈ xs → PoolAt H' a b → But a H H' → Q x H'
/-! ### numbers as words: 1 is a, 26 is z, 27 is aa -/
def spell (n : Nat) : List Nat := if h : n = 0 then [] else spell ((n - 1) / 26) ++ [97 + (n - 1) % 26]
termination_by n
decreasing_by omega
theorem spell_0 : spell 0 = [] := by rw [spell]; rfl
theorem spell_pos {n : Nat} (h : 0 < n) : spell n = spell ((n - 1) / 26) ++ [97 + (n - 1) % 26] := by
  rw [spell, dif_neg (by omega)]
def most : Nat → Nat
  | 0 => 0
  | k + 1 => 26 * most k + 26
theorem spell_len : ∀ (k n : Nat), n ≤ most k → (spell n).length ≤ k
  | 0, n, h => by
    have e : n = 0 := by have h' : n ≤ 0 := h; omega
    subst e
    rw [spell_0]
    exact Nat.le_refl _
  | k + 1, n, h => by
    by_cases e : n = 0
    · subst e; rw [spell_0]; exact Nat.zero_le _
    · have h' : n ≤ 26 * most k + 26 := h
      have ih := spell_len k ((n - 1) / 26) (by omega)
      rw [spell_pos (by omega), List.length_append]
      exact Nat.succ_le_succ ih
theorem spell_ne {n : Nat} (h : 0 < n) : spell n ≠ [] := by rw [spell_pos h]; simp
theorem spell_az (n : Nat) : ∀ c ∈ spell n, 97 ≤ c ∧ c ≤ 122 := by
  induction n using Nat.strongRecOn with
  | _ n ih =>
    intro c hc
    by_cases e : n = 0
    · subst e; rw [spell_0] at hc; cases hc
    · rw [spell_pos (by omega)] at hc
      rcases List.mem_append.mp hc with h | h
      · exact ih _ (by omega) c h
      · rw [List.mem_singleton.mp h]; omega
theorem spell_inj : ∀ {n m : Nat}, spell n = spell m → n = m := by
  intro n
  induction n using Nat.strongRecOn with
  | _ n ih =>
    intro m h
    by_cases e : n = 0
    · subst e
      by_cases e2 : m = 0
      · exact e2.symm
      · rw [spell_0] at h; exact absurd h.symm (spell_ne (by omega))
    · by_cases e2 : m = 0
      · subst e2; rw [spell_0] at h; exact absurd h (spell_ne (by omega))
      · rw [spell_pos (by omega : 0 < n), spell_pos (by omega : 0 < m)] at h
        have h1 := List.append_inj' h rfl
        have h2 := ih _ (by omega) h1.1
        have h3 : 97 + (n - 1) % 26 = 97 + (m - 1) % 26 := List.head_eq_of_cons_eq h1.2
        omega
/-- a word: 1 to 12 letters -/
def WordOk (w : Str) : Prop := 0 < w.length ∧ w.length ≤ 12 ∧ ∀ c ∈ w.cps.toList, 97 ≤ c ∧ c ≤ 122
theorem spell_ok {n : Nat} (h0 : 0 < n) (h : n ≤ most 12) : WordOk (SX.S (spell n)) := by
  refine ⟨?_, ?_, ?_⟩
  · rw [SX.S_len]; exact List.length_pos_iff.mpr (spell_ne h0)
  · rw [SX.S_len]; exact spell_len 12 n h
  · intro c hc
    exact spell_az n c (by simpa using hc)
def spSpelled : Sp := fun vs H Q _ => ∃ n : Nat, vs = [.int (n : Int)] ∧ n ≤ most 13 ∧ Q (.str (SX.S (spell n))) H
section
variable {P : Program} {w : World} {K : PySem.W.Frag} {mg : Str → Option Value} {base : Heap}
theorem scPick : FnScope ["pool", "items"] ["pool", "items"] (defScope sPick) := ⟨rfl, rfl, rfl, by decide +kernel, rfl, by decide +kernel, by decide +kernel⟩
theorem ok_pick {f g : Addr} {fd gd : FuncData} (F : Fun K "_law_pick" "_law_pick" sPick f fd) (B : Blt mg) (G : FnOk P w K mg base CX0 2 g gd ["pool", "many"] spDraw) (bG : Binds K gd ["pool", "many"] [])
    (kG : PySem.W.keepIn K (.ref g) = true) (mG : mg "_law_draw" = some (.ref g)) : FnOk P w K mg base CX0 3 f fd ["pool", "items"] (spPick K) := by
  refine F.ok scPick (fun vs H Q E h => ?_) (fun cdv A outer s H vs Q E hr h => ?_)
  · obtain ⟨a, b, p, xs, rfl, _⟩ := h
    rfl
  obtain ⟨a, b, p, xs, rfl, hp, hx, hne, h0, h1, q⟩ := h
  refine ⟨_, pss_one (ps_ret (pe_ix ix_seq (pv 1) (pe_call G hr rfl mG kG bG .nil pass0 (pa_cons (pv 0) (pa_cons (pe_callB call_len_seq (by rfl) B.len PySem.boot_len (pa_cons (pv 1) pa_nil)) pa_nil))) (fun _ _ => rfl))), ?_⟩
  refine ⟨_, rfl, _, rfl, _, rfl, p, xs, rfl, hx, a, b, _, rfl, hp, by omega, by omega, fun d H' d0 d1 hp' e => ?_⟩
  obtain ⟨x, hxa, hm⟩ := at_mem d0 d1
  rcases hx with hx | hx
  · exact .inl ⟨p, xs, d, x, rfl, rfl, e.seqL hne hx, hxa, q x H' hm hp' e⟩
  · exact .inr (.inl ⟨p, xs, d, x, rfl, rfl, e.seqT hne hx, hxa, q x H' hm hp' e⟩)
theorem scSpelled : FnScope ["number", "word", "left"] ["number"] (defScope sSpelled) := ⟨rfl, rfl, rfl, by decide +kernel, rfl, by decide +kernel, by decide +kernel⟩
theorem alpha (j : Nat) (h : j < 26) : atI (Str.ofString "abcdefghijklmnopqrstuvwxyz").cps.toList (j : Int) = some (97 + j) := by
  have q : ∀ j : Fin 26, (Str.ofString "abcdefghijklmnopqrstuvwxyz").cps.toList[j.val]? = some (97 + j.val) := by decide +kernel
  exact atI_nat (q ⟨j, h⟩)
theorem most13 : most 13 < 26 ^ 14 := by decide
theorem ok_spelled {f : Addr} {fd : FuncData} (F : Fun K "_law_spelled" "_law_spelled" sSpelled f fd) (B : Blt mg) : FnOk P w K mg base CX0 1 f fd ["number"] spSpelled := by
  refine F.ok scSpelled (fun vs H Q E h => ?_) (fun cdv A outer s H vs Q E hr h => ?_)
  · obtain ⟨n, rfl, _⟩ := h
    rfl
  obtain ⟨n, rfl, hn, q⟩ := h
  refine ⟨_, pss_cons (ps_set (i := 1) scSpelled.nd rfl (.inl rfl) pe_str) (pss_cons (ps_set (i := 2) scSpelled.nd rfl (.inl rfl) (pv 0))
    (pss_cons (ps_while PassesOwn.never (pt_cmpR op_gt (pv 2) pe_int (nomark _))
      (pss_cons (ps_set (i := 1) scSpelled.nd rfl (.inl rfl) (pe_op op_add_str (pe_ix ix_str pe_str (pe_op op_mod (pe_callTy call_int1 (by rfl) B.int (by decide +kernel) (pa_cons (pe_op op_sub (pv 2) pe_int) pa_nil)) pe_int) (fun _ _ => rfl)) (pv 1)))
      (pss_one (ps_set (i := 2) scSpelled.nd rfl (.inl rfl) (pe_op op_fdiv (pe_op op_sub (pv 2) pe_int) pe_int)))))
    (pss_one (ps_ret (pv 1))))), ?_⟩
  refine ⟨_, rfl, ?_⟩
  refine while_by (fun σ H' => H' = H ∧ ∃ (l : Nat) (u : List Nat), σ = [some (.int (n : Int)), some (.str (SX.S u)), some (.int (l : Int))] ∧ spell l ++ u = spell n)
    (fun σ _ => match σ with | [_, _, some (.int l)] => l.toNat | _ => 0) ⟨rfl, n, [], rfl, by simp⟩ (fun σ H' hp => ?_) (fun σ H' Q1 Q2 hm hc => ?_)
  · obtain ⟨rfl, l, u, rfl, hu⟩ := hp
    have hlen : (spell l).length + u.length ≤ 13 := by
      have h1 := spell_len 13 n hn
      rw [← hu, List.length_append] at h1
      exact h1
    refine ⟨_, rfl, _, _, rfl, rfl, _, rfl, ite2 (fun c => ?_) (fun c => ?_)⟩
    · have hl : 0 < l := by have c' : (0 : Int) < (l : Int) := of_decide_eq_true c; omega
      have el : (l : Int) - 1 = ((l - 1 : Nat) : Int) := by omega
      refine ⟨_, rfl, _, _, rfl, rfl, .inl ⟨_, rfl, _, _, rfl, rfl, (by show (0 : Int) < _; decide), ?_⟩⟩
      have em : ((l : Int) - 1) % 26 = (((l - 1) % 26 : Nat) : Int) := by omega
      refine ⟨_, _, 97 + (l - 1) % 26, rfl, rfl, (by decide +kernel), (by rw [em]; exact alpha _ (Nat.mod_lt _ (by decide))), _, rfl, _, _, rfl, rfl, ?_, ?_⟩
      · show 1 + (SX.S u).length ≤ sizeLine
        rw [SX.S_len]
        exact Nat.le_trans (by omega : 1 + u.length ≤ 14) (by decide)
      refine ⟨_, rfl, _, _, rfl, rfl, _, _, rfl, rfl, ⟨by decide, by decide⟩, ?_⟩
      have ed : ((l : Int) - 1) / 26 = (((l - 1) / 26 : Nat) : Int) := by omega
      refine ⟨⟨rfl, (l - 1) / 26, (97 + (l - 1) % 26) :: u, ?_, ?_⟩, ?_⟩
      · show [some (V.int (n : Int)), some (V.str (SX.S [97 + (l - 1) % 26] ++ SX.S u)), some (V.int (((l : Int) - 1) / 26))] = _
        rw [SX.S_cat, ed]
        rfl
      · rw [spell_pos hl, List.append_assoc] at hu
        exact hu
      · show (((l : Int) - 1) / 26).toNat < ((l : Int)).toNat
        omega
    · have hl : l = 0 := by have c' : ¬ (0 : Int) < (l : Int) := of_decide_eq_false (Bool.eq_false_iff.mpr c); omega
      subst hl
      rw [spell_0, List.nil_append] at hu
      refine ⟨_, rfl, ?_⟩
      rw [hu]
      exact q
  · obtain ⟨x, e1, i, j, e2, e3, k, e4, h⟩ := hc
    exact ⟨x, e1, i, j, e2, e3, k, e4, hm _ _ h⟩
end
end Cf
namespace Cf
open PySem L2
abbrev sWords : Stmt := top 15
abbrev sCons : Stmt := top 16
abbrev nV (n : Nat) : V := .int (n : Int)
def from_ (x : Nat) (ns : List Nat) : Nat := (ns.filter fun y => decide (x ≤ y)).length
theorem from_le (x : Nat) (ns : List Nat) : from_ x ns ≤ ns.length := List.length_filter_le _ _
theorem from_mono (x : Nat) (ns : List Nat) : from_ (x + 1) ns ≤ from_ x ns := by
  induction ns with
  | nil => exact Nat.le_refl _
  | cons y r ih =>
    unfold from_ at ih ⊢
    rw [List.filter_cons, List.filter_cons]
    by_cases h : x + 1 ≤ y
    · rw [if_pos (decide_eq_true h), if_pos (decide_eq_true (by omega : x ≤ y))]
      exact Nat.succ_le_succ ih
    · rw [if_neg (by simpa using h)]
      split
      · exact Nat.le_succ_of_le ih
      · exact ih
theorem from_step {x : Nat} {ns : List Nat} (h : x ∈ ns) : from_ (x + 1) ns + 1 ≤ from_ x ns := by
  induction ns with
  | nil => cases h
  | cons y r ih =>
    by_cases e : x = y
    · subst e
      have m := from_mono x r
      unfold from_ at m ⊢
      rw [List.filter_cons, List.filter_cons, if_neg (by simp), if_pos (by simp)]
      exact Nat.succ_le_succ m
    · have ih' := ih ((List.mem_cons.mp h).resolve_left e)
      unfold from_ at ih' ⊢
      rw [List.filter_cons, List.filter_cons]
      by_cases c : x + 1 ≤ y
      · rw [if_pos (decide_eq_true c), if_pos (decide_eq_true (by omega : x ≤ y))]
        exact Nat.succ_le_succ ih'
      · rw [if_neg (by simpa using c), if_neg (by simp; omega)]
        exact ih'
theorem inV_nat (x : Nat) (ns : List Nat) : inV (nV x) (ns.map nV) = decide (x ∈ ns) := by
  unfold inV
  induction ns with
  | nil => rfl
  | cons y r ih =>
    rw [List.map_cons, List.any_cons, ih]
    show (((y : Int) == (x : Int)) || decide (x ∈ r)) = decide (x ∈ y :: r)
    by_cases e : x = y
    · subst e; simp
    · have e' : ¬ (y : Int) = (x : Int) := by omega
      simp [e, e']
theorem flat_nat (ns : List Nat) : (ns.map nV).all flatV = true := by simp [flatV]
def spWords : Sp := fun vs H Q _ => ∃ (a b : Addr) (many : Nat), vs = [.ref a, nV many] ∧ PoolAt H a b ∧ many ≤ 100 ∧
  ∀ (ws : List Str) (p : Addr) (H' : Hp), ws.length = many → ws.Nodup → (∀ w ∈ ws, WordOk w) → H p = none → H' p = some (.lst (ws.map V.str)) → PoolAt H' a b → But a H H' → Q (.ref p) H'
section
variable {P : Program} {w : World} {K : PySem.W.Frag} {mg : Str → Option Value} {base : Heap}
theorem scWords : FnScope ["pool", "many", "taken", "k", "number"] ["pool", "many"] (defScope sWords) := ⟨rfl, rfl, rfl, by decide +kernel, rfl, by decide +kernel, by decide +kernel⟩
/-- the greatest number that is drawn -/
theorem pick_le {d : Int} (h0 : 0 ≤ d) (h1 : d < 5) : ∃ m : Int, atI [V.int 26, .int 702, .int 18278, .int 475254, .int 95428956661682176] d = some (.int m) ∧ 0 < m ∧ m ≤ 95428956661682176 := by
  have e : d = 0 ∨ d = 1 ∨ d = 2 ∨ d = 3 ∨ d = 4 := by omega
  rcases e with rfl | rfl | rfl | rfl | rfl
  · exact ⟨_, rfl, by decide, by decide⟩
  · exact ⟨_, rfl, by decide, by decide⟩
  · exact ⟨_, rfl, by decide, by decide⟩
  · exact ⟨_, rfl, by decide, by decide⟩
  · exact ⟨_, rfl, by decide, by decide⟩
theorem pool_upd {H : Hp} {a b p : Addr} {o : HO} (h : PoolAt H a b) (n : p ≠ a) (m : p ≠ b) : PoolAt (upd H p o) a b := by
  obtain ⟨ns, i, v, c, s, h1, h2, h3, h4⟩ := h
  exact ⟨ns, i, v, c, s, by rw [upd_ne n.symm]; exact h1, by rw [upd_ne m.symm]; exact h2, h3, h4⟩
theorem pool_same {H H' : Hp} {a b : Addr} (h : PoolAt H a b) (e : Same H H') : PoolAt H' a b := by
  obtain ⟨ns, i, v, c, s, h1, h2, h3, h4⟩ := h
  exact ⟨ns, i, v, c, s, e _ _ h1, e _ _ h2, h3, h4⟩
theorem pool_new {H : Hp} {a b p : Addr} {o : HO} (h : PoolAt H a b) (n : H p = none) : PoolAt (upd H p o) a b := pool_same h (same_new n o)
theorem pool_a {H : Hp} {a b p : Addr} (h : PoolAt H a b) (n : H p = none) : p ≠ a := by
  obtain ⟨ns, i, v, c, s, h1, h2, h3, h4⟩ := h
  exact (ne_of_none h1 n).symm
theorem pool_b {H : Hp} {a b p : Addr} (h : PoolAt H a b) (n : H p = none) : p ≠ b := by
  obtain ⟨ns, i, v, c, s, h1, h2, h3, h4⟩ := h
  exact (ne_of_none h2 n).symm
theorem ok_words {f g e : Addr} {fd gd ed : FuncData} (F : Fun K "_law_words" "_law_words" sWords f fd) (B : Blt mg) (G : FnOk P w K mg base CX0 2 g gd ["pool", "many"] spDraw) (bG : Binds K gd ["pool", "many"] [])
    (kG : PySem.W.keepIn K (.ref g) = true) (mG : mg "_law_draw" = some (.ref g)) (S : FnOk P w K mg base CX0 1 e ed ["number"] spSpelled) (bS : Binds K ed ["number"] []) (kS : PySem.W.keepIn K (.ref e) = true) (mS : mg "_law_spelled" = some (.ref e)) :
    FnOk P w K mg base CX0 3 f fd ["pool", "many"] spWords := by
  refine F.ok scWords (fun vs H Q E h => ?_) (fun cdv A outer s H vs Q E hr h => ?_)
  · obtain ⟨a, b, m, rfl, _⟩ := h
    rfl
  obtain ⟨a, b, m, rfl, hp, hm, q⟩ := h
  have nd := scWords.nd
  refine ⟨_, pss_cons (ps_set (i := 2) nd rfl (.inl rfl) (pe_lst pa_nil))
    (pss_cons (ps_for PassesOwn.never rfl (pi_range1 rfl B.range (pa_cons (pv 1) pa_nil)) (pg_name (i := 3) nd rfl (.inl rfl))
      (pss_cons (ps_set (i := 4) nd rfl (.inl rfl) (pe_op op_add pe_int (pe_call G hr rfl mG kG bG .nil pass0 (pa_cons (pv 0) (pa_cons
          (pe_ix ix_tup (pe_tup (pa_cons pe_int (pa_cons pe_int (pa_cons pe_int (pa_cons pe_int (pa_cons pe_int pa_nil)))))) (pe_call G hr rfl mG kG bG .nil pass0 (pa_cons (pv 0) (pa_cons pe_int pa_nil))) (fun _ _ => rfl)) pa_nil)))))
      (pss_cons (ps_while PassesOwn.never (pt_cmpR op_in_seq (pv 4) (pv 2) (by rfl)) (pss_one (ps_set (i := 4) nd rfl (.inl rfl) (pe_op op_add (pv 4) pe_int))))
      (pss_one (ps_expr (pe_bm PySem.F.plainAttrs_list PySem.F.slot_list_append PySem.F.type_list_append mt_append (pv 2) (pa_cons (pv 4) pa_nil)))))))
    (pss_one (ps_ret (pe_lc (own := [("number", 4)]) (g := gName 4) (tt := tYes) rfl nd (pi_list (pv 2)) (blkOk_by (N := ["pool", "many", "taken", "k", "number"]) (sc := defScope sWords) (by decide +kernel))
      (fun _ _ _ _ _ => pg_name (i := 4) nd rfl (.inl rfl)) (fun _ _ _ _ _ => pts_nil) (fun _ _ _ _ _ => pe_call S (hr.mono (by decide)) rfl mS kS bS .nil pass0 (pa_cons (pv 4) pa_nil)))))), ?_⟩
  refine ⟨(by show 0 ≤ sizeLine; decide), fun p np => ?_⟩
  have npa : p ≠ a := pool_a hp np
  have npb : p ≠ b := pool_b hp np
  refine ⟨_, rfl, _, rfl, by omega, by omega, ?_⟩
  refine for_range (n := m) (fun i σ H1 => ∃ (ns : List Nat) (kv nv : Option V), σ = [some (.ref a), some (nV m), some (.ref p), kv, nv] ∧ H1 p = some (.lst (ns.map nV)) ∧ ns.length = i ∧ ns.Nodup ∧ (∀ n ∈ ns, 0 < n ∧ n ≤ 95428956661682176 + i) ∧ PoolAt H1 a b ∧ But a H H1)
    ⟨[], none, none, rfl, upd_same, rfl, List.nodup_nil, fun _ h => (by cases h), pool_new hp np, But.of (same_new np _)⟩ (fun i σ H1 hi h => ?_) (fun σ H1 h => ?_)
  · obtain ⟨ns, kv, nv, rfl, h1, hl, hnd, hns, hp1, e1⟩ := h
    refine ⟨_, rfl, (by show 5 ≤ sizeLine; decide), fun t nt => ?_⟩
    refine ⟨_, rfl, a, b, 5, rfl, pool_new hp1 nt, by decide, by decide, fun d H2 d0 d1 hp2 e2 => ?_⟩
    have tna : t ≠ a := pool_a hp1 nt
    obtain ⟨mx, hat, mx0, mx1⟩ := pick_le d0 d1
    refine ⟨t, _, d, _, rfl, rfl, SqT.of (e2 _ _ tna upd_same), hat, ?_⟩
    refine ⟨a, b, mx, rfl, hp2, mx0, by omega, fun x H3 x0 x1 hp3 e3 => ?_⟩
    refine ⟨_, _, rfl, rfl, ?_⟩
    have e13 : But a H1 H3 := ((But.of (same_new nt _)).trans e2).trans e3
    have h3 : H3 p = some (.lst (ns.map nV)) := e13 _ _ npa h1
    have ex : (1 : Int) + x = ((x.toNat + 1 : Nat) : Int) := by omega
    refine while_by (fun σ H' => H' = H3 ∧ ∃ y : Nat, σ = [some (.ref a), some (nV m), some (.ref p), some (.int (0 + (i : Int))), some (nV y)] ∧ 0 < y ∧ y + from_ y ns ≤ 95428956661682176 + ns.length)
      (fun σ _ => match σ with | [_, _, _, _, some (.int l)] => from_ l.toNat ns | _ => 0) ⟨rfl, x.toNat + 1, ?_, by omega, ?_⟩ (fun σ H' hw => ?_) (fun σ H' Q1 Q2 hmn hc => ?_)
    · show [some (V.ref a), some (nV m), some (V.ref p), some (V.int (0 + (i : Int))), some (V.int (1 + x))] = _
      rw [ex]
    · have := from_le (x.toNat + 1) ns
      omega
    · obtain ⟨rfl, y, rfl, y0, y1⟩ := hw
      refine ⟨_, rfl, _, rfl, p, _, rfl, .inl (SqL.of h3), rfl, flat_nat ns, _, rfl, ?_⟩
      show if inV (nV y) (ns.map nV) = true then _ else _
      rw [inV_nat]
      refine ite2 (fun c => ?_) (fun c => ?_)
      · have hy : y ∈ ns := of_decide_eq_true c
        have st := from_step hy
        refine ⟨_, rfl, _, _, rfl, rfl, ⟨rfl, y + 1, rfl, by omega, by omega⟩, ?_⟩
        show from_ ((y : Int) + 1).toNat ns < from_ ((y : Int)).toNat ns
        have e1 : ((y : Int) + 1).toNat = y + 1 := by omega
        have e2 : ((y : Int)).toNat = y := by omega
        rw [e1, e2]
        omega
      · have hy : y ∉ ns := fun h => c (decide_eq_true h)
        refine ⟨_, rfl, .inl ⟨rfl, _, SqL.of h3⟩, _, rfl, p, _, _, rfl, rfl, h3, ?_, ?_⟩
        · rw [List.length_map]; exact small1000 (by omega)
        refine ⟨ns ++ [y], _, _, rfl, ?_, ?_, ?_, ?_, pool_upd hp3 npa npb, ?_⟩
        · rw [upd_same, List.map_append]
          all_goals rfl
        · rw [List.length_append]
          exact congrArg (· + 1) hl
        · exact List.nodup_append.mpr ⟨hnd, (by simp), fun u hu v hv => by rw [List.mem_singleton.mp hv]; rintro rfl; exact hy hu⟩
        · intro n hn
          rcases List.mem_append.mp hn with h | h
          · have := hns n h; omega
          · rw [List.mem_singleton.mp h]; omega
        · exact fun c o hc hco => by rw [upd_ne (ne_of_none hco np)]; exact (e1.trans e13) _ _ hc hco
    · obtain ⟨x1, e1', x2, e2', p', xs', r1, r2, r3, r4, k, r5, h⟩ := hc
      exact ⟨x1, e1', x2, e2', p', xs', r1, r2, r3, r4, k, r5, hmn _ _ h⟩
  · obtain ⟨ns, kv, nv, rfl, h1, hl, hnd, hns, hp1, e1⟩ := h
    refine ⟨_, rfl, p, rfl, ⟨_, SqL.of h1⟩, fun D nD => ?_⟩
    refine lc_list (xs := ns.map nV) (fun i H' => H' D = some (.lst ((ns.take i).map fun n => V.str (SX.S (spell n)))) ∧ Same H1 H') ⟨upd_same, same_new nD _⟩ (fun i H' _ hh => SqL.of (hh.2 _ _ h1)) (fun i x H' hx hh => ?_) (fun H' hh => ?_)
    · rw [List.getElem?_map] at hx
      obtain ⟨n, hn, rfl⟩ := Option.map_eq_some_iff.mp hx
      have hb := hns n (List.mem_of_getElem? hn)
      refine ⟨rfl, ?_⟩
      refine ⟨_, rfl, n, rfl, ?_, _, hh.1, ?_, ?_, ?_⟩
      · exact Nat.le_trans hb.2 (Nat.le_trans (by omega : _ ≤ 95428956661682176 + 100) (by decide))
      · rw [List.length_map, List.length_take]
        exact small1000 (by omega)
      · rw [upd_same, List.take_add_one, List.map_append, hn]
        all_goals rfl
      · exact fun c o hc => by rw [upd_ne (ne_of_none hc nD)]; exact hh.2 _ _ hc
    · obtain ⟨hD, sm⟩ := hh
      rw [List.length_map, List.take_length] at hD
      refine q (ns.map fun n => SX.S (spell n)) D H' (by rw [List.length_map, hl]) ?_ ?_ ?_ (by rw [hD, List.map_map]; rfl) (pool_same hp1 sm) (e1.trans (But.of sm))
      · exact List.Pairwise.map _ (fun x y (h : x ≠ y) e => h (spell_inj (SX.S_inj e))) hnd
      · intro w hw
        obtain ⟨n, hn, rfl⟩ := List.mem_map.mp hw
        have hb := hns n hn
        exact spell_ok hb.1 (Nat.le_trans hb.2 (Nat.le_trans (by omega : _ ≤ 95428956661682176 + 100) (by decide)))
      · cases z : H D with
        | none => rfl
        | some o =>
          by_cases zz : D = a
          · exact absurd zz (pool_a hp1 nD)
          · rw [e1 D o zz z] at nD; cases nD
end
end Cf
namespace Cf
open PySem L2
/-- a constructor's pair stands at q -/
def PairAt (H : Hp) (q : Addr) (c : Str × Nat) : Prop := H q = some (.tup [.str c.1, nV c.2])
/-- constructors stand at p -/
def ConsAt (H : Hp) (p : Addr) (cs : List (Str × Nat)) : Prop := ∃ ps : List Addr, H p = some (.tup (ps.map V.ref)) ∧ Paired (PairAt H) ps cs
structure ConsOk (cs : List (Str × Nat)) : Prop where
  len : cs.length ≤ 5
  nd : (cs.map (·.1)).Nodup
  word : ∀ c ∈ cs, WordOk c.1
  ar : ∀ c ∈ cs, c.2 ≤ 2
  leaf : ∃ c ∈ cs, c.2 = 0
theorem pairs_keep {H H' : Hp} {ps : List Addr} {cs : List (Str × Nat)} (h : Paired (PairAt H) ps cs) (e : ∀ q xs, H q = some (.tup xs) → H' q = some (.tup xs)) : Paired (PairAt H') ps cs := Paired.mapP h fun _ _ q => e _ _ q
/-- tuples stand on -/
def KeepT (H H' : Hp) : Prop := ∀ q xs, H q = some (.tup xs) → H' q = some (.tup xs)
theorem KeepT.trans {H H1 H2 : Hp} (x : KeepT H H1) (y : KeepT H1 H2) : KeepT H H2 := fun q xs h => y q xs (x q xs h)
theorem KeepT.of {H H' : Hp} (x : Same H H') : KeepT H H' := fun q _ h => x q _ h
theorem KeepT.but {H H' : Hp} {a b : Addr} (x : But a H H') (h : PoolAt H a b) : KeepT H H' := fun q xs hq => by
  obtain ⟨ns, i, v, c, s, h1, _⟩ := h
  exact x q _ (ne_of hq h1 (by intro z; cases z)) hq
theorem ConsAt.keep {H H' : Hp} {p : Addr} {cs : List (Str × Nat)} (h : ConsAt H p cs) (e : KeepT H H') : ConsAt H' p cs := by
  obtain ⟨ps, h1, h2⟩ := h
  exact ⟨ps, e _ _ h1, pairs_keep h2 e⟩
def table : List (List Nat) := [[0, 1], [0, 1, 2], [0, 0, 1], [0, 2], [1, 0, 0, 2], [0, 2, 0], [1, 1, 0], [2, 0, 0], [0, 1, 0, 1, 2], [0, 0]]
theorem table_ok : ∀ ar ∈ table, ar.length ≤ 5 ∧ (∀ n ∈ ar, n ≤ 2) ∧ 0 ∈ ar := by decide
def spCons : Sp := fun vs H Q _ => ∃ (a b : Addr), vs = [.ref a] ∧ PoolAt H a b ∧ ∀ (cs : List (Str × Nat)) (p : Addr) (H' : Hp), ConsOk cs → H p = none → ConsAt H' p cs → PoolAt H' a b → But a H H' → Q (.ref p) H'
section
variable {P : Program} {w : World} {K : PySem.W.Frag} {mg : Str → Option Value} {base : Heap}
theorem scCons : FnScope ["pool", "arities", "words", "k"] ["pool"] (defScope sCons) := ⟨rfl, rfl, rfl, by decide +kernel, rfl, by decide +kernel, by decide +kernel⟩
theorem But.none {a p : Addr} {H H' : Hp} (e : But a H H') (h : H' p = Option.none) (ha : H' a ≠ Option.none) : H p = Option.none := by
  cases z : H p with
  | none => rfl
  | some o =>
    by_cases zz : p = a
    · exact absurd (zz ▸ h) ha
    · rw [e p o zz z] at h; cases h
theorem pool_some {H : Hp} {a b : Addr} (h : PoolAt H a b) : H a ≠ Option.none := by
  obtain ⟨ns, i, v, c, s, h1, _⟩ := h
  rw [h1]; intro z; cases z
theorem ok_cons {f g e : Addr} {fd gd ed : FuncData} (F : Fun K "_law_constructors" "_law_constructors" sCons f fd) (B : Blt mg) (G : FnOk P w K mg base CX0 2 g gd ["pool", "many"] spDraw) (bG : Binds K gd ["pool", "many"] [])
    (kG : PySem.W.keepIn K (.ref g) = true) (mG : mg "_law_draw" = some (.ref g)) (S : FnOk P w K mg base CX0 3 e ed ["pool", "many"] spWords) (bS : Binds K ed ["pool", "many"] []) (kS : PySem.W.keepIn K (.ref e) = true) (mS : mg "_law_words" = some (.ref e)) :
    FnOk P w K mg base CX0 4 f fd ["pool"] spCons := by
  refine F.ok scCons (fun vs H Q E h => ?_) (fun cdv A outer s H vs Q E hr h => ?_)
  · obtain ⟨a, b, rfl, _⟩ := h
    rfl
  obtain ⟨a, b, rfl, hp, q⟩ := h
  have nd := scCons.nd
  have two : ∀ {X : Cx} {i j : Int} {k1 k2 p1 p2 p3 : _} {kk : Nat}, PE X (.Tuple [.Constant (.int i) k1 p1, .Constant (.int j) k2 p2] kk p3) (tTup (tCons (tC (.int i)) (tCons (tC (.int j)) tNil))) := pe_tup (pa_cons pe_int (pa_cons pe_int pa_nil))
  have three : ∀ {X : Cx} {i j l : Int} {k1 k2 k3 p1 p2 p3 p4 : _} {kk : Nat}, PE X (.Tuple [.Constant (.int i) k1 p1, .Constant (.int j) k2 p2, .Constant (.int l) k3 p3] kk p4) (tTup (tCons (tC (.int i)) (tCons (tC (.int j)) (tCons (tC (.int l)) tNil)))) := pe_tup (pa_cons pe_int (pa_cons pe_int (pa_cons pe_int pa_nil)))
  refine ⟨_, pss_cons (ps_set (i := 1) nd rfl (.inr rfl) (pe_ix ix_tup (pe_tup (pa_cons two (pa_cons three (pa_cons three (pa_cons two (pa_cons (pe_tup (pa_cons pe_int (pa_cons pe_int (pa_cons pe_int (pa_cons pe_int pa_nil)))))
      (pa_cons three (pa_cons three (pa_cons three (pa_cons (pe_tup (pa_cons pe_int (pa_cons pe_int (pa_cons pe_int (pa_cons pe_int (pa_cons pe_int pa_nil)))))) (pa_cons two pa_nil)))))))))))
      (pe_call G (hr.mono (by decide)) rfl mG kG bG .nil pass0 (pa_cons (pv 0) (pa_cons pe_int pa_nil))) (fun _ _ => rfl)))
    (pss_cons (ps_set (i := 2) nd rfl (.inr rfl) (pe_call S hr rfl mS kS bS .nil pass0 (pa_cons (pv 0) (pa_cons (pe_callB call_len_seq (by rfl) B.len PySem.boot_len (pa_cons (pv 1) pa_nil)) pa_nil))))
    (pss_one (ps_ret (pe_callTy call_tuple_of (by rfl) B.tuple (by decide +kernel) (pa_cons
      (pe_lc (own := [("k", 3)]) (g := gName 3) (tt := tYes) rfl nd (pi_range1 rfl B.range (pa_cons (pe_callB call_len_seq (by rfl) B.len PySem.boot_len (pa_cons (pv 1) pa_nil)) pa_nil))
        (blkOk_by (N := ["pool", "arities", "words", "k"]) (sc := defScope sCons) (by decide +kernel)) (fun _ _ _ _ _ => pg_name (i := 3) nd rfl (.inl rfl)) (fun _ _ _ _ _ => pts_nil)
        (fun _ _ _ _ _ => pe_tup (pa_cons (pe_ix (r := rIxL K) ix_list (pv 2) (pv 3) (fun _ _ => rfl)) (pa_cons (pe_ix (r := rIxT K) ix_tup (pv 1) (pv 3) (fun _ _ => rfl)) pa_nil)))) pa_nil))))), ?_⟩
  refine ⟨(by show 2 ≤ sizeLine; decide), fun t1 n1 => ?_⟩
  refine ⟨(by show 3 ≤ sizeLine; decide), fun t2 n2 => ?_⟩
  refine ⟨(by show 3 ≤ sizeLine; decide), fun t3 n3 => ?_⟩
  refine ⟨(by show 2 ≤ sizeLine; decide), fun t4 n4 => ?_⟩
  refine ⟨(by show 4 ≤ sizeLine; decide), fun t5 n5 => ?_⟩
  refine ⟨(by show 3 ≤ sizeLine; decide), fun t6 n6 => ?_⟩
  refine ⟨(by show 3 ≤ sizeLine; decide), fun t7 n7 => ?_⟩
  refine ⟨(by show 3 ≤ sizeLine; decide), fun t8 n8 => ?_⟩
  refine ⟨(by show 5 ≤ sizeLine; decide), fun t9 n9 => ?_⟩
  refine ⟨(by show 2 ≤ sizeLine; decide), fun t10 n10 => ?_⟩
  refine ⟨(by show 10 ≤ sizeLine; decide), fun T nT => ?_⟩
  have r10 := same_new nT (HO.tup [.ref t1, .ref t2, .ref t3, .ref t4, .ref t5, .ref t6, .ref t7, .ref t8, .ref t9, .ref t10])
  have r9 := (same_new n10 (HO.tup [.int 0, .int 0])).trans r10
  have r8 := (same_new n9 (HO.tup [.int 0, .int 1, .int 0, .int 1, .int 2])).trans r9
  have r7 := (same_new n8 (HO.tup [.int 2, .int 0, .int 0])).trans r8
  have r6 := (same_new n7 (HO.tup [.int 1, .int 1, .int 0])).trans r7
  have r5 := (same_new n6 (HO.tup [.int 0, .int 2, .int 0])).trans r6
  have r4 := (same_new n5 (HO.tup [.int 1, .int 0, .int 0, .int 2])).trans r5
  have r3 := (same_new n4 (HO.tup [.int 0, .int 2])).trans r4
  have r2 := (same_new n3 (HO.tup [.int 0, .int 0, .int 1])).trans r3
  have r1 := (same_new n2 (HO.tup [.int 0, .int 1, .int 2])).trans r2
  have r0 := (same_new n1 (HO.tup [.int 0, .int 1])).trans r1
  have f1 := r1 _ _ upd_same
  have f2 := r2 _ _ upd_same
  have f3 := r3 _ _ upd_same
  have f4 := r4 _ _ upd_same
  have f5 := r5 _ _ upd_same
  have f6 := r6 _ _ upd_same
  have f7 := r7 _ _ upd_same
  have f8 := r8 _ _ upd_same
  have f9 := r9 _ _ upd_same
  have f10 := r10 _ _ upd_same
  have fT : (upd (upd (upd (upd (upd (upd (upd (upd (upd (upd (upd H t1 (.tup [.int 0, .int 1])) t2 (.tup [.int 0, .int 1, .int 2])) t3 (.tup [.int 0, .int 0, .int 1])) t4 (.tup [.int 0, .int 2])) t5 (.tup [.int 1, .int 0, .int 0, .int 2])) t6 (.tup [.int 0, .int 2, .int 0])) t7 (.tup [.int 1, .int 1, .int 0])) t8 (.tup [.int 2, .int 0, .int 0])) t9 (.tup [.int 0, .int 1, .int 0, .int 1, .int 2])) t10 (.tup [.int 0, .int 0])) T (.tup [.ref t1, .ref t2, .ref t3, .ref t4, .ref t5, .ref t6, .ref t7, .ref t8, .ref t9, .ref t10])) T = some (HO.tup [.ref t1, .ref t2, .ref t3, .ref t4, .ref t5, .ref t6, .ref t7, .ref t8, .ref t9, .ref t10]) := upd_same
  clear r1 r2 r3 r4 r5 r6 r7 r8 r9 r10
  have hT : ∃ HT, HT = upd (upd (upd (upd (upd (upd (upd (upd (upd (upd (upd H t1 (.tup [.int 0, .int 1])) t2 (.tup [.int 0, .int 1, .int 2])) t3 (.tup [.int 0, .int 0, .int 1])) t4 (.tup [.int 0, .int 2])) t5 (.tup [.int 1, .int 0, .int 0, .int 2])) t6 (.tup [.int 0, .int 2, .int 0])) t7 (.tup [.int 1, .int 1, .int 0])) t8 (.tup [.int 2, .int 0, .int 0])) t9 (.tup [.int 0, .int 1, .int 0, .int 1, .int 2])) t10 (.tup [.int 0, .int 0])) T (.tup [.ref t1, .ref t2, .ref t3, .ref t4, .ref t5, .ref t6, .ref t7, .ref t8, .ref t9, .ref t10]) := ⟨_, rfl⟩
  obtain ⟨HT, eT⟩ := hT
  rw [← eT] at r0 f1 f2 f3 f4 f5 f6 f7 f8 f9 f10 fT
  show tCall spDraw [] E0 _ _ (upd _ _ _) _
  rw [← eT]
  clear eT
  refine ⟨_, rfl, a, b, 10, rfl, pool_same hp r0, by decide, by decide, fun d H1 d0 d1 hp1 e1 => ?_⟩
  have kt := KeepT.but e1 (pool_same hp r0)
  have ch : ∃ (t : Addr) (ar : List Nat), atI [V.ref t1, .ref t2, .ref t3, .ref t4, .ref t5, .ref t6, .ref t7, .ref t8, .ref t9, .ref t10] d = some (.ref t) ∧ H1 t = some (.tup (ar.map nV)) ∧ ar ∈ table := by
    have e : d = 0 ∨ d = 1 ∨ d = 2 ∨ d = 3 ∨ d = 4 ∨ d = 5 ∨ d = 6 ∨ d = 7 ∨ d = 8 ∨ d = 9 := by omega
    rcases e with rfl | rfl | rfl | rfl | rfl | rfl | rfl | rfl | rfl | rfl
    · exact ⟨t1, [0, 1], rfl, kt _ _ f1, by decide⟩
    · exact ⟨t2, [0, 1, 2], rfl, kt _ _ f2, by decide⟩
    · exact ⟨t3, [0, 0, 1], rfl, kt _ _ f3, by decide⟩
    · exact ⟨t4, [0, 2], rfl, kt _ _ f4, by decide⟩
    · exact ⟨t5, [1, 0, 0, 2], rfl, kt _ _ f5, by decide⟩
    · exact ⟨t6, [0, 2, 0], rfl, kt _ _ f6, by decide⟩
    · exact ⟨t7, [1, 1, 0], rfl, kt _ _ f7, by decide⟩
    · exact ⟨t8, [2, 0, 0], rfl, kt _ _ f8, by decide⟩
    · exact ⟨t9, [0, 1, 0, 1, 2], rfl, kt _ _ f9, by decide⟩
    · exact ⟨t10, [0, 0], rfl, kt _ _ f10, by decide⟩
  obtain ⟨t, ar, hat, ht, har⟩ := ch
  obtain ⟨ha5, ha2, ha0⟩ := table_ok ar har
  refine ⟨T, _, d, _, rfl, rfl, SqT.of (kt _ _ fT), hat, ?_⟩
  refine ⟨_, rfl, _, rfl, t, _, rfl, .inr (SqT.of ht), a, b, (ar.map nV).length, rfl, hp1, by rw [List.length_map]; omega, fun ws p H2 hwl hwn hwo hpn hw hp2 e2 => ?_⟩
  have kt2 := KeepT.but e2 hp1
  refine ⟨_, rfl, t, _, rfl, .inr (SqT.of (kt2 _ _ ht)), _, rfl, by omega, by rw [List.length_map]; omega, fun D nD => ?_⟩
  have hwl' : ws.length = ar.length := by rw [hwl, List.length_map]
  refine lc_range (n := (ar.map nV).length) (fun i H' => ∃ ps : List Addr, H' D = some (.lst (ps.map V.ref)) ∧ ps.length = i ∧ Paired (PairAt H') ps ((ws.zip ar).take i) ∧ Same H2 H')
    ⟨[], upd_same, rfl, .nil, same_new nD _⟩ (fun i H' hi hh => ?_) (fun H' hh => ?_)
  · obtain ⟨ps, h1, h2, h3, h4⟩ := hh
    rw [List.length_map] at hi
    have hwi : ws[i]? = some ws[i] := List.getElem?_eq_getElem (by omega)
    have hai : ar[i]? = some ar[i] := List.getElem?_eq_getElem hi
    refine ⟨rfl, ?_⟩
    refine ⟨_, rfl, _, rfl, p, _, _, .str ws[i], rfl, rfl, SqL.of (h4 _ _ hw), ?_, ?_⟩
    · rw [Int.zero_add]
      exact atI_nat (by rw [List.getElem?_map, hwi]; rfl)
    refine ⟨_, rfl, _, rfl, t, _, _, nV ar[i], rfl, rfl, SqT.of (h4 _ _ (kt2 _ _ ht)), ?_, ?_⟩
    · rw [Int.zero_add]
      exact atI_nat (by rw [List.getElem?_map, hai]; rfl)
    refine ⟨(by show 2 ≤ sizeLine; decide), fun r nr => ?_⟩
    have hDr : D ≠ r := ne_of_none h1 nr
    refine ⟨_, by rw [upd_ne hDr]; exact h1, by rw [List.length_map]; exact small1000 (by omega), ps ++ [r], ?_, ?_, ?_, ?_⟩
    · rw [upd_same, List.map_append]
      all_goals rfl
    · rw [List.length_append, h2]
      all_goals rfl
    · have hz : (ws.zip ar)[i]? = some (ws[i], ar[i]) := by
        rw [List.getElem?_zip_eq_some]
        exact ⟨hwi, hai⟩
      rw [List.take_add_one, hz]
      refine Paired.snoc (pairs_keep h3 fun q xs hq => ?_) ?_
      · rw [upd_ne (ne_of hq h1 (by intro z; cases z)), upd_ne (ne_of_none hq nr)]
        exact hq
      · show upd _ D _ r = _
        rw [upd_ne hDr.symm, upd_same]
    · exact fun c o hc => by rw [upd_ne (ne_of_none hc nD), upd_ne (ne_of_none (h4 _ _ hc) nr)]; exact h4 _ _ hc
  · obtain ⟨ps, h1, h2, h3, h4⟩ := hh
    refine ⟨D, _, rfl, .inl ⟨SqL.of h1, fun l nl => ?_⟩⟩
    rw [List.length_map, ← hwl', List.take_of_length_le (by rw [List.length_zip, hwl']; omega)] at h3
    have kk : KeepT H' (upd H' l (.tup (ps.map V.ref))) := KeepT.of (same_new nl _)
    have eall : But a H (upd H' l (.tup (ps.map V.ref))) := (((But.of r0).trans e1).trans e2).trans (But.of (h4.trans (same_new nl _)))
    have pl := pool_new (o := .tup (ps.map V.ref)) (pool_same hp2 h4) nl
    refine q (ws.zip ar) l _ ⟨?_, ?_, ?_, ?_, ?_⟩ ?_ ⟨ps, upd_same, pairs_keep h3 kk⟩ pl eall
    · rw [List.length_zip]; omega
    · rw [List.map_fst_zip (by omega)]; exact hwn
    · intro c hc
      exact hwo _ (List.of_mem_zip hc).1
    · intro c hc
      exact ha2 _ (List.of_mem_zip hc).2
    · obtain ⟨i, hi, e⟩ := List.getElem_of_mem ha0
      refine ⟨(ws[i]'(by omega), ar[i]), ?_, e⟩
      exact List.mem_of_getElem? (i := i) (by rw [List.getElem?_zip_eq_some]; exact ⟨List.getElem?_eq_getElem (by omega), List.getElem?_eq_getElem hi⟩)
    · exact ((((But.of r0).trans e1).trans e2).trans (But.of h4)).none nl (pool_some (pool_same hp2 h4))
end
end Cf
namespace Cf
open PySem L2
abbrev sTerm : Stmt := top 17
/-- a term: a variable, or a word and parts -/
inductive Tm where
  | var (n : Int)
  | node (w : Str) (ps : List Tm)
mutual
inductive TmAt (H : Hp) : V → Tm → Prop
  | var (n : Int) : TmAt H (.int n) (.var n)
  | node {p : Addr} {w : Str} {vs : List V} {ps : List Tm} : H p = some (.tup (.str w :: vs)) → TmsAt H vs ps → TmAt H (.ref p) (.node w ps)
inductive TmsAt (H : Hp) : List V → List Tm → Prop
  | nil : TmsAt H [] []
  | cons {v : V} {vs : List V} {t : Tm} {ts : List Tm} : TmAt H v t → TmsAt H vs ts → TmsAt H (v :: vs) (t :: ts)
end
mutual
theorem TmAt.keep {H H' : Hp} (e : KeepT H H') : ∀ (t : Tm) (v : V), TmAt H v t → TmAt H' v t
  | .var n, _, h => by cases h; exact .var n
  | .node w ps, _, h => by
    cases h with
    | node h1 h2 => exact .node (e _ _ h1) (TmsAt.keep e ps _ h2)
theorem TmsAt.keep {H H' : Hp} (e : KeepT H H') : ∀ (ts : List Tm) (vs : List V), TmsAt H vs ts → TmsAt H' vs ts
  | [], _, h => by cases h; exact .nil
  | t :: ts, _, h => by
    cases h with
    | cons h1 h2 => exact .cons (TmAt.keep e t _ h1) (TmsAt.keep e ts _ h2)
end
theorem TmsAt.length {H : Hp} : ∀ {vs : List V} {ts : List Tm}, TmsAt H vs ts → vs.length = ts.length
  | [], _, h => by cases h; rfl
  | v :: vs, _, h => by
    cases h with
    | cons h1 h2 => exact congrArg (· + 1) (TmsAt.length h2)
theorem TmsAt.append {H : Hp} : ∀ {vs us : List V} {ts rs : List Tm}, TmsAt H vs ts → TmsAt H us rs → TmsAt H (vs ++ us) (ts ++ rs)
  | [], _, _, _, h, k => by cases h; exact k
  | v :: vs, _, _, _, h, k => by
    cases h with
    | cons h1 h2 => exact .cons h1 (TmsAt.append h2 k)
theorem TmsAt.snoc {H : Hp} {vs : List V} {v : V} {ts : List Tm} {t : Tm} (h : TmsAt H vs ts) (k : TmAt H v t) : TmsAt H (vs ++ [v]) (ts ++ [t]) := h.append (.cons k .nil)
theorem TmsAt.get {H : Hp} : ∀ {vs : List V} {ts : List Tm} {i : Nat} {t : Tm}, TmsAt H vs ts → ts[i]? = some t → ∃ v, vs[i]? = some v ∧ TmAt H v t
  | _, [], _, _, _, e => by simp at e
  | _, t :: ts, 0, _, h, e => by
    cases h with
    | cons h1 h2 => simp at e; subst e; exact ⟨_, rfl, h1⟩
  | _, t :: ts, i + 1, x, h, e => by
    cases h with
    | cons h1 h2 =>
      obtain ⟨v, a, b⟩ := TmsAt.get (i := i) h2 (by simpa using e)
      exact ⟨v, by simpa using a, b⟩
/-- a term over constructors with variables among some, of a height of at most so much -/
def TmOver (cs : List (Str × Nat)) (ns : List Int) : Nat → Tm → Prop
  | 0, _ => False
  | _ + 1, .var n => n ∈ ns
  | d + 1, .node w ps => (w, ps.length) ∈ cs ∧ ∀ p ∈ ps, TmOver cs ns d p
def spTerm (K : PySem.W.Frag) (n : Nat) : Sp := fun vs H Q _ => ∃ (a b cp np : Addr) (cs : List (Str × Nat)) (ns : List Int) (d : Nat), vs = [.ref a, .ref cp, .ref np, nV d] ∧ PoolAt H a b ∧ ConsAt H cp cs ∧ ConsOk cs ∧
  SqL K H np (ns.map V.int) ∧ np ≠ a ∧ ns.length ≤ 1000 ∧ 1 ≤ d ∧ d ≤ n ∧ ∀ (v : V) (t : Tm) (H' : Hp), TmAt H' v t → TmOver cs ns d t → PoolAt H' a b → But a H H' → Q v H'
theorem paired_left {H : Hp} {q : Addr} : ∀ {ps : List Addr} {cs : List (Str × Nat)}, Paired (PairAt H) ps cs → q ∈ ps → ∃ c ∈ cs, PairAt H q c
  | _, _, .nil, h => by cases h
  | _, _, .cons (b := b) x t, h => by
    rcases List.mem_cons.mp h with e | h
    · subst e; exact ⟨b, List.mem_cons_self, x⟩
    · obtain ⟨c, hc, k⟩ := paired_left t h
      exact ⟨c, List.mem_cons_of_mem _ hc, k⟩
theorem paired_get {H : Hp} {q : Addr} : ∀ {ps : List Addr} {cs : List (Str × Nat)} {i : Nat}, Paired (PairAt H) ps cs → ps[i]? = some q → ∃ c, cs[i]? = some c ∧ PairAt H q c
  | _, _, _, .nil, h => by simp at h
  | _, _, 0, .cons (b := b) x t, h => by simp at h; subst h; exact ⟨b, rfl, x⟩
  | _, _, i + 1, .cons x t, h => by
    obtain ⟨c, hc, k⟩ := paired_get (i := i) t (by simpa using h)
    exact ⟨c, by simpa using hc, k⟩
section
variable {P : Program} {w : World} {K : PySem.W.Frag} {mg : Str → Option Value} {base : Heap}
theorem scTerm : FnScope ["pool", "constructors", "numbers", "deep", "pair", "k"] ["pool", "constructors", "numbers", "deep"] (defScope sTerm) := ⟨rfl, rfl, rfl, by decide +kernel, rfl, by decide +kernel, by decide +kernel⟩
theorem ok_term1 {n : Nat} {f g e : Addr} {fd gd ed : FuncData} (F : Fun K "_law_term" "_law_term" sTerm f fd) (B : Blt mg) (G : FnOk P w K mg base CX0 2 g gd ["pool", "many"] spDraw) (bG : Binds K gd ["pool", "many"] [])
    (kG : PySem.W.keepIn K (.ref g) = true) (mG : mg "_law_draw" = some (.ref g)) (S : FnOk P w K mg base CX0 3 e ed ["pool", "items"] (spPick K)) (bS : Binds K ed ["pool", "items"] []) (kS : PySem.W.keepIn K (.ref e) = true) (mS : mg "_law_pick" = some (.ref e))
    (R : FnOk P w K mg base CX0 (n + 3) f fd ["pool", "constructors", "numbers", "deep"] (spTerm K n)) (bR : Binds K fd ["pool", "constructors", "numbers", "deep"] []) (mR : mg "_law_term" = some (.ref f)) :
    FnOk P w K mg base CX0 (n + 4) f fd ["pool", "constructors", "numbers", "deep"] (spTerm K (n + 1)) := by
  have kR := F.kp
  refine F.ok scTerm (fun vs H Q E h => ?_) (fun cdv A outer s H vs Q E hr h => ?_)
  · obtain ⟨a, b, cp, np, cs, ns, d, rfl, _⟩ := h
    rfl
  obtain ⟨a, b, cp, np, cs, ns, d, rfl, hp, hc, hok, hn, hna, hnl, hd1, hd2, q⟩ := h
  have nd := scTerm.nd
  refine ⟨_, Evl.pss_cut (ps_if (PW.pt (pw_and (pt_cmpR op_gt (pe_callB call_len_seq (by rfl) B.len PySem.boot_len (pa_cons (pv 2) pa_nil)) pe_int (nomark _))
        (pw_and1 (pt_cmpR op_eq (pe_call G (hr.mono (by omega)) rfl mG kG bG .nil pass0 (pa_cons (pv 0) (pa_cons pe_int pa_nil))) pe_int (nomark _)))))
      (pss_one (ps_ret (pe_call S (hr.mono (by omega)) rfl mS kS bS .nil pass0 (pa_cons (pv 0) (pa_cons (pv 2) pa_nil))))) pss_nil)
    (pss_cons (ps_set (i := 4) nd rfl (.inl rfl) (pe_call S (hr.mono (by omega)) rfl mS kS bS .nil pass0 (pa_cons (pv 0) (pa_cons
      (pe_lc (own := [("pair", 4)]) (g := gName 4) (tt := tOr (tTest (tOp rEq (tOp (rIxT K) (tVar 4) (tC (.int 1))) (tC (.int 0)))) (tTest (tOp (rI0 fun i j => .bl (decide (j < i))) (tVar 3) (tC (.int 1))))) rfl nd (pi_tup (pv 1))
        (blkOk_by (N := ["pool", "constructors", "numbers", "deep", "pair", "k"]) (sc := defScope sTerm) (by decide +kernel)) (fun _ _ _ _ _ => pg_name (i := 4) nd rfl (.inl rfl))
        (fun _ _ _ _ _ => pts_one (PW.pt (pw_or (pt_cmpR op_eq (pe_ix (r := rIxT K) ix_tup (pv 4) pe_int (fun _ _ => rfl)) pe_int (nomark _)) (pw_or1 (pt_cmpR op_gt (pv 3) pe_int (nomark _))))))
        (fun _ _ _ _ _ => pv 4)) pa_nil))))
    (pss_one (ps_ret (pe_op op_catA (pe_tup (pa_cons (pe_ix ix_tup (pv 4) pe_int (fun _ _ => rfl)) pa_nil)) (pe_callTy call_tuple_of (by rfl) B.tuple (by decide +kernel) (pa_cons
      (pe_lc (own := [("k", 5)]) (g := gName 5) (tt := tYes) rfl nd (pi_range1 rfl B.range (pa_cons (pe_ix ix_tup (pv 4) pe_int (fun _ _ => rfl)) pa_nil))
        (blkOk_by (N := ["pool", "constructors", "numbers", "deep", "pair", "k"]) (sc := defScope sTerm) (by decide +kernel)) (fun _ _ _ _ _ => pg_name (i := 5) nd rfl (.inl rfl)) (fun _ _ _ _ _ => pts_nil)
        (fun _ _ _ _ _ => pe_call R hr rfl mR kR bR .nil pass0 (pa_cons (pv 0) (pa_cons (pv 1) (pa_cons (pv 2) (pa_cons (pe_op op_sub (pv 3) pe_int) pa_nil)))))) pa_nil)))))), ?_⟩
  refine ⟨fun σ H1 => σ = [some (.ref a), some (.ref cp), some (.ref np), some (nV d), none, none] ∧ PoolAt H1 a b ∧ But a H H1, ?_, ?_⟩
  · refine ⟨_, rfl, np, _, rfl, .inl hn, _, _, rfl, rfl, _, rfl, ite2 (fun c1 => ?_) (fun c1 => iteF ⟨rfl, hp, But.refl _ _⟩)⟩
    have h0 : 0 < (ns.map V.int).length := by
      have c' : (0 : Int) < ((ns.map V.int).length : Int) := of_decide_eq_true c1
      omega
    refine ⟨_, rfl, a, b, 2, rfl, hp, by decide, by decide, fun x H1 x0 x1 hp1 e1 => ?_⟩
    refine ⟨rfl, _, rfl, ite2 (fun c2 => ?_) (fun c2 => ⟨rfl, hp1, e1⟩)⟩
    refine ⟨_, rfl, _, rfl, a, b, np, _, rfl, hp1, .inl (e1.seqL hna hn), hna, h0, by rw [List.length_map]; omega, fun v H2 hv hp2 e2 => ?_⟩
    obtain ⟨m, hm, rfl⟩ := List.mem_map.mp hv
    obtain ⟨d', rfl⟩ : ∃ d', d = d' + 1 := ⟨d - 1, by omega⟩
    exact q (.int m) (.var m) H2 (.var m) hm hp2 (e1.trans e2)
  · rintro σ H1 ⟨rfl, hp1, e1⟩
    have k1 : KeepT H H1 := KeepT.but e1 hp
    obtain ⟨qs, hc1, hc2⟩ := hc.keep k1
    have hqc : qs.length = cs.length := Paired.length hc2
    refine ⟨_, rfl, _, rfl, cp, rfl, ⟨_, SqT.of hc1⟩, fun D nD => ?_⟩
    refine lc_tup (xs := qs.map V.ref) (fun i H' => ∃ rs : List Addr, H' D = some (.lst (rs.map V.ref)) ∧ rs.length ≤ i ∧ Same H1 H' ∧ (∀ r ∈ rs, ∃ c ∈ cs, PairAt H1 r c ∧ (c.2 = 0 ∨ 1 < d)) ∧ ((∃ c ∈ cs.take i, c.2 = 0) → 0 < rs.length))
      ⟨[], upd_same, Nat.le_refl _, same_new nD _, fun _ h => (by cases h), fun h => by obtain ⟨c, hc, _⟩ := h; rw [List.take_zero] at hc; cases hc⟩ (fun i H' _ hh => ?_) (fun i x H' hx hh => ?_) (fun H' hh => ?_)
    · obtain ⟨rs, h1, h2, h3, h4, h5⟩ := hh
      exact SqT.of (h3 _ _ hc1)
    · obtain ⟨rs, h1, h2, h3, h4, h5⟩ := hh
      rw [List.getElem?_map] at hx
      obtain ⟨r, hr', rfl⟩ := Option.map_eq_some_iff.mp hx
      obtain ⟨c, hci, hcr⟩ := paired_get hc2 hr'
      have hil : i < cs.length := (List.getElem?_eq_some_iff.mp hci).1
      refine ⟨rfl, ?_⟩
      -- one kept: the list grows
      have keep1 : (c.2 = 0 ∨ 1 < d) → ∃ acc, H' D = some (.lst acc) ∧ acc.length < sizeLine ∧ ∃ rs : List Addr, upd H' D (.lst (acc ++ [V.ref r])) D = some (.lst (rs.map V.ref)) ∧ rs.length ≤ i + 1 ∧ Same H1 (upd H' D (.lst (acc ++ [V.ref r]))) ∧ (∀ r ∈ rs, ∃ c ∈ cs, PairAt H1 r c ∧ (c.2 = 0 ∨ 1 < d)) ∧ ((∃ c ∈ cs.take (i + 1), c.2 = 0) → 0 < rs.length) := fun hz => by
        refine ⟨_, h1, by rw [List.length_map]; exact small1000 (by have := hok.len; omega), rs ++ [r], ?_, ?_, ?_, ?_, ?_⟩
        · rw [upd_same, List.map_append]
          all_goals rfl
        · rw [List.length_append]; exact Nat.succ_le_succ h2
        · exact fun b o hb => by rw [upd_ne (ne_of_none hb nD)]; exact h3 _ _ hb
        · intro x hx
          rcases List.mem_append.mp hx with h | h
          · exact h4 x h
          · rw [List.mem_singleton.mp h]
            exact ⟨c, List.mem_of_getElem? hci, hcr, hz⟩
        · intro _; rw [List.length_append]; exact Nat.succ_pos _
      refine ⟨_, rfl, r, _, 1, _, rfl, rfl, SqT.of (h3 _ _ hcr), rfl, rfl, _, rfl, ite2 (fun c1 => ?_) (fun c1 => ?_)⟩
      · have hz : c.2 = 0 := by
          have e : nV c.2 = V.int 0 := of_decide_eq_true c1
          have e2 : (c.2 : Int) = 0 := V.int.inj e
          omega
        exact iteT ⟨_, rfl, keep1 (.inl hz)⟩
      · have hz : ¬ c.2 = 0 := fun e => c1 (decide_eq_true (by rw [e]; rfl))
        refine ⟨_, rfl, _, _, rfl, rfl, _, rfl, ite2 (fun c2 => ?_) (fun c2 => ?_)⟩
        · have hd' : 1 < d := by have c' : (1 : Int) < (d : Int) := of_decide_eq_true c2; omega
          exact ⟨_, rfl, keep1 (.inr hd')⟩
        · refine ⟨rs, h1, by omega, h3, h4, fun hcs => ?_⟩
          obtain ⟨c', hc', z⟩ := hcs
          rw [List.take_add_one, hci] at hc'
          rcases List.mem_append.mp hc' with h | h
          · exact h5 ⟨c', h, z⟩
          · have e : c' = c := by simpa using h
            rw [e] at z; exact absurd z hz
    · obtain ⟨rs, h1, h2, h3, h4, h5⟩ := hh
      rw [List.length_map, hqc, List.take_of_length_le (Nat.le_refl _)] at h5
      rw [List.length_map, hqc] at h2
      have hpos : 0 < rs.length := h5 hok.leaf
      refine ⟨a, b, D, _, rfl, pool_same hp1 h3, .inl (SqL.of h1), pool_a hp1 nD, by rw [List.length_map]; exact hpos, by rw [List.length_map]; have := hok.len; omega, fun v H2 hv hp2 e2 => ?_⟩
      obtain ⟨r, hr1, rfl⟩ := List.mem_map.mp hv
      obtain ⟨c, hcm, hcr, hcd⟩ := h4 r hr1
      have k2 : KeepT H1 H2 := (KeepT.of h3).trans (KeepT.but e2 (pool_same hp1 h3))
      have e12 : But a H H2 := (e1.trans (But.of h3)).trans e2
      have hr2 := k2 _ _ hcr
      refine ⟨_, rfl, r, _, 0, _, rfl, rfl, SqT.of hr2, rfl, (by show 1 ≤ sizeLine; decide), fun u nu => ?_⟩
      have ku := same_new nu (HO.tup [V.str c.1])
      have hc2' := hok.ar c hcm
      refine ⟨_, rfl, r, _, 1, _, rfl, rfl, SqT.of (ku _ _ hr2), rfl, _, rfl, by omega, by omega, fun D2 nD2 => ?_⟩
      have sm2 := ku.trans (same_new nD2 (HO.lst []))
      refine lc_range (n := c.2) (fun i H' => ∃ (vs : List V) (ts : List Tm), H' D2 = some (.lst vs) ∧ vs.length = i ∧ TmsAt H' vs ts ∧ (∀ t ∈ ts, TmOver cs ns (d - 1) t) ∧ PoolAt H' a b ∧ But a H2 H' ∧ H' u = some (.tup [V.str c.1]))
        ⟨[], [], upd_same, rfl, .nil, fun _ h => (by cases h), pool_same hp2 sm2, But.of sm2, by rw [upd_ne (ne_of_none upd_same nD2)]; exact upd_same⟩ (fun i H' hi hh => ?_) (fun H' hh => ?_)
      · obtain ⟨vs, ts, g1, g2, g3, g4, g5, g6, g7⟩ := hh
        have hd1' : 1 < d := by rcases hcd with h | h <;> omega
        refine ⟨rfl, ?_⟩
        have ed : (d : Int) - 1 = ((d - 1 : Nat) : Int) := by omega
        refine ⟨_, rfl, _, rfl, _, rfl, _, rfl, _, _, rfl, rfl, a, b, cp, np, cs, ns, d - 1, ?_, g5, ?_, hok, (e12.trans g6).seqL hna hn, hna, hnl, by omega, by omega, fun v t H3 t1 t2 t3 t4 => ?_⟩
        · show [V.ref a, V.ref cp, V.ref np, V.int ((d : Int) - 1)] = _
          rw [ed]
        · exact ConsAt.keep (ConsAt.keep ⟨qs, hc1, hc2⟩ k2) (KeepT.but g6 hp2)
        have nDa : D2 ≠ a := pool_a (pool_same hp2 ku) nD2
        refine ⟨vs, t4 _ _ nDa g1, small1000 (by omega), vs ++ [v], ts ++ [t], upd_same, by rw [List.length_append, g2]; rfl, ?_, ?_, ?_, ?_, ?_⟩
        · have kk : KeepT H' H3 := KeepT.but t4 g5
          have k3 : KeepT H3 (upd H3 D2 (.lst (vs ++ [v]))) := fun x xs hx => by rw [upd_ne (ne_of hx (t4 _ _ nDa g1) (by intro z; cases z))]; exact hx
          exact (TmsAt.keep k3 _ _ (TmsAt.keep kk _ _ g3)).snoc (TmAt.keep k3 _ _ t1)
        · intro y hy
          rcases List.mem_append.mp hy with h | h
          · exact g4 y h
          · rw [List.mem_singleton.mp h]; exact t2
        · exact pool_upd t3 nDa (pool_b (pool_same hp2 ku) nD2)
        · exact fun x o hx hxo => by rw [upd_ne (ne_of_none (ku _ _ hxo) nD2)]; exact t4 _ _ hx (g6 _ _ hx hxo)
        · have huD : u ≠ D2 := ne_of_none upd_same nD2
          rw [upd_ne huD]
          exact KeepT.but t4 g5 _ _ g7
      · obtain ⟨vs, ts, g1, g2, g3, g4, g5, g6, g7⟩ := hh
        refine ⟨D2, vs, rfl, .inl ⟨SqL.of g1, fun l nl => ?_⟩⟩
        have kl := same_new nl (HO.tup vs)
        have hts : ts.length = c.2 := by rw [← TmsAt.length g3, g2]
        obtain ⟨d', rfl⟩ : ∃ d', d = d' + 1 := ⟨d - 1, by omega⟩
        have hov : TmOver cs ns (d' + 1) (.node c.1 ts) := ⟨by rw [hts]; exact hcm, g4⟩
        have eA : But a H H' := e12.trans g6
        refine ⟨u, l, _, _, rfl, rfl, SqT.of (kl _ _ g7), SqT.of upd_same, ?_, fun z => (by cases z), fun _ z => ?_, fun _ z p np' => ?_⟩
        · show 1 + vs.length ≤ sizeLine
          exact Nat.le_of_lt (small1000 (by omega))
        · subst z
          cases g3
          exact q (.ref u) (.node c.1 []) _ (.node (kl _ _ g7) .nil) hov (pool_same g5 kl) (eA.trans (But.of kl))
        · have kp := kl.trans (same_new np' (HO.tup (V.str c.1 :: vs)))
          exact q (.ref p) (.node c.1 ts) _ (.node upd_same (TmsAt.keep (KeepT.of kp) _ _ g3)) hov (pool_same g5 kp) (eA.trans (But.of kp))
theorem ok_term {f g e : Addr} {fd gd ed : FuncData} (F : Fun K "_law_term" "_law_term" sTerm f fd) (B : Blt mg) (G : FnOk P w K mg base CX0 2 g gd ["pool", "many"] spDraw) (bG : Binds K gd ["pool", "many"] [])
    (kG : PySem.W.keepIn K (.ref g) = true) (mG : mg "_law_draw" = some (.ref g)) (S : FnOk P w K mg base CX0 3 e ed ["pool", "items"] (spPick K)) (bS : Binds K ed ["pool", "items"] []) (kS : PySem.W.keepIn K (.ref e) = true) (mS : mg "_law_pick" = some (.ref e))
    (bR : Binds K fd ["pool", "constructors", "numbers", "deep"] []) (mR : mg "_law_term" = some (.ref f)) : ∀ n : Nat, FnOk P w K mg base CX0 (n + 3) f fd ["pool", "constructors", "numbers", "deep"] (spTerm K n)
  | 0 => none_left fun vs H Q E h => by
    obtain ⟨a, b, cp, np, cs, ns, d, _, _, _, _, _, _, _, h1, h2, _⟩ := h
    omega
  | n + 1 => ok_term1 F B G bG kG mG S bS kS mS (ok_term F B G bG kG mG S bS kS mS bR mR n) bR mR
end
end Cf
namespace Cf
open PySem L2
abbrev sSame : Stmt := top 8
abbrev sIsInt : Stmt := top 9
/-- the same data to a depth, told by the heap -/
def Eqd (H : Hp) : Nat → V → V → Prop
  | 0, _, _ => False
  | n + 1, x, y => (x = y ∧ flatV x = true) ∨ ∃ (p q : Addr) (xs ys : List V), x = .ref p ∧ y = .ref q ∧ ((H p = some (.lst xs) ∧ H q = some (.lst ys)) ∨ (H p = some (.tup xs) ∧ H q = some (.tup ys))) ∧
      xs.length = ys.length ∧ xs.length ≤ 1000000 ∧ ∀ (i : Nat) (x y : V), xs[i]? = some x → ys[i]? = some y → Eqd H n x y
theorem Eqd.flat {H : Hp} {n : Nat} {x : V} (h : flatV x = true) : Eqd H (n + 1) x x := .inl ⟨rfl, h⟩
theorem Eqd.lst {H : Hp} {n : Nat} {p q : Addr} {xs ys : List V} (h1 : H p = some (.lst xs)) (h2 : H q = some (.lst ys)) (h3 : xs.length = ys.length) (h4 : xs.length ≤ 1000000)
    (h5 : ∀ (i : Nat) (x y : V), xs[i]? = some x → ys[i]? = some y → Eqd H n x y) : Eqd H (n + 1) (.ref p) (.ref q) := .inr ⟨p, q, xs, ys, rfl, rfl, .inl ⟨h1, h2⟩, h3, h4, h5⟩
theorem Eqd.tup {H : Hp} {n : Nat} {p q : Addr} {xs ys : List V} (h1 : H p = some (.tup xs)) (h2 : H q = some (.tup ys)) (h3 : xs.length = ys.length) (h4 : xs.length ≤ 1000000)
    (h5 : ∀ (i : Nat) (x y : V), xs[i]? = some x → ys[i]? = some y → Eqd H n x y) : Eqd H (n + 1) (.ref p) (.ref q) := .inr ⟨p, q, xs, ys, rfl, rfl, .inr ⟨h1, h2⟩, h3, h4, h5⟩
theorem Eqd.keep {H H' : Hp} (e : Same H H') : ∀ {n : Nat} {x y : V}, Eqd H n x y → Eqd H' n x y
  | 0, _, _, h => h
  | n + 1, _, _, h => by
    rcases h with h | ⟨p, q, xs, ys, rfl, rfl, h, h3, h4, h5⟩
    · exact .inl h
    · refine .inr ⟨p, q, xs, ys, rfl, rfl, ?_, h3, h4, fun i x y a b => Eqd.keep e (h5 i x y a b)⟩
      rcases h with ⟨a, b⟩ | ⟨a, b⟩
      · exact .inl ⟨e _ _ a, e _ _ b⟩
      · exact .inr ⟨e _ _ a, e _ _ b⟩
theorem Eqd.mono {H : Hp} : ∀ {n m : Nat} {x y : V}, n ≤ m → Eqd H n x y → Eqd H m x y
  | 0, _, _, _, _, h => h.elim
  | n + 1, 0, _, _, l, _ => by omega
  | n + 1, m + 1, _, _, l, h => by
    rcases h with h | ⟨p, q, xs, ys, rfl, rfl, h, h3, h4, h5⟩
    · exact .inl h
    · exact .inr ⟨p, q, xs, ys, rfl, rfl, h, h3, h4, fun i x y a b => Eqd.mono (by omega) (h5 i x y a b)⟩
def spSame (n : Nat) : Sp := fun vs H Q _ => ∃ x y : V, vs = [x, y] ∧ Eqd H n x y ∧ ∀ H', Same H H' → Q (.bl true) H'
/-- the name of a value's class -/
def TyN (H : Hp) : V → String → Prop
  | .non, T => T = "NoneType"
  | .bl _, T => T = "bool"
  | .int _, T => T = "int"
  | .str _, T => T = "str"
  | .ref p, T => (T = "list" ∧ ∃ xs, H p = some (.lst xs)) ∨ (T = "tuple" ∧ ∃ xs, H p = some (.tup xs)) ∨ (T = "dict" ∧ ∃ kvs, H p = some (.dK kvs))
  | _, _ => False
theorem tyx {K : PySem.W.Frag} {H : Hp} {v : V} {T : String} (h : TyN H v T) : TyX K H v (.type T) := by
  cases v with
  | non => cases (show T = "NoneType" from h); exact .base .non
  | bl b => cases (show T = "bool" from h); exact .base (.bl b)
  | int i => cases (show T = "int" from h); exact .base (.int i)
  | str z => cases (show T = "str" from h); exact .base (.str z)
  | ref p =>
    rcases h with ⟨rfl, xs, h⟩ | ⟨rfl, xs, h⟩ | ⟨rfl, xs, h⟩
    · exact .base (.lst h)
    · exact .base (.tup h)
    · exact .base (.dK h)
  | byt _ => exact (show False from h).elim
  | flt _ => exact (show False from h).elim
  | ty _ => exact (show False from h).elim
/-- isinstance(v, C), read -/
theorem isi {K : PySem.W.Frag} {H : Hp} {v : V} {T C : String} {b : Bool} {Q : VK} (h : TyN H v T) (k : kitB T C = some b) (q : Q (.bl b) H) : rIsi K [v, .ty C] H Q := ⟨v, .ty C, .type T, .type C, b, rfl, .ty C, tyx h, kit_ty k, q⟩
def spIsInt : Sp := fun vs H Q _ => ∃ (v : V) (T : String), vs = [v] ∧ TyN H v T ∧ Q (.bl (decide (T = "int"))) H
section
variable {P : Program} {w : World} {K : PySem.W.Frag} {mg : Str → Option Value} {base : Heap}
theorem scIsInt : FnScope ["actual"] ["actual"] (defScope sIsInt) := ⟨rfl, rfl, rfl, by decide +kernel, rfl, by decide +kernel, by decide +kernel⟩
theorem ok_isInt {f : Addr} {fd : FuncData} (F : Fun K "_law_is_integer" "_law_is_integer" sIsInt f fd) (B : Blt mg) : FnOk P w K mg base CX0 1 f fd ["actual"] spIsInt := by
  refine F.ok scIsInt (fun vs H Q E h => ?_) (fun cdv A outer s H vs Q E hr h => ?_)
  · obtain ⟨v, T, rfl, _⟩ := h
    rfl
  obtain ⟨v, T, rfl, hT, q⟩ := h
  refine ⟨_, pss_one (ps_ret (pe_and (pe_callB call_isi (by rfl) B.isinstance (by decide +kernel) (pa_cons (pv 0) (pa_cons (pe_bltn (v := .ty "int") (by rfl) B.int (by decide +kernel) rfl) pa_nil)))
    (pe_one (pe_not (pe_callB call_isi (by rfl) B.isinstance (by decide +kernel) (pa_cons (pv 0) (pa_cons (pe_bltn (v := .ty "bool") (by rfl) B.bool (by decide +kernel) rfl) pa_nil)))))))  , ?_⟩
  refine ⟨_, rfl, ?_⟩
  have hh := hT
  cases v with
  | non => cases (show T = "NoneType" from hT); exact ⟨_, _, _, _, false, rfl, .ty _, tyx hh, kit_ty (by decide +kernel), _, rfl, iteF q⟩
  | bl b => cases (show T = "bool" from hT); exact ⟨_, _, _, _, true, rfl, .ty _, tyx hh, kit_ty (by decide +kernel), _, rfl, iteT ⟨_, rfl, ⟨_, _, _, _, true, rfl, .ty _, tyx hh, kit_ty (by decide +kernel), _, rfl, q⟩⟩⟩
  | int i => cases (show T = "int" from hT); exact ⟨_, _, _, _, true, rfl, .ty _, tyx hh, kit_ty (by decide +kernel), _, rfl, iteT ⟨_, rfl, ⟨_, _, _, _, false, rfl, .ty _, tyx hh, kit_ty (by decide +kernel), _, rfl, q⟩⟩⟩
  | str z => cases (show T = "str" from hT); exact ⟨_, _, _, _, false, rfl, .ty _, tyx hh, kit_ty (by decide +kernel), _, rfl, iteF q⟩
  | ref p =>
    rcases hT with ⟨rfl, xs, h⟩ | ⟨rfl, xs, h⟩ | ⟨rfl, xs, h⟩
    · exact ⟨_, _, _, _, false, rfl, .ty _, tyx hh, kit_ty (by decide +kernel), _, rfl, iteF q⟩
    · exact ⟨_, _, _, _, false, rfl, .ty _, tyx hh, kit_ty (by decide +kernel), _, rfl, iteF q⟩
    · exact ⟨_, _, _, _, false, rfl, .ty _, tyx hh, kit_ty (by decide +kernel), _, rfl, iteF q⟩
  | byt _ => exact (show False from hT).elim
  | flt _ => exact (show False from hT).elim
  | ty _ => exact (show False from hT).elim
end
end Cf
namespace Cf
open PySem L2
section
variable {P : Program} {w : World} {K : PySem.W.Frag} {mg : Str → Option Value} {base : Heap}
theorem scSame : FnScope ["actual", "due", "k"] ["actual", "due"] (defScope sSame) := ⟨rfl, rfl, rfl, by decide +kernel, rfl, by decide +kernel, by decide +kernel⟩
theorem ok_same1 {n : Nat} {f : Addr} {fd : FuncData} (F : Fun K "_law_same" "_law_same" sSame f fd) (B : Blt mg) (R : FnOk P w K mg base CX0 n f fd ["actual", "due"] (spSame n)) (bR : Binds K fd ["actual", "due"] []) (mR : mg "_law_same" = some (.ref f)) :
    FnOk P w K mg base CX0 (n + 1) f fd ["actual", "due"] (spSame (n + 1)) := by
  have kR := F.kp
  refine F.ok scSame (fun vs H Q E h => ?_) (fun cdv A outer s H vs Q E hr h => ?_)
  · obtain ⟨x, y, rfl, _⟩ := h
    rfl
  obtain ⟨x, y, rfl, hxy, q⟩ := h
  have nd := scSame.nd
  refine ⟨_, pss_cons (ps_if (PW.pt (pw_or (pt_val (pe_callB call_isi (by rfl) B.isinstance (by decide +kernel) (pa_cons (pv 1) (pa_cons (pe_bltn (v := .ty "tuple") (by rfl) B.tuple (by decide +kernel) rfl) pa_nil)))) (pw_or1 (pt_val (pe_callB call_isi (by rfl) B.isinstance (by decide +kernel) (pa_cons (pv 1) (pa_cons (pe_bltn (v := .ty "list") (by rfl) B.list (by decide +kernel) rfl) pa_nil)))))))
      (pss_cons (ps_if (PW.pt (pw_or (pt_cmpR op_ne (pe_callB call_isi (by rfl) B.isinstance (by decide +kernel) (pa_cons (pv 1) (pa_cons (pe_bltn (v := .ty "tuple") (by rfl) B.tuple (by decide +kernel) rfl) pa_nil))) (pe_callB call_isi (by rfl) B.isinstance (by decide +kernel) (pa_cons (pv 0) (pa_cons (pe_bltn (v := .ty "tuple") (by rfl) B.tuple (by decide +kernel) rfl) pa_nil))) (nomark _)) (pw_or (pt_cmpR op_ne (pe_callB call_isi (by rfl) B.isinstance (by decide +kernel) (pa_cons (pv 1) (pa_cons (pe_bltn (v := .ty "list") (by rfl) B.list (by decide +kernel) rfl) pa_nil))) (pe_callB call_isi (by rfl) B.isinstance (by decide +kernel) (pa_cons (pv 0) (pa_cons (pe_bltn (v := .ty "list") (by rfl) B.list (by decide +kernel) rfl) pa_nil))) (nomark _)) (pw_or1 (pt_cmpR op_ne (pe_callB call_len_seq (by rfl) B.len PySem.boot_len (pa_cons (pv 0) pa_nil)) (pe_callB call_len_seq (by rfl) B.len PySem.boot_len (pa_cons (pv 1) pa_nil)) (nomark _))))))
          (pss_one (ps_ret pe_bl)) pss_nil)
        (pss_one (ps_ret (pe_cmpR op_eq (pe_callB call_len_seq (by rfl) B.len PySem.boot_len (pa_cons
          (pe_lc (own := [("k", 2)]) (g := gName 2) (tt := tNot (tB (tCall (spSame n) [] E0 (tCons (tOp (rIx K) (tVar 0) (tVar 2)) (tCons (tOp (rIx K) (tVar 1) (tVar 2)) tNil))))) rfl nd (pi_range1 rfl B.range (pa_cons (pe_callB call_len_seq (by rfl) B.len PySem.boot_len (pa_cons (pv 1) pa_nil)) pa_nil))
            (blkOk_by (N := ["actual", "due", "k"]) (sc := defScope sSame) (by decide +kernel)) (fun _ _ _ _ _ => pg_name (i := 2) nd rfl (.inl rfl))
            (fun _ _ _ _ _ => pts_one (pt_not (pt_val (pe_call R hr rfl mR kR bR .nil pass0 (pa_cons (pe_ix (r := rIx K) ix_seq (pv 0) (pv 2) (fun _ _ => rfl)) (pa_cons (pe_ix (r := rIx K) ix_seq (pv 1) (pv 2) (fun _ _ => rfl)) pa_nil))))))
            (fun _ _ _ _ _ => pv 2)) pa_nil)) pe_int (nomark _))))) pss_nil)
    (pss_cons (ps_if (pt_cmpR op_isN (pv 1) pe_non (nomark _)) (pss_one (ps_ret (pe_cmpR op_isN (pv 0) pe_non (nomark _)))) pss_nil)
    (pss_cons (ps_if (PW.pt (pw_or (pt_val (pe_callB call_isi (by rfl) B.isinstance (by decide +kernel) (pa_cons (pv 1) (pa_cons (pe_bltn (v := .ty "bool") (by rfl) B.bool (by decide +kernel) rfl) pa_nil)))) (pw_or1 (pt_val (pe_callB call_isi (by rfl) B.isinstance (by decide +kernel) (pa_cons (pv 0) (pa_cons (pe_bltn (v := .ty "bool") (by rfl) B.bool (by decide +kernel) rfl) pa_nil))))))) (pss_one (ps_ret (pe_and (pe_callB call_isi (by rfl) B.isinstance (by decide +kernel) (pa_cons (pv 1) (pa_cons (pe_bltn (v := .ty "bool") (by rfl) B.bool (by decide +kernel) rfl) pa_nil))) (pe_and (pe_callB call_isi (by rfl) B.isinstance (by decide +kernel) (pa_cons (pv 0) (pa_cons (pe_bltn (v := .ty "bool") (by rfl) B.bool (by decide +kernel) rfl) pa_nil))) (pe_one (pe_cmpR op_eq (pv 0) (pv 1) (nomark _))))))) pss_nil)
    (pss_cons (ps_if (pt_val (pe_callB call_isi (by rfl) B.isinstance (by decide +kernel) (pa_cons (pv 1) (pa_cons (pe_bltn (v := .ty "int") (by rfl) B.int (by decide +kernel) rfl) pa_nil)))) (pss_one (ps_ret (pe_and (pe_callB call_isi (by rfl) B.isinstance (by decide +kernel) (pa_cons (pv 0) (pa_cons (pe_bltn (v := .ty "int") (by rfl) B.int (by decide +kernel) rfl) pa_nil))) (pe_one (pe_cmpR op_eq (pv 0) (pv 1) (nomark _)))))) pss_nil)
    (pss_one (ps_ret (pe_and (pe_callB call_isi (by rfl) B.isinstance (by decide +kernel) (pa_cons (pv 0) (pa_cons (pe_bltn (v := .ty "str") (by rfl) B.str (by decide +kernel) rfl) pa_nil))) (pe_one (pe_cmpR op_eq (pv 0) (pv 1) (nomark _))))))))), ?_⟩
  have q0 := q H (Same.refl H)
  rcases hxy with ⟨rfl, hf⟩ | ⟨p, r, xs, ys, rfl, rfl, hh, hl, hlen, hall⟩
  · cases x with
    | non =>
      have hh : TyN H V.non "NoneType" := rfl
      refine ⟨_, rfl, ⟨_, _, _, _, false, rfl, .ty _, tyx hh, kit_ty (by decide +kernel), _, rfl, iteF ⟨_, rfl, ⟨_, _, _, _, false, rfl, .ty _, tyx hh, kit_ty (by decide +kernel), _, rfl, iteF ?_⟩⟩⟩⟩
      refine ⟨_, rfl, rfl, _, rfl, ite2 (fun _ => ?_) (fun c => absurd (decide_eq_true rfl) c)⟩
      exact ⟨_, rfl, rfl, q0⟩
    | bl b =>
      have hh : TyN H (V.bl b) "bool" := rfl
      refine ⟨_, rfl, ⟨_, _, _, _, false, rfl, .ty _, tyx hh, kit_ty (by decide +kernel), _, rfl, iteF ⟨_, rfl, ⟨_, _, _, _, false, rfl, .ty _, tyx hh, kit_ty (by decide +kernel), _, rfl, iteF ?_⟩⟩⟩⟩
      refine ⟨_, rfl, rfl, _, rfl, ite2 (fun c => (nomatch (of_decide_eq_true c))) (fun _ => ?_)⟩
      refine ⟨_, rfl, ⟨_, _, _, _, true, rfl, .ty _, tyx hh, kit_ty (by decide +kernel), _, rfl, iteT (iteT ?_)⟩⟩
      refine ⟨_, rfl, ⟨_, _, _, _, true, rfl, .ty _, tyx hh, kit_ty (by decide +kernel), _, rfl, iteT ⟨_, rfl, ⟨_, _, _, _, true, rfl, .ty _, tyx hh, kit_ty (by decide +kernel), _, rfl, iteT ?_⟩⟩⟩⟩
      refine ⟨_, rfl, _, rfl, rfl, ?_⟩
      rw [decide_eq_true rfl]
      exact q0
    | int i =>
      have hh : TyN H (V.int i) "int" := rfl
      refine ⟨_, rfl, ⟨_, _, _, _, false, rfl, .ty _, tyx hh, kit_ty (by decide +kernel), _, rfl, iteF ⟨_, rfl, ⟨_, _, _, _, false, rfl, .ty _, tyx hh, kit_ty (by decide +kernel), _, rfl, iteF ?_⟩⟩⟩⟩
      refine ⟨_, rfl, rfl, _, rfl, ite2 (fun c => (nomatch (of_decide_eq_true c))) (fun _ => ?_)⟩
      refine ⟨_, rfl, ⟨_, _, _, _, false, rfl, .ty _, tyx hh, kit_ty (by decide +kernel), _, rfl, iteF ⟨_, rfl, ⟨_, _, _, _, false, rfl, .ty _, tyx hh, kit_ty (by decide +kernel), _, rfl, iteF ?_⟩⟩⟩⟩
      refine ⟨_, rfl, ⟨_, _, _, _, true, rfl, .ty _, tyx hh, kit_ty (by decide +kernel), _, rfl, iteT ?_⟩⟩
      refine ⟨_, rfl, ⟨_, _, _, _, true, rfl, .ty _, tyx hh, kit_ty (by decide +kernel), _, rfl, iteT ?_⟩⟩
      refine ⟨_, rfl, _, rfl, rfl, ?_⟩
      rw [decide_eq_true rfl]
      exact q0
    | str z =>
      have hh : TyN H (V.str z) "str" := rfl
      refine ⟨_, rfl, ⟨_, _, _, _, false, rfl, .ty _, tyx hh, kit_ty (by decide +kernel), _, rfl, iteF ⟨_, rfl, ⟨_, _, _, _, false, rfl, .ty _, tyx hh, kit_ty (by decide +kernel), _, rfl, iteF ?_⟩⟩⟩⟩
      refine ⟨_, rfl, rfl, _, rfl, ite2 (fun c => (nomatch (of_decide_eq_true c))) (fun _ => ?_)⟩
      refine ⟨_, rfl, ⟨_, _, _, _, false, rfl, .ty _, tyx hh, kit_ty (by decide +kernel), _, rfl, iteF ⟨_, rfl, ⟨_, _, _, _, false, rfl, .ty _, tyx hh, kit_ty (by decide +kernel), _, rfl, iteF ?_⟩⟩⟩⟩
      refine ⟨_, rfl, ⟨_, _, _, _, false, rfl, .ty _, tyx hh, kit_ty (by decide +kernel), _, rfl, iteF ?_⟩⟩
      refine ⟨_, rfl, ⟨_, _, _, _, true, rfl, .ty _, tyx hh, kit_ty (by decide +kernel), _, rfl, iteT ?_⟩⟩
      refine ⟨_, rfl, _, rfl, rfl, ?_⟩
      rw [decide_eq_true rfl]
      exact q0
    | byt _ => cases hf
    | flt _ => cases hf
    | ty _ => cases hf
    | ref _ => cases hf
  · -- the two sequences, item by item
    have seq : ∀ (hp : SqL K H p xs ∨ SqT K H p xs) (hr' : SqL K H r ys ∨ SqT K H r ys), tRet (tOp rEq (tCB (fun xs H Q => ∃ (p : Addr) (ys : List V), xs = [.ref p] ∧ (SqL K H p ys ∨ SqT K H p ys) ∧ Q (.int ys.length) H) (tCons
        (tLc (iRng1 (tCons (tCB (fun xs H Q => ∃ (p : Addr) (ys : List V), xs = [.ref p] ∧ (SqL K H p ys ∨ SqT K H p ys) ∧ Q (.int ys.length) H) (tCons (tVar 1) tNil)) tNil)) (gName 2)
          (tNot (tB (tCall (spSame n) [] E0 (tCons (tOp (rIx K) (tVar 0) (tVar 2)) (tCons (tOp (rIx K) (tVar 1) (tVar 2)) tNil))))) (tVar 2) [2]) tNil)) (tC (.int 0)))
        { nx := fun _ H' => Q .non H', rt := Q } [some (.ref p), some (.ref r), none] H := by
      intro hp hr'
      refine ⟨_, rfl, r, _, rfl, hr', _, rfl, by omega, by omega, fun D nD => ?_⟩
      refine lc_range (n := ys.length) (fun i H' => H' D = some (.lst []) ∧ Same H H') ⟨upd_same, same_new nD _⟩ (fun i H' hi hh => ?_) (fun H' hh => ?_)
      · obtain ⟨h1, h2⟩ := hh
        have hx : xs[i]? = some xs[i] := List.getElem?_eq_getElem (by omega)
        have hy : ys[i]? = some ys[i] := List.getElem?_eq_getElem hi
        have hax : atI xs (0 + (i : Int)) = some xs[i] := by rw [Int.zero_add]; exact atI_nat hx
        have hay : atI ys (0 + (i : Int)) = some ys[i] := by rw [Int.zero_add]; exact atI_nat hy
        have ix : ∀ {z : Addr} {zs : List V} {v : V} {Q : VK}, (SqL K H z zs ∨ SqT K H z zs) → atI zs (0 + (i : Int)) = some v → Q v H' → rIx K (.ref z) (.int (0 + (i : Int))) H' Q := fun hz ha hq => by
          rcases hz with hz | hz
          · exact .inl ⟨_, _, _, _, rfl, rfl, h2.seq hz, ha, hq⟩
          · refine .inr (.inl ⟨_, _, _, _, rfl, rfl, ?_, ha, hq⟩)
            rcases hz with (hz | ⟨o, hz⟩) | hz
            · exact .inl (.inl (h2 _ _ hz))
            · exact .inl (.inr ⟨o, h2 _ _ hz⟩)
            · exact .inr hz
        refine ⟨rfl, _, rfl, _, rfl, ix hp hax ⟨_, rfl, _, rfl, ix hr' hay ?_⟩⟩
        exact ⟨_, _, rfl, (hall i _ _ hx hy).keep h2, fun H2 e2 => ⟨_, rfl, iteF ⟨e2 _ _ h1, h2.trans e2⟩⟩⟩
      · exact ⟨D, _, rfl, .inl (SqL.of hh.1), rfl, q H' hh.2⟩
    rcases hh with ⟨a, b⟩ | ⟨a, b⟩
    · have h1 : TyN H (V.ref p) "list" := .inl ⟨rfl, _, a⟩
      have hh : TyN H (V.ref r) "list" := .inl ⟨rfl, _, b⟩
      refine ⟨_, rfl, ⟨_, _, _, _, false, rfl, .ty _, tyx hh, kit_ty (by decide +kernel), _, rfl, iteF ⟨_, rfl, ⟨_, _, _, _, true, rfl, .ty _, tyx hh, kit_ty (by decide +kernel), _, rfl, iteT ?_⟩⟩⟩⟩
      refine ⟨_, rfl, ⟨_, _, _, _, false, rfl, .ty _, tyx hh, kit_ty (by decide +kernel), _, rfl, ⟨_, _, _, _, false, rfl, .ty _, tyx h1, kit_ty (by decide +kernel), rfl, _, rfl, iteF ?_⟩⟩⟩
      refine ⟨_, rfl, ⟨_, _, _, _, true, rfl, .ty _, tyx hh, kit_ty (by decide +kernel), _, rfl, ⟨_, _, _, _, true, rfl, .ty _, tyx h1, kit_ty (by decide +kernel), rfl, _, rfl, iteF ?_⟩⟩⟩
      refine ⟨_, rfl, p, _, rfl, .inl (SqL.of a), _, rfl, r, _, rfl, .inl (SqL.of b), rfl, _, rfl, ?_⟩
      rw [hl, decide_eq_true rfl]
      exact iteF (seq (.inl (SqL.of a)) (.inl (SqL.of b)))
    · have h1 : TyN H (V.ref p) "tuple" := .inr (.inl ⟨rfl, _, a⟩)
      have hh : TyN H (V.ref r) "tuple" := .inr (.inl ⟨rfl, _, b⟩)
      refine ⟨_, rfl, ⟨_, _, _, _, true, rfl, .ty _, tyx hh, kit_ty (by decide +kernel), _, rfl, iteT (iteT ?_)⟩⟩
      refine ⟨_, rfl, ⟨_, _, _, _, true, rfl, .ty _, tyx hh, kit_ty (by decide +kernel), _, rfl, ⟨_, _, _, _, true, rfl, .ty _, tyx h1, kit_ty (by decide +kernel), rfl, _, rfl, iteF ?_⟩⟩⟩
      refine ⟨_, rfl, ⟨_, _, _, _, false, rfl, .ty _, tyx hh, kit_ty (by decide +kernel), _, rfl, ⟨_, _, _, _, false, rfl, .ty _, tyx h1, kit_ty (by decide +kernel), rfl, _, rfl, iteF ?_⟩⟩⟩
      refine ⟨_, rfl, p, _, rfl, .inr (SqT.of a), _, rfl, r, _, rfl, .inr (SqT.of b), rfl, _, rfl, ?_⟩
      rw [hl, decide_eq_true rfl]
      exact iteF (seq (.inr (SqT.of a)) (.inr (SqT.of b)))
theorem ok_same {f : Addr} {fd : FuncData} (F : Fun K "_law_same" "_law_same" sSame f fd) (B : Blt mg) (bR : Binds K fd ["actual", "due"] []) (mR : mg "_law_same" = some (.ref f)) : ∀ n : Nat, FnOk P w K mg base CX0 n f fd ["actual", "due"] (spSame n)
  | 0 => none_left fun vs H Q E h => by
    obtain ⟨x, y, _, h, _⟩ := h
    exact h
  | n + 1 => ok_same1 F B (ok_same F B bR mR n) bR mR
end
end Cf
namespace Cf
open PySem L2
abbrev sPool : Stmt := top 10
def spPool (K : PySem.W.Frag) : Sp := fun vs H Q _ => ∃ (a : Addr) (ns : List Int), vs = [.ref a] ∧ SqL K H a (ns.map V.int) ∧ ns.length ≤ 63 ∧ ∀ (p b : Addr) (H' : Hp), PoolAt H' p b → Same H H' → H p = none → Q (.ref p) H'
section
variable {P : Program} {w : World} {K : PySem.W.Frag} {mg : Str → Option Value} {base : Heap}
theorem scPool : FnScope ["script", "salt", "cell"] ["script"] (defScope sPool) := ⟨rfl, rfl, rfl, by decide +kernel, rfl, by decide +kernel, by decide +kernel⟩
theorem ok_pool {f : Addr} {fd : FuncData} (F : Fun K "_law_pool" "_law_pool" sPool f fd) (B : Blt mg) : FnOk P w K mg base CX0 1 f fd ["script"] (spPool K) := by
  refine F.ok scPool (fun vs H Q E h => ?_) (fun cdv A outer s H vs Q E hr h => ?_)
  · obtain ⟨a, ns, rfl, _⟩ := h
    rfl
  obtain ⟨a, ns, rfl, hS, hl, q⟩ := h
  have nd := scPool.nd
  refine ⟨_, pss_cons (ps_set (i := 1) nd rfl (.inl rfl) pe_int)
    (pss_cons (ps_for PassesOwn.never rfl (pi_list (pe_slice sl_list (pv 0) po_none (po_some pe_int))) (pg_name (i := 2) nd rfl (.inl rfl))
      (pss_one (ps_set (i := 1) nd rfl (.inl rfl) (pe_op op_mod (pe_callTy call_int1 (by rfl) B.int (by decide +kernel) (pa_cons (pe_op op_add (pe_op op_mul (pv 1) pe_int) (pv 2)) pa_nil)) pe_int))))
    (pss_one (ps_ret (pe_lst (pa_cons (pe_callTy call_list_of (by rfl) B.list (by decide +kernel) (pa_cons (pv 0) pa_nil)) (pa_cons pe_int (pa_cons pe_int (pa_cons pe_int (pa_cons (pv 1) pa_nil))))))))), ?_⟩
  refine ⟨_, rfl, 63, rfl, a, _, rfl, hS, fun p np => ?_⟩
  have sm := same_new np (HO.lst (cutV (ns.map V.int) none (some 63)))
  have hsub : ∀ v ∈ cutV (ns.map V.int) none (some 63), ∃ i : Int, v = .int i := fun v hv => by
    have h1 := List.mem_of_mem_drop (List.mem_of_mem_take hv)
    obtain ⟨i, _, e⟩ := List.mem_map.mp h1
    exact ⟨i, e.symm⟩
  refine ⟨p, rfl, ⟨_, SqL.of upd_same⟩, ?_⟩
  refine for_list (xs := cutV (ns.map V.int) none (some 63)) (fun i σ H' => H' = upd H p (.lst (cutV (ns.map V.int) none (some 63))) ∧ ∃ (t : Int) (c : Option V), σ = [some (.ref a), some (.int t), c])
    ⟨rfl, _, _, rfl⟩ (fun i σ H' _ hp => by rw [hp.1]; exact SqL.of upd_same) (fun i x σ H' hx hp => ?_) (fun σ H' hp => ?_)
  · obtain ⟨rfl, t, c, rfl⟩ := hp
    obtain ⟨i, rfl⟩ := hsub x (List.mem_of_getElem? hx)
    refine ⟨_, rfl, _, _, rfl, rfl, .inr ⟨by decide, by decide⟩, _, rfl, _, _, rfl, rfl, .inl ⟨_, rfl, _, _, rfl, rfl, (by show (0 : Int) < _; decide), ?_⟩⟩
    exact ⟨rfl, _, _, rfl⟩
  · obtain ⟨rfl, t, c, rfl⟩ := hp
    refine ⟨_, rfl, a, _, rfl, .inl (sm.seq hS), fun l nl => ?_⟩
    refine ⟨_, rfl, (by show 5 ≤ sizeLine; decide), fun m nm => ?_⟩
    have s2 := sm.trans ((same_new nl (HO.lst (ns.map V.int))).trans (same_new nm (HO.lst [.ref l, .int 0, .int 0, .int 0, .int t])))
    refine q m l _ ⟨ns, 0, 0, 0, t, upd_same, ?_, hl, Int.le_refl 0⟩ s2 ((sm.trans (same_new nl (HO.lst (ns.map V.int)))).free nm)
    rw [upd_ne (ne_of_none upd_same nm), upd_same]
end
end Cf
namespace Cr
open PySem PySem.Spec PyProof.Rows L2
/-! list.extend by a tuple -/
theorem ext_tup (l b : Addr) (items items2 : Array Value) (n n2 : Nat) (od : Option Addr) (sl : Array (Option Value)) (h0 : ¬(!items.isEmpty && Builtin.List.listTooLong (items.size + items2.size)) = true)
    (h1 : items.size ≤ sizeLine) (h2 : (items ++ items2).size ≤ sizeLine + 1) :
    Meets (Builtin.«list.extend» ⟨[.ref l, .ref b], []⟩) (fun _ R s =>
      s.heap.get? l = some { cls := .type "list", dict := none, data := .seq items n, slots := #[] } ∧
      s.heap.get? b = some ⟨.type "tuple", od, .seq items2 n2, sl⟩ ∧
      R (.ok (.ret Value.none)) { s with heap := s.heap.update l (Obj.mapSeq fun x => x ++ items2), toks := s.toks }) :=
  .of_wp fun prog w A R s h => by
    obtain ⟨hp, g, d, tk, os⟩ := s
    obtain ⟨hl, hb, h⟩ := h
    have f1 := AutoSeq1.idx_int
    have f2 := AutoSeq1.sub_tuple_tuple
    have f3 := AutoSeq1.sub_list_list
    have f4 := AutoSeq1.sub_tuple_list
    have f5 := AutoSeq1.sub_list_tuple
    wp_walk using (wpAny_updateSeq hl rfl (hz := h1) (_hz' := h2)), AutoSeq1.wpAny_loadPart' hl, AutoSeq1.wpAny_loadPart' hb
    exact ⟨_, rfl, h⟩
def rExtT (K : PySem.W.Frag) : V → List V → Hp → VK → Prop := fun x vs H Q => ∃ (l b : Addr) (xs zs : List V), x = .ref l ∧ vs = [.ref b] ∧ H l = some (.lst xs) ∧ H b = some (.tup zs) ∧ xs.length + zs.length ≤ sizeLine ∧ Q .non (upd H l (.lst (xs ++ zs)))
theorem mt_extT {X : Cx} : MtM X "list.extend" (rExtT X.K) := by
  intro pins s σ H x vs v us Q I rx rv ⟨l, b, xs, zs, ex, evs, hL, hB, hz, q⟩
  subst ex evs
  obtain rfl : v = Value.ref l := rx
  obtain ⟨u, rfl, ru⟩ := rv.one
  obtain rfl : u = Value.ref b := ru
  obtain ⟨z1, i1, n1, r1, len1, e1⟩ := I.lstM hL
  obtain ⟨z2, i2, r2, ob, e2, c2, n2, d2⟩ := (show ObjOk X.prog X.w H s.heap b (.tup zs) from I.hok b _ hB)
  obtain ⟨oc, od, dt, sl⟩ := ob
  simp only at c2 d2
  subst c2 d2
  have len2 := r2.length
  have hh : (i1.toArray ++ i2.toArray).size ≤ sizeLine := by rw [Array.size_append, List.size_toArray, List.size_toArray]; omega
  have h0 : ¬(!i1.toArray.isEmpty && Builtin.List.listTooLong (i1.toArray.size + i2.toArray.size)) = true := by
    rw [notLongL (by rw [← Array.size_append]; exact hh), Bool.and_false]
    exact Bool.false_ne_true
  refine call_meets F.slot_list_extend ⟨_, e1, rfl⟩ F.entry_list_extend (F.args_list_extend_2 _ _)
    (ext_tup l b i1.toArray i2.toArray n1 n2 od sl h0 (by rw [List.size_toArray]; omega) (by omega)) ⟨e1, e2, ?_⟩
  exact ⟨.non, _, I.lset (its' := i1 ++ i2) hL e1 (by simp) (r1.append r2) (by rw [List.length_append]; exact hz), rfl, q⟩
/-! t[::-1] and t[:0:-1] of a tuple -/
theorem back_adjust {hi : Option Int} {k n : Nat} (h : (hi = none ∧ k = 0) ∨ (hi = some 0 ∧ k = 1 ∧ 0 < n)) : Builtin.Slice.sliceAdjust none hi (-1) (n : Int) = ((n : Int) - 1, (k : Int) - 1) := by
  rcases h with ⟨rfl, rfl⟩ | ⟨rfl, rfl, h⟩
  · rfl
  · have e : ¬ ((0 : Int) < 0) := by decide
    show ((n : Int) - 1, if (0 : Int) < 0 then max (0 + (n : Int)) (-1) else min 0 ((n : Int) - 1)) = _
    rw [if_neg e]
    exact Prod.ext rfl (by show min 0 ((n : Int) - 1) = ((1 : Nat) : Int) - 1; omega)
theorem back_places (k n : Nat) : Builtin.Slice.slicePlaces ((n : Int) - 1) ((k : Int) - 1) (-1) = n - k := by
  have e : ¬ ((-1 : Int) > 0) := by decide
  unfold Builtin.Slice.slicePlaces
  rw [if_neg e]
  by_cases h : (n : Int) - 1 > (k : Int) - 1
  · rw [if_pos h]
    show (((n : Int) - 1 - ((k : Int) - 1) - 1) / 1 + 1).toNat = n - k
    rw [Int.ediv_one]
    omega
  · rw [if_neg h]
    show 0 = n - k
    omega
theorem back_pick (xs : Array Value) (k : Nat) : ∀ c : Nat, c ≤ xs.size - k → (List.range c).filterMap (fun (m : Nat) => xs[((xs.size : Int) - 1 + (m : Int) * (-1)).toNat]?) = ((xs.toList.drop k).reverse).take c
  | 0, _ => by simp
  | c + 1, h => by
    have hl : (xs.toList.drop k).length = xs.size - k := by rw [List.length_drop, Array.length_toList]
    have e : ((xs.size : Int) - 1 + (c : Int) * (-1)).toNat = xs.size - 1 - c := by omega
    rw [List.range_succ, List.filterMap_append, back_pick xs k c (by omega), List.take_add_one, List.getElem?_reverse (by omega), List.getElem?_drop, hl]
    have e2 : k + (xs.size - k - 1 - c) = xs.size - 1 - c := by omega
    rw [e2, Array.getElem?_toList]
    congr 1
    rw [List.filterMap_cons, e]
    cases xs[xs.size - 1 - c]? <;> rfl
section
variable {prog : Program} {w : World} {A : Around} {E : Value → Shared → Prop} {s : Shared}
theorem applied_back {sl : Addr} {vl vu vs : Value} {hi : Option Int} {n k : Nat} {Q : Int × Int × Nat → Shared → Prop} (hs : s.heap.IsSliceOf sl vl vu vs) (pl : IsPart vl none) (pu : IsPart vu hi) (ps : IsPart vs (some (-1)))
    (hk : (hi = none ∧ k = 0) ∨ (hi = some 0 ∧ k = 1 ∧ 0 < n)) (h : Q ((n : Int) - 1, -1, n - k) s) : wpAny (model prog w) A (Builtin.Slice.sliceApplied (.ref sl) (pure (n : Int))) Q E s := by
  obtain ⟨ob, hob, _, hd⟩ := id hs
  unfold Builtin.Slice.sliceApplied Builtin.Slice.sliceFields
  have f2 : ∀ {R : Value × Value × Value → Shared → Prop}, R (vl, vu, vs) s → wpAny (model prog w) A (do return (← field (.ref sl) 0, ← field (.ref sl) 1, ← field (.ref sl) 2)) R E s := fun hR =>
    wpAny_bind (wpAny_field hob hd (x := vl) rfl (wpAny_bind (wpAny_field hob hd (x := vu) rfl (wpAny_bind (wpAny_field hob hd (x := vs) rfl (wpAny_pure hR))))))
  refine wpAny_bind (f2 (wpAny_bind (HT.slicePart_ ps ?_)))
  show wpAny _ _ (if ((-1 : Int) == 0) = true then _ else _) _ _ s
  rw [if_neg (by decide)]
  refine wpAny_bind (HT.slicePart_ pl (wpAny_bind (HT.slicePart_ pu (wpAny_bind (wpAny_pure ?_)))))
  show wpAny _ _ (match Builtin.Slice.sliceAdjust none hi (-1) (n : Int) with | (lo, up) => pure (lo, (-1 : Int), Builtin.Slice.slicePlaces lo up (-1))) _ _ s
  rw [back_adjust hk]
  show wpAny _ _ (pure ((n : Int) - 1, (-1 : Int), Builtin.Slice.slicePlaces ((n : Int) - 1) ((k : Int) - 1) (-1))) _ _ s
  rw [back_places]
  exact wpAny_pure h
theorem item_back {t sl : Addr} {items : Array Value} {vl vu vs : Value} {hi : Option Int} {k : Nat} {Q : Value → Shared → Prop} (ht : IsTup s.heap t items) (hs : s.heap.IsSliceOf sl vl vu vs) (pl : IsPart vl none) (pu : IsPart vu hi) (ps : IsPart vs (some (-1)))
    (hk : (hi = none ∧ k = 0) ∨ (hi = some 0 ∧ k = 1 ∧ 0 < items.size)) (hz : items.size ≤ sizeLine)
    (h : Q (.ref s.heap.objs.size) { s with heap := s.heap.push { cls := .type "tuple", data := .seq ((items.toList.drop k).reverse).toArray } }) : wpAny (model prog w) A (getItem (.ref t) (.ref sl)) Q E s := by
  obtain ⟨ob, hob, hc, _⟩ := id hs
  have isl : s.TypeIs (.ref sl) "slice" := ⟨ob, hob, hc⟩
  have room : sizeOk (.seq ((items.toList.drop k).reverse).toArray) := by
    show ((items.toList.drop k).reverse).toArray.size ≤ sizeLine
    rw [List.size_toArray, List.length_reverse, List.length_drop, Array.length_toList]
    omega
  unfold getItem
  try with_reducible refine wpAny_holding ?_
  first | refine wpAny_bind (wpAny_pure ?_) | skip
  refine wpAny_bind (wpAny_sequenceKey ht.typeIs (by decide) (wpAny_bind ?_))
  refine wpAny_callSpecial?_slot (name := Str.ofString "__getitem__") ht.typeIs PyProof.Rows.slot_tuple_getitem ?_
  refine wpAny_call_entry PyProof.Rows.slot_tuple_getitem ht.typeIs entry_tuple_getitem ?_ (args_tuple_getitem _ _)
  show wpAny _ _ (Builtin.Tuple.tupleItemsOf (.ref t) >>= _) _ _ s
  refine wpAny_bind (tupleItemsOf_ ht (wpAny_bind (wpAny_typeOf isl ?_)))
  rw [if_pos (by decide)]
  refine wpAny_bind (applied_back hs pl pu ps hk ?_)
  have hno : ¬ ((((items.size : Int) - 1 == 0) && ((-1 : Int) == 1) && (items.size - k == items.size)) = true) := by
    rw [show ((-1 : Int) == 1) = false by decide, Bool.and_false, Bool.false_and]
    exact Bool.false_ne_true
  show wpAny _ _ (if (((items.size : Int) - 1 == 0) && ((-1 : Int) == 1) && (items.size - k == items.size)) = true then _ else _) _ _ s
  have hp := back_pick items k (items.size - k) (Nat.le_refl _)
  rw [List.take_of_length_le (by rw [List.length_reverse, List.length_drop, Array.length_toList]; exact Nat.le_refl _)] at hp
  rw [if_neg hno, hp]
  first
    | exact wpAny_bind (m := Builtin.Tuple.tupleExact _) (wpAny_newObj_type (wpAny_pure ⟨_, rfl, wpAny_pure h⟩) room)
    | exact wpAny_bind (m := Builtin.Tuple.tupleExact _) (wpAny_newObj_type (wpAny_bind (wpAny_pure (wpAny_pure ⟨_, rfl, wpAny_pure h⟩))) room)
    | exact wpAny_bind (wpAny_bind (m := Builtin.Tuple.tupleExact _) (wpAny_newObj_type (wpAny_pure (wpAny_pure ⟨_, rfl, wpAny_pure h⟩)) room))
    | exact wpAny_bind (wpAny_bind (m := Builtin.Tuple.tupleExact _) (wpAny_newObj_type (wpAny_pure ⟨_, rfl, wpAny_pure h⟩) room))
end
section
variable {X : Cx}
/-- t[:hi:-1], hi left out or 0: k items at the front are left out, the rest backwards -/
def tBack (K : PySem.W.Frag) (te : TE) (tu : TO) : TE := fun σ H Q => te σ H fun x H1 => tu σ H1 fun u H2 => ∃ (a : Addr) (xs : List V) (k : Nat), x = .ref a ∧ SqT K H2 a xs ∧ ((u = none ∧ k = 0) ∨ (u = some 0 ∧ k = 1 ∧ 0 < xs.length)) ∧
  ∀ p, H2 p = none → Q (.ref p) (upd H2 p (.tup (xs.drop k).reverse))
theorem pe_back {e : Expr} {hi : Option Expr} {te : TE} {tu : TO} {kk : Nat} {p1 p2 p3 pos : Pos} (he : PE X e te) (hu : PO X hi tu) :
    PE X (.Subscript e (.Slice none hi (some (.UnaryOp .USub (.Constant (.int 1) kk p1) p2)) p3) pos) (tBack X.K te tu) := by
  refine ⟨fun pins s0 σ H0 Q I0 h => Subscript_ (thn (he.run pins s0 σ H0 _ I0 h) fun v s1 ⟨x, H1, I1, rx, q1⟩ => ?_)⟩
  have hst : PO X (some (.UnaryOp .USub (.Constant (.int 1) kk p1) p2)) (tPart (tUn (rU fun i => .int (-i)) (tC (.int 1)))) := po_some (pe_un un_neg pe_int)
  refine wpAny_Slice (thn (po_none.run pins s1 σ H1 (fun o G => o = none ∧ G = H1) I1 ⟨rfl, rfl⟩) fun vl s2 ⟨o1, G, I2, pl, eo, eG⟩ => ?_)
  subst eo eG
  refine thn (hu.run pins s2 σ G _ I2 q1) fun vu s3 ⟨u, G2, I3, pu, q2⟩ => ?_
  refine thn (hst.run pins s3 σ G2 (fun o G => o = some (-1) ∧ G = G2) I3 ⟨1, rfl, -1, rfl, rfl, rfl⟩) fun vs s4 ⟨o2, G3, I4, ps, eo2, eG2⟩ => ?_
  subst eo2 eG2
  obtain ⟨a, xs, k, ex, hx, hk, q⟩ := q2
  subst ex
  obtain rfl : v = Value.ref a := rx
  have I5 : Inv X pins σ G3 { s4 with heap := s4.heap.push { cls := .type "slice", data := .fields #[vl, vu, vs] } } := I4.kept (t' := s4.toks) fun b ob q => Heap.get?_push_of_some _ q
  obtain ⟨its, r, ht, hz⟩ := I5.tuple hx
  have hlen := r.length
  show wpAny (model X.prog X.w) X.A (subscriptTail e (.Slice none hi (some (.UnaryOp .USub (.Constant (.int 1) kk p1) p2)) p3) (.ref a) (.ref s4.heap.objs.size)) (EP X pins σ Q) X.xe _
  refine tail_any (ops := [.ref a, .ref s4.heap.objs.size]) ht.typeIs PyProof.Rows.slot_tuple_getitem.lookup ?_ (by with_unfolding_all rfl)
  refine item_back (k := k) ht (Heap.IsSliceOf.new _ vl vu vs) pl pu ps ?_ (by rw [List.size_toArray]; omega) ?_
  · rcases hk with h | ⟨h1, h2, h3⟩
    · exact .inl h
    · exact .inr ⟨h1, h2, by rw [List.size_toArray]; omega⟩
  refine ⟨.ref _, _, I5.laid (t' := s4.toks) (o := .tup (xs.drop k).reverse) (fun b ob q => Heap.get?_push_of_some _ q) (Nat.le_refl _) ?_, rfl, q _ (I5.hok.fresh (Nat.le_refl _))⟩
  exact ⟨by rw [List.length_reverse, List.length_drop]; omega, _, (r.drop k).reverse, IsTup.new _ _⟩
end
end Cr
namespace Cr
open PySem PySem.Spec PyProof.Rows L2
section
variable {J : It} {n : Nat} {G : Hp → Prop} {Y : Nat → Hp → V → Hp → Prop}
/-- a dict comprehension over a walk: what holds (Pv) by the turn and the heap, the new dict at D within it -/
theorem dc_it (walk : Walk J n G Y) {g : TG} {tt : TT} {tk tv : TE} {vs : List Nat} {σ : L2.St} {H1 : Hp} {D : Addr} {Qd : Hp → Prop} (Pv : Nat → Hp → Prop) (start : Pv 0 (upd H1 D (.dK []))) (stays : ∀ i H, i ≤ n → Pv i H → G H)
    (turn : ∀ i x H H', i < n → Pv i H → Y i H x H' → g x (wipe σ vs) H' fun σ2 H2 => wipe σ2 vs = wipe σ vs ∧ tt σ2 H2 fun b H3 =>
      if b = true then tk σ2 H3 fun y H4 => tv σ2 H4 fun z H5 => ∃ kvs k, y = kV k ∧ H5 D = some (.dK kvs) ∧ kvs.length < sizeLine ∧ Pv (i + 1) (upd H5 D (.dK (putK kvs k z))) else Pv (i + 1) H3) (fin : ∀ H, Pv n H → Qd H) :
    ∃ W : Nat → Nat → Hp → Prop, (∃ m, W 0 m (upd H1 D (.dK []))) ∧ ∀ i m H, W i m H →
      (J.stop i H ∧ Qd H) ∨ (J.go i H ∧ ∃ Nx : Hp → Prop, (∀ H', Nx H' → ∃ m', m' < m ∧ W (i + 1) m' H') ∧ ∀ x H', J.yld i H x H' → g x (wipe σ vs) H' fun σ2 H2 => wipe σ2 vs = wipe σ vs ∧ tt σ2 H2 fun b H3 =>
        if b = true then tk σ2 H3 fun y H4 => tv σ2 H4 fun z H5 => ∃ kvs k, y = kV k ∧ H5 D = some (.dK kvs) ∧ kvs.length < sizeLine ∧ Nx (upd H5 D (.dK (putK kvs k z))) else Nx H3) := by
  refine ⟨fun i m G' => (i ≤ n ∧ m = n - i) ∧ Pv i G', ⟨n, ⟨Nat.zero_le _, rfl⟩, start⟩, fun i m G' hw => ?_⟩
  obtain ⟨⟨hi, rfl⟩, p⟩ := hw
  have st := stays i G' hi p
  rcases Nat.lt_or_ge i n with hlt | hge
  · exact .inr ⟨walk.goes i G' hlt st, Pv (i + 1), fun H' p' => ⟨n - (i + 1), by omega, ⟨hlt, rfl⟩, p'⟩, fun x H' y => turn i x G' H' hlt p (walk.yields i G' x H' hlt st y)⟩
  · obtain rfl : i = n := by omega
    exact .inl ⟨walk.stops G' st, fin G' p⟩
end
/-- how many different ints are in a list -/
def many (ns : List Int) : Nat := (firstMet (fun i => ns.getD i 0) ns.length).length
section
variable {X : Cx}
def tSize (K : PySem.W.Frag) (ta : TE) : TE := fun σ H Q => ta σ H fun x H1 => ∃ (l : Addr) (ns : List Int), x = .ref l ∧ SqL K H1 l (ns.map V.int) ∧ ns.length ≤ 4000 ∧ Q (.int (many ns : Nat)) H1
/-- len(set(xs)), xs a list of ints -/
theorem pe_lenSet {e : Expr} {ta : TE} {p p2 q pos : Pos} (gl : Gl X "len") (ml : X.mg "len" = none) (gs : Gl X "set") (ms : X.mg "set" = none) (ha : PE X e ta) (hc : X.calm = true := by rfl)
    (na : starEach [e] X.env = (false, eval e X.env) :: starEach [] X.env := by rfl) : PE X (.Call (.Name "len" p) [.Call (.Name "set" p2) [e] [] q] [] pos) (tSize X.K ta) := by
  refine ⟨fun pins s σ H Q I h => Call_ (ld_blt I gl ml boot_len (PyProof.Rows.callWith_builtin1 (PyProof.Rows.args_cons (Call_ (ld_blt I gs ms boot_set ?_)) rfl) rfl rfl))⟩
  refine PyProof.Rows.callWith_type1 (PyProof.Rows.args_cons (thn (ha.run pins s σ H _ I h) fun v s1 ⟨x, H1, I1, r1, q1⟩ => PyProof.Rows.args_nil ?_) na) na rfl
  obtain ⟨l, ns, ex, hq, hl, q1⟩ := q1
  subst ex
  obtain rfl : v = Value.ref l := r1
  obtain ⟨its, r, pl, hz⟩ := I1.list hq
  have es : its.toArray.size = ns.length := by rw [List.size_toArray, ← r.length, List.length_map]
  refine call_set_list (I1.ok.hd hc) pl.isList (by simpa using RZ.intsAre_vals r) (by rw [es]; unfold scanBound; omega) fun h' tk hS hk => PyProof.Rows.args_nil ?_
  rw [es] at hS
  obtain ⟨o, en, ep, t, ho, hex, hd, _, _, _, hf, hn⟩ := hS
  have lm := firstMet_length_le (fun i => ns.getD i 0) ns.length
  refine call_len_set ho hex hd hf (by rw [hn]; omega) ⟨.int (many ns : Nat), H1, (I1.kept (t' := tk) fun b o e => hk b o (Heap.lt_size e) e).tok _, ⟨_, by rw [hn]; rfl⟩, q1⟩
end
end Cr
namespace Cf
open PySem L2
mutual
def Tm.size : Tm → Nat
  | .var _ => 1
  | .node _ ps => 1 + Tm.sizes ps
def Tm.sizes : List Tm → Nat
  | [] => 0
  | t :: ts => t.size + Tm.sizes ts
end
mutual
def Tm.high : Tm → Nat
  | .var _ => 1
  | .node _ ps => 1 + Tm.highs ps
def Tm.highs : List Tm → Nat
  | [] => 0
  | t :: ts => max t.high (Tm.highs ts)
end
mutual
def Tm.occ : Tm → List Int
  | .var n => [n]
  | .node _ ps => Tm.occs ps
def Tm.occs : List Tm → List Int
  | [] => []
  | t :: ts => t.occ ++ Tm.occs ts
end
theorem Tm.size_pos (t : Tm) : 0 < t.size := by
  cases t with
  | var n => exact Nat.succ_pos 0
  | node w ps => show 0 < 1 + Tm.sizes ps; omega
theorem Tm.high_pos (t : Tm) : 0 < t.high := by
  cases t with
  | var n => exact Nat.succ_pos 0
  | node w ps => show 0 < 1 + Tm.highs ps; omega
theorem Tm.sizes_append : ∀ (ts rs : List Tm), Tm.sizes (ts ++ rs) = Tm.sizes ts + Tm.sizes rs
  | [], rs => by show Tm.sizes rs = 0 + Tm.sizes rs; omega
  | t :: ts, rs => by
    show t.size + Tm.sizes (ts ++ rs) = t.size + Tm.sizes ts + Tm.sizes rs
    rw [Tm.sizes_append ts rs]; omega
theorem Tm.sizes_rev : ∀ ts : List Tm, Tm.sizes ts.reverse = Tm.sizes ts
  | [] => rfl
  | t :: ts => by
    rw [List.reverse_cons, Tm.sizes_append, Tm.sizes_rev ts]
    show Tm.sizes ts + (t.size + 0) = t.size + Tm.sizes ts
    omega
theorem Tm.sizes_len : ∀ ts : List Tm, ts.length ≤ Tm.sizes ts
  | [] => Nat.le_refl _
  | t :: ts => by
    have h := t.size_pos
    have ih := Tm.sizes_len ts
    show ts.length + 1 ≤ t.size + Tm.sizes ts
    omega
theorem Tm.occs_append : ∀ (ts rs : List Tm), Tm.occs (ts ++ rs) = Tm.occs ts ++ Tm.occs rs
  | [], rs => rfl
  | t :: ts, rs => by
    show t.occ ++ Tm.occs (ts ++ rs) = (t.occ ++ Tm.occs ts) ++ Tm.occs rs
    rw [Tm.occs_append ts rs, List.append_assoc]
mutual
theorem Tm.occ_len : ∀ t : Tm, t.occ.length ≤ t.size
  | .var n => Nat.le_refl _
  | .node w ps => by
    have h := Tm.occs_len ps
    show (Tm.occs ps).length ≤ 1 + Tm.sizes ps
    omega
theorem Tm.occs_len : ∀ ts : List Tm, (Tm.occs ts).length ≤ Tm.sizes ts
  | [] => Nat.le_refl _
  | t :: ts => by
    have h := Tm.occ_len t
    have h2 := Tm.occs_len ts
    show (t.occ ++ Tm.occs ts).length ≤ t.size + Tm.sizes ts
    rw [List.length_append]
    omega
end
theorem TmsAt.last {H : Hp} : ∀ {us : List V} {v : V} {ts : List Tm}, TmsAt H (us ++ [v]) ts → ∃ rs t, ts = rs ++ [t] ∧ TmsAt H us rs ∧ TmAt H v t
  | [], v, _, h => by
    cases h with
    | cons h1 h2 => cases h2; exact ⟨[], _, rfl, .nil, h1⟩
  | u :: us, v, _, h => by
    cases h with
    | cons h1 h2 =>
      obtain ⟨rs, t, rfl, a, b⟩ := TmsAt.last h2
      exact ⟨_ :: rs, t, rfl, .cons h1 a, b⟩
theorem TmsAt.rev {H : Hp} : ∀ {vs : List V} {ts : List Tm}, TmsAt H vs ts → TmsAt H vs.reverse ts.reverse
  | [], _, h => by cases h; exact .nil
  | v :: vs, _, h => by
    cases h with
    | cons h1 h2 =>
      rw [List.reverse_cons, List.reverse_cons]
      exact (TmsAt.rev h2).snoc h1
theorem cut1 (x : V) (vs : List V) : cutV (x :: vs) (some 1) none = vs := by
  unfold cutV
  have e : HT.sIx (x :: vs).length 0 (some 1) = 1 := by
    show (if (1 : Int) < 0 then ((1 : Int) + ((vs.length + 1 : Nat) : Int)).toNat else min (1 : Int).toNat (vs.length + 1)) = 1
    rw [if_neg (by decide)]
    show min 1 (vs.length + 1) = 1
    omega
  rw [e, HT.sIx_none]
  show vs.take (vs.length + 1 - 1) = vs
  rw [Nat.add_sub_cancel, List.take_length]
theorem notWhole (x : V) (vs : List V) : ¬ (HT.sIx (x :: vs).length 0 (some 1) = 0 ∧ HT.sIx (x :: vs).length (x :: vs).length none = (x :: vs).length) := by
  intro h
  have e : HT.sIx (x :: vs).length 0 (some 1) = 1 := by
    show (if (1 : Int) < 0 then ((1 : Int) + ((vs.length + 1 : Nat) : Int)).toNat else min (1 : Int).toNat (vs.length + 1)) = 1
    rw [if_neg (by decide)]
    show min 1 (vs.length + 1) = 1
    omega
  omega
theorem pop_at (us : List V) (v : V) : (us ++ [v])[(us ++ [v]).length - 1]? = some v := by
  rw [List.length_append]
  show (us ++ [v])[us.length + 1 - 1]? = some v
  rw [Nat.add_sub_cancel, List.getElem?_append_right (Nat.le_refl _), Nat.sub_self]
  rfl
theorem last_cases (vs : List V) : vs = [] ∨ ∃ us v, vs = us ++ [v] := by
  rcases List.eq_nil_or_concat vs with h | ⟨us, v, h⟩
  · exact .inl h
  · exact .inr ⟨us, v, by rw [h, List.concat_eq_append]⟩
abbrev sSize : Stmt := top 1
def spSize : Sp := fun vs H Q _ => ∃ (v : V) (t : Tm), vs = [v] ∧ TmAt H v t ∧ t.size ≤ 1000 ∧ ∀ H', Same H H' → Q (nV t.size) H'
section
variable {P : Program} {w : World} {K : PySem.W.Frag} {mg : Str → Option Value} {base : Heap}
theorem scSize : FnScope ["term", "many", "waiting", "part"] ["term"] (defScope sSize) := ⟨rfl, rfl, rfl, by decide +kernel, rfl, by decide +kernel, by decide +kernel⟩
theorem ok_size {f : Addr} {fd : FuncData} (F : Fun K "size" "size" sSize f fd) (B : Blt mg) : FnOk P w K mg base CX0 1 f fd ["term"] spSize := by
  refine F.ok scSize (fun vs H Q E h => ?_) (fun cdv A outer s H vs Q E hr h => ?_)
  · obtain ⟨v, t, rfl, _⟩ := h
    rfl
  obtain ⟨v, t, rfl, ht, hz, q⟩ := h
  have nd := scSize.nd
  refine ⟨_, pss_cons (ps_set (i := 1) nd rfl (.inl rfl) pe_int)
    (pss_cons (ps_set (i := 2) nd rfl (.inl rfl) (pe_lst (pa_cons (pv 0) pa_nil)))
    (pss_cons (ps_while PassesOwn.never (pt_truth (pv 2) (by intro _; rfl))
      (pss_cons (ps_set (i := 3) nd rfl (.inl rfl) (pe_bm0 PySem.F.plainAttrs_list PySem.F.slot_list_pop PySem.F.type_list_pop mt_pop (pv 2)))
      (pss_cons (ps_aug (i := 1) nd rfl (.inl rfl) pe_int ip_add)
      (pss_one (ps_if (pt_cmpR op_isTy (pe_callTy RZ.call_type4 (by rfl) B.type (by decide +kernel) (pa_cons (pv 3) pa_nil)) (pe_bltn (v := .ty "tuple") (by rfl) B.tuple (by decide +kernel) rfl) (nomark _))
        (pss_one (ps_expr (pe_bm PySem.F.plainAttrs_list PySem.F.slot_list_extend PySem.F.type_list_extend Cr.mt_extT (pv 2) (pa_cons (pe_slice sl_tup (pv 3) (po_some pe_int) po_none) pa_nil)))) pss_nil)))))
    (pss_one (ps_ret (pv 1))))), ?_⟩
  refine ⟨_, rfl, (by show 1 ≤ sizeLine; decide), fun p np => ?_⟩
  have s0 := same_new np (HO.lst [v])
  dsimp only [gName, tSeq]
  refine while_by (fun σ H1 => ∃ (m : Nat) (vs : List V) (ts : List Tm) (pt : Option V), σ = [some v, some (nV m), some (.ref p), pt] ∧ H1 p = some (.lst vs) ∧ TmsAt H1 vs ts ∧ m + Tm.sizes ts = t.size ∧ Same H H1)
    (fun σ _ => match σ with | [_, some (.int m), _, _] => t.size - m.toNat | _ => 0) ⟨0, [v], [t], none, rfl, upd_same, .cons (TmAt.keep (KeepT.of s0) _ _ ht) .nil, by show 0 + (t.size + 0) = t.size; omega, s0⟩ (fun σ H1 hp => ?_) (fun σ H1 Q1 Q2 hm hc => ?_)
  · obtain ⟨m, vs, ts, pt, rfl, h1, h2, h3, h4⟩ := hp
    rcases last_cases vs with rfl | ⟨us, x, rfl⟩
    · refine ⟨_, rfl, false, .inl ⟨[], SqL.of h1, rfl⟩, iteF ?_⟩
      cases h2
      have e : m = t.size := h3
      subst e
      exact ⟨_, rfl, q H1 h4⟩
    · have hne : (!(us ++ [x]).isEmpty) = true := by simp
      refine ⟨_, rfl, true, .inl ⟨_, SqL.of h1, hne.symm⟩, iteT ?_⟩
      obtain ⟨rs, r, rfl, g1, g2⟩ := h2.last
      refine ⟨_, rfl, .inl ⟨rfl, _, SqL.of h1⟩, p, _, x, rfl, rfl, h1, pop_at us x, ?_⟩
      rw [List.dropLast_concat]
      have hsz : Tm.sizes (rs ++ [r]) = Tm.sizes rs + r.size := by rw [Tm.sizes_append]; rfl
      have hrp := r.size_pos
      have k2 : ∀ o, KeepT H1 (upd H1 p (.lst o)) := fun o y xs hy => by rw [upd_ne (ne_of hy h1 (by intro z; cases z))]; exact hy
      have s2 : ∀ o, Same H (upd H1 p o) := fun o b u hb => by rw [upd_ne (ne_of_none hb np)]; exact h4 _ _ hb
      refine ⟨_, rfl, _, _, rfl, rfl, ?_⟩
      have em : (m : Int) + 1 = ((m + 1 : Nat) : Int) := by omega
      have meas : t.size - ((m : Int) + 1).toNat < t.size - ((m : Int)).toNat := by omega
      cases g2 with
      | var n =>
        refine ⟨_, rfl, _, _, rfl, .int n, _, _, rfl, rfl, _, rfl, ite2 (fun c => absurd (of_decide_eq_true c) (by decide)) (fun _ => ?_)⟩
        refine ⟨⟨m + 1, us, rs, some (V.int n), ?_, upd_same, TmsAt.keep (k2 _) _ _ g1, ?_, s2 _⟩, meas⟩
        · show [some v, some (V.int ((m : Int) + 1)), some (V.ref p), some (V.int n)] = _
          rw [em]
        · have e : Tm.size (.var n) = 1 := rfl
          omega
      | @node y w vs' ps h5 h6 =>
        have h5' := k2 us _ _ h5
        have e : Tm.size (.node w ps) = 1 + Tm.sizes ps := rfl
        have lps := Tm.sizes_len ps
        have lrs := Tm.sizes_len rs
        have lv := h6.length
        have lu := g1.length
        refine ⟨_, rfl, _, _, rfl, .tup h5', _, _, rfl, rfl, _, rfl, ite2 (fun _ => ?_) (fun c => absurd rfl (of_decide_eq_false (Bool.eq_false_iff.mpr c)))⟩
        refine ⟨_, rfl, .inl ⟨rfl, _, SqL.of upd_same⟩, _, rfl, 1, rfl, y, _, rfl, SqT.of h5', notWhole _ _, fun z nz => ?_⟩
        rw [cut1]
        have hzp : p ≠ z := ne_of_none upd_same nz
        refine ⟨p, z, us, vs', rfl, rfl, by rw [upd_ne hzp]; exact upd_same, upd_same, Nat.le_of_lt (small1000 (by omega)), ?_⟩
        have kz : KeepT H1 (upd (upd (upd H1 p (.lst us)) z (.tup vs')) p (.lst (us ++ vs'))) := fun b xs hb => by
          have hbp : b ≠ p := ne_of hb h1 (by intro z; cases z)
          rw [upd_ne hbp, upd_ne (ne_of_none (k2 us _ _ hb) nz)]
          exact k2 us _ _ hb
        refine ⟨⟨m + 1, us ++ vs', rs ++ ps, some (V.ref y), ?_, upd_same, (TmsAt.keep kz _ _ g1).append (TmsAt.keep kz _ _ h6), ?_, ?_⟩, meas⟩
        · show [some v, some (V.int ((m : Int) + 1)), some (V.ref p), some (V.ref y)] = _
          rw [em]
        · rw [Tm.sizes_append]; omega
        · exact fun b u hb => by rw [upd_ne (ne_of_none hb np), upd_ne (ne_of_none (s2 (.lst us) _ _ hb) nz)]; exact s2 _ _ _ hb
  · obtain ⟨x, e1, k, e2, h⟩ := hc
    exact ⟨x, e1, k, e2, hm _ _ h⟩
end
end Cf
namespace Cf
open PySem L2
theorem paired_append {α β : Type} {F : α → β → Prop} : ∀ {xs us : List α} {ys ws : List β}, Paired F xs ys → Paired F us ws → Paired F (xs ++ us) (ys ++ ws)
  | _, _, _, _, .nil, k => k
  | _, _, _, _, .cons h t, k => .cons h (paired_append t k)
theorem paired_last {α β : Type} {F : α → β → Prop} : ∀ {us : List α} {v : α} {ts : List β}, Paired F (us ++ [v]) ts → ∃ rs t, ts = rs ++ [t] ∧ Paired F us rs ∧ F v t
  | [], _, _, .cons h .nil => ⟨[], _, rfl, .nil, h⟩
  | u :: us, _, _, .cons h t => by
    obtain ⟨rs, x, rfl, a, b⟩ := paired_last t
    exact ⟨_ :: rs, x, rfl, .cons h a, b⟩
end Cf
namespace Cf
open PySem L2
/-- a term with its level, as the pair that stands for it -/
def LvAt (H : Hp) (v : V) (x : Tm × Nat) : Prop := ∃ (q : Addr) (y : V), v = .ref q ∧ H q = some (.tup [y, nV x.2]) ∧ TmAt H y x.1
theorem LvAt.keep {H H' : Hp} (e : KeepT H H') {v : V} {x : Tm × Nat} (h : LvAt H v x) : LvAt H' v x := by
  obtain ⟨q, y, rfl, h1, h2⟩ := h
  exact ⟨q, y, rfl, e _ _ h1, TmAt.keep e _ _ h2⟩
def reach : List (Tm × Nat) → Nat
  | [] => 0
  | x :: r => max (x.2 - 1 + x.1.high) (reach r)
theorem reach_append : ∀ (xs ys : List (Tm × Nat)), reach (xs ++ ys) = max (reach xs) (reach ys)
  | [], ys => by show reach ys = max 0 (reach ys); omega
  | x :: xs, ys => by
    show max (x.2 - 1 + x.1.high) (reach (xs ++ ys)) = max (max (x.2 - 1 + x.1.high) (reach xs)) (reach ys)
    rw [reach_append xs ys]; omega
theorem reach_below (l : Nat) (hl : 1 ≤ l) : ∀ ps : List Tm, max l (reach (ps.map fun p => (p, l + 1))) = l + Tm.highs ps
  | [] => by show max l 0 = l + 0; omega
  | p :: ps => by
    have ih := reach_below l hl ps
    show max l (max (l + 1 - 1 + p.high) (reach (ps.map fun p => (p, l + 1)))) = l + max p.high (Tm.highs ps)
    omega
def load : List (Tm × Nat) → Nat
  | [] => 0
  | x :: r => x.1.size + load r
theorem load_append : ∀ (xs ys : List (Tm × Nat)), load (xs ++ ys) = load xs + load ys
  | [], ys => by show load ys = 0 + load ys; omega
  | x :: xs, ys => by
    show x.1.size + load (xs ++ ys) = x.1.size + load xs + load ys
    rw [load_append xs ys]; omega
theorem load_below (l : Nat) : ∀ ps : List Tm, load (ps.map fun p => (p, l + 1)) = Tm.sizes ps
  | [] => rfl
  | p :: ps => by
    show p.size + load (ps.map fun p => (p, l + 1)) = p.size + Tm.sizes ps
    rw [load_below l ps]
theorem load_len : ∀ xs : List (Tm × Nat), xs.length ≤ load xs
  | [] => Nat.le_refl _
  | x :: xs => by
    have h := x.1.size_pos
    have ih := load_len xs
    show xs.length + 1 ≤ x.1.size + load xs
    omega
theorem max_nat (a b : Nat) : (if (b : Int) > (a : Int) then (b : Int) else (a : Int)) = ((max a b : Nat) : Int) := by
  by_cases h : (b : Int) > (a : Int)
  · rw [if_pos h]; omega
  · rw [if_neg h]; omega
abbrev sHeight : Stmt := top 2
def spHeight : Sp := fun vs H Q _ => ∃ (v : V) (t : Tm), vs = [v] ∧ TmAt H v t ∧ t.size ≤ 1000 ∧ ∀ H', Same H H' → Q (nV t.high) H'
section
variable {P : Program} {w : World} {K : PySem.W.Frag} {mg : Str → Option Value} {base : Heap}
theorem scHeight : FnScope ["term", "highest", "waiting", "part", "level", "below"] ["term"] (defScope sHeight) := ⟨rfl, rfl, rfl, by decide +kernel, rfl, by decide +kernel, by decide +kernel⟩
theorem ok_height {f : Addr} {fd : FuncData} (F : Fun K "height" "height" sHeight f fd) (B : Blt mg) : FnOk P w K mg base CX0 1 f fd ["term"] spHeight := by
  refine F.ok scHeight (fun vs H Q E h => ?_) (fun cdv A outer s H vs Q E hr h => ?_)
  · obtain ⟨v, t, rfl, _⟩ := h
    rfl
  obtain ⟨v, t, rfl, ht, hz, q⟩ := h
  have nd := scHeight.nd
  refine ⟨_, pss_cons (ps_set (i := 1) nd rfl (.inl rfl) pe_int)
    (pss_cons (ps_set (i := 2) nd rfl (.inl rfl) (pe_lst (pa_cons (pe_tup (pa_cons (pv 0) (pa_cons pe_int pa_nil))) pa_nil)))
    (pss_cons (ps_while PassesOwn.never (pt_truth (pv 2) (by intro _; rfl))
      (pss_cons (ps_asg (pe_bm0 PySem.F.plainAttrs_list PySem.F.slot_list_pop PySem.F.type_list_pop mt_pop (pv 2)) (pg_tup rfl (pgs_cons (pg_name (i := 3) nd rfl (.inl rfl)) (pgs_cons (pg_name (i := 4) nd rfl (.inr rfl)) pgs_nil))))
      (pss_cons (ps_set (i := 1) nd rfl (.inl rfl) (pe_callB (call_max2 rfl) (by rfl) B.max (by decide +kernel) (pa_cons (pv 1) (pa_cons (pv 4) pa_nil))))
      (pss_one (ps_if (pt_cmpR op_isTy (pe_callTy RZ.call_type4 (by rfl) B.type (by decide +kernel) (pa_cons (pv 3) pa_nil)) (pe_bltn (v := .ty "tuple") (by rfl) B.tuple (by decide +kernel) rfl) (nomark _))
        (pss_one (ps_expr (pe_bm PySem.F.plainAttrs_list PySem.F.slot_list_extend PySem.F.type_list_extend mt_extend (pv 2) (pa_cons
          (pe_lc (own := [("below", 5)]) (g := gName 5) (tt := tYes) rfl nd (pi_tup (pe_slice sl_tup (pv 3) (po_some pe_int) po_none)) (blkOk_by (N := ["term", "highest", "waiting", "part", "level", "below"]) (sc := defScope sHeight) (by decide +kernel))
            (fun _ _ _ _ _ => pg_name (i := 5) nd rfl (.inl rfl)) (fun _ _ _ _ _ => pts_nil) (fun _ _ _ _ _ => pe_tup (pa_cons (pv 5) (pa_cons (pe_op op_add (pv 4) pe_int) pa_nil)))) pa_nil)))) pss_nil)))))
    (pss_one (ps_ret (pv 1))))), ?_⟩
  refine ⟨_, rfl, (by show 2 ≤ sizeLine; decide), fun p0 np0 => ⟨(by show 1 ≤ sizeLine; decide), fun p np' => ?_⟩⟩
  have s00 := same_new np0 (HO.tup [v, V.int 1])
  have np : H p = none := s00.free np'
  have s0 := s00.trans (same_new np' (HO.lst [V.ref p0]))
  have hpp : p0 ≠ p := ne_of_none upd_same np'
  dsimp only [gName, tSeq]
  refine ⟨fun n σ H1 => ∃ (m : Nat) (vs : List V) (ts : List (Tm × Nat)) (pt lv : Option V), σ = [some v, some (nV m), some (.ref p), pt, lv, none] ∧ H1 p = some (.lst vs) ∧ Paired (LvAt H1) vs ts ∧ max m (reach ts) = t.high ∧ load ts = n ∧ load ts ≤ t.size ∧ (∀ x ∈ ts, 1 ≤ x.2) ∧ Same H H1,
    ⟨_, 0, [.ref p0], [(t, 1)], none, none, rfl, upd_same, .cons ⟨p0, v, rfl, by rw [upd_ne hpp]; exact upd_same, TmAt.keep (KeepT.of s0) _ _ ht⟩ .nil, ?_, rfl, ?_, ?_, s0⟩, fun n σ H1 hp => ?_⟩
  · show max 0 (max (1 - 1 + t.high) 0) = t.high
    omega
  · show t.size + 0 ≤ t.size
    exact Nat.le_refl _
  · intro x hx
    rw [List.mem_singleton.mp hx]
    exact Nat.le_refl _
  · obtain ⟨m, vs, ts, pt, lv, rfl, h1, h2, h3, h4, h5, h6, h7⟩ := hp
    rcases last_cases vs with rfl | ⟨us, x, rfl⟩
    · refine ⟨_, rfl, false, .inl ⟨[], SqL.of h1, rfl⟩, iteF ?_⟩
      cases h2
      have e : m = t.high := by rw [← h3]; show m = max m 0; omega
      subst e
      exact ⟨_, rfl, q H1 h7⟩
    · have hne : (!(us ++ [x]).isEmpty) = true := by simp
      refine ⟨_, rfl, true, .inl ⟨_, SqL.of h1, hne.symm⟩, iteT ⟨_, fun _ _ h => h, ?_⟩⟩
      obtain ⟨rs, ⟨r, l⟩, rfl, g1, ⟨qa, y, rfl, g2, g3⟩⟩ := paired_last h2
      have hl : 1 ≤ l := h6 (r, l) (by simp)
      refine ⟨_, rfl, .inl ⟨rfl, _, SqL.of h1⟩, p, _, _, rfl, rfl, h1, pop_at us _, ?_⟩
      rw [List.dropLast_concat]
      have hld : load (rs ++ [(r, l)]) = load rs + r.size := by rw [load_append]; rfl
      have hrc : reach (rs ++ [(r, l)]) = max (reach rs) (l - 1 + r.high) := by rw [reach_append]; show max _ (max (l - 1 + r.high) 0) = _; omega
      have hrp := r.size_pos
      have k2 : ∀ o, KeepT H1 (upd H1 p (.lst o)) := fun o y xs hy => by rw [upd_ne (ne_of hy h1 (by intro z; cases z))]; exact hy
      have s2 : ∀ o, Same H (upd H1 p o) := fun o b u hb => by rw [upd_ne (ne_of_none hb np)]; exact h7 _ _ hb
      refine ⟨qa, _, rfl, SqT.of (k2 us _ _ g2), rfl, y, _, rfl, nV l, _, rfl, rfl, ?_⟩
      refine ⟨_, rfl, _, rfl, _, _, rfl, ?_⟩
      rw [max_nat]
      have g1' : Paired (LvAt (upd H1 p (.lst us))) us rs := Paired.mapP g1 fun _ _ h => h.keep (k2 us)
      have g3' := TmAt.keep (k2 us) _ _ g3
      have lrs := load_len rs
      have lu := g1.length
      cases g3' with
      | var n =>
        refine ⟨_, rfl, _, _, rfl, .int n, _, _, rfl, rfl, _, rfl, ite2 (fun c => absurd (of_decide_eq_true c) (by decide)) (fun _ => ?_)⟩
        have e1 : Tm.high (.var n) = 1 := rfl
        have e2 : Tm.size (.var n) = 1 := rfl
        exact ⟨load rs, by omega, max m l, us, rs, some (.int n), some (nV l), rfl, upd_same, g1', by omega, rfl, by omega, fun x hx => h6 x (List.mem_append_left _ hx), s2 _⟩
      | @node z w vs' ps h8 h9 =>
        have e1 : Tm.high (.node w ps) = 1 + Tm.highs ps := rfl
        have e2 : Tm.size (.node w ps) = 1 + Tm.sizes ps := rfl
        have lps := Tm.sizes_len ps
        have lv := h9.length
        refine ⟨_, rfl, _, _, rfl, .tup h8, _, _, rfl, rfl, _, rfl, ite2 (fun _ => ?_) (fun c => absurd rfl (of_decide_eq_false (Bool.eq_false_iff.mpr c)))⟩
        refine ⟨_, rfl, .inl ⟨rfl, _, SqL.of upd_same⟩, _, rfl, 1, rfl, z, _, rfl, SqT.of h8, notWhole _ _, fun d nd' => ?_⟩
        rw [cut1]
        have sd := same_new nd' (HO.tup vs')
        have hpd : p ≠ d := ne_of_none upd_same nd'
        refine ⟨d, rfl, ⟨_, SqT.of upd_same⟩, fun D nD => ?_⟩
        have sD := sd.trans (same_new nD (HO.lst []))
        have hdD : d ≠ D := ne_of_none upd_same nD
        refine lc_tup (xs := vs') (fun i H' => ∃ cs : List V, H' D = some (.lst cs) ∧ cs.length = i ∧ Paired (LvAt H') cs ((ps.take i).map fun p => (p, l + 1)) ∧ H' d = some (.tup vs') ∧ Same (upd (upd H1 p (.lst us)) d (.tup vs')) H')
          ⟨[], upd_same, rfl, by rw [List.take_zero]; exact .nil, by rw [upd_ne hdD]; exact upd_same, same_new nD _⟩ (fun i H' _ hh => ?_) (fun i c H' hc hh => ?_) (fun H' hh => ?_)
        · obtain ⟨cs, k1, k2, k3, k4, k5⟩ := hh
          exact SqT.of k4
        · obtain ⟨cs, k1, k2', k3, k4, k5⟩ := hh
          have hil : i < ps.length := by rw [← lv]; exact (List.getElem?_eq_some_iff.mp hc).1
          obtain ⟨c', hc1, hc2⟩ := h9.get (List.getElem?_eq_getElem hil)
          obtain rfl : c = c' := Option.some.inj (hc.symm.trans hc1)
          refine ⟨rfl, ?_⟩
          refine ⟨_, rfl, _, rfl, _, _, rfl, rfl, (by show 2 ≤ sizeLine; decide), fun e ne => ?_⟩
          have hDe : D ≠ e := ne_of_none k1 ne
          have hd9 : KeepT H' (upd (upd H' e (.tup [c, V.int ((l : Int) + 1)])) D (.lst (cs ++ [V.ref e]))) := fun b xs hb => by rw [upd_ne (ne_of hb k1 (by intro z; cases z)), upd_ne (ne_of_none hb ne)]; exact hb
          refine ⟨_, by rw [upd_ne hDe]; exact k1, small1000 (by omega), cs ++ [V.ref e], upd_same, by rw [List.length_append, k2']; rfl, ?_, hd9 _ _ k4, ?_⟩
          · rw [List.take_add_one, List.getElem?_eq_getElem hil, List.map_append]
            refine Paired.snoc (Paired.mapP k3 fun _ _ h => h.keep hd9) ⟨e, c, rfl, ?_, TmAt.keep ((KeepT.of (sd.trans k5)).trans hd9) _ _ hc2⟩
            rw [upd_ne hDe.symm, upd_same]
            have ee : (l : Int) + 1 = ((l + 1 : Nat) : Int) := by omega
            show some (HO.tup [c, V.int ((l : Int) + 1)]) = some (HO.tup [c, V.int ((l + 1 : Nat) : Int)])
            rw [ee]
          · exact fun b u hb => by rw [upd_ne (ne_of_none hb nD), upd_ne (ne_of_none (k5 _ _ hb) ne)]; exact k5 _ _ hb
        · obtain ⟨cs, k1, k2', k3, k4, k5⟩ := hh
          rw [lv, List.take_of_length_le (Nat.le_refl _)] at k3
          have hp' : H' p = some (.lst us) := k5 _ _ (by rw [upd_ne hpd]; exact upd_same)
          refine ⟨p, D, us, cs, rfl, rfl, hp', k1, Nat.le_of_lt (small1000 (by omega)), ?_⟩
          have kz : KeepT H' (upd H' p (.lst (us ++ cs))) := fun b xs hb => by rw [upd_ne (ne_of hb hp' (by intro z; cases z))]; exact hb
          have kk : KeepT (upd H1 p (.lst us)) (upd H' p (.lst (us ++ cs))) := (KeepT.of (sd.trans k5)).trans kz
          have hb := reach_below l hl ps
          refine ⟨load (rs ++ ps.map fun p => (p, l + 1)), ?_, max m l, us ++ cs, rs ++ ps.map (fun p => (p, l + 1)), some (.ref z), some (nV l), rfl, upd_same, ?_, ?_, rfl, ?_, ?_, ?_⟩
          · rw [load_append, load_below]; omega
          · exact paired_append (Paired.mapP g1' fun _ _ h => h.keep kk) (Paired.mapP k3 fun _ _ h => h.keep kz)
          · rw [reach_append]; omega
          · rw [load_append, load_below]; omega
          · intro x hx
            rcases List.mem_append.mp hx with h | h
            · exact h6 x (List.mem_append_left _ h)
            · obtain ⟨p', _, rfl⟩ := List.mem_map.mp h
              exact Nat.succ_pos _
          · exact fun b u hb => by rw [upd_ne (ne_of_none hb np)]; exact k5 _ _ (sd _ _ (s2 (.lst us) _ _ hb))
end
end Cf
namespace Cf
open PySem L2
/-- the different ones, in the order in which they come first -/
def addNew (acc : List Int) (n : Int) : List Int := if n ∈ acc then acc else acc ++ [n]
def firsts (ns : List Int) : List Int := ns.foldl addNew []
theorem firsts_take {ns : List Int} {i : Nat} {n : Int} (h : ns[i]? = some n) : firsts (ns.take (i + 1)) = addNew (firsts (ns.take i)) n := by
  unfold firsts
  rw [List.take_add_one, h, List.foldl_append]
  rfl
theorem addNew_len (acc : List Int) (n : Int) : (addNew acc n).length ≤ acc.length + 1 := by
  unfold addNew
  split
  · exact Nat.le_succ _
  · rw [List.length_append]; exact Nat.le_refl _
theorem firsts_len (ns : List Int) : (firsts ns).length ≤ ns.length := by
  have h : ∀ (ns acc : List Int), (ns.foldl addNew acc).length ≤ acc.length + ns.length := by
    intro ns
    induction ns with
    | nil => intro acc; exact Nat.le_refl _
    | cons n r ih =>
      intro acc
      have h1 := ih (addNew acc n)
      have h2 := addNew_len acc n
      show (r.foldl addNew (addNew acc n)).length ≤ acc.length + (r.length + 1)
      omega
  have e := h ns []
  rw [List.length_nil, Nat.zero_add] at e
  exact e
theorem keys_new {kvs : List (Key × V)} {acc : List Int} (h : kvs.map (·.1) = acc.map Sum.inl) (n : Int) (v : V) : (putK kvs (Sum.inl n : Key) v).map (·.1) = (addNew acc n).map Sum.inl := by
  unfold putK addNew
  by_cases hn : n ∈ acc
  · have e : (kvs.any fun kv => decide (kv.1 = (Sum.inl n : Key))) = true := by
      have hm : (Sum.inl n : Key) ∈ kvs.map (·.1) := by rw [h]; exact List.mem_map.mpr ⟨n, hn, rfl⟩
      obtain ⟨kv, h1, h2⟩ := List.mem_map.mp hm
      exact List.any_eq_true.mpr ⟨kv, h1, decide_eq_true h2⟩
    rw [if_pos e, if_pos hn, List.map_map, ← h]
    refine List.map_congr_left fun kv _ => ?_
    show (if kv.1 = (Sum.inl n : Key) then (kv.1, v) else kv).1 = kv.1
    split <;> rfl
  · have e : ¬ (kvs.any fun kv => decide (kv.1 = (Sum.inl n : Key))) = true := fun z => by
      obtain ⟨kv, h1, h2⟩ := List.any_eq_true.mp z
      have hm : (Sum.inl n : Key) ∈ acc.map Sum.inl := by rw [← h]; exact List.mem_map.mpr ⟨kv, h1, of_decide_eq_true h2⟩
      obtain ⟨m, h3, h4⟩ := List.mem_map.mp hm
      cases h4
      exact hn h3
    rw [if_neg e, if_neg hn, List.map_append, List.map_append, h]
    rfl
abbrev sOcc : Stmt := top 5
abbrev sVarsIn : Stmt := top 4
abbrev sVars : Stmt := top 3
abbrev sLinear : Stmt := top 6
def spOcc : Sp := fun vs H Q _ => ∃ (p : Addr) (us : List V) (ts : List Tm), vs = [.ref p] ∧ H p = some (.tup us) ∧ TmsAt H us ts ∧ Tm.sizes ts ≤ 1000 ∧
  ∀ (q : Addr) (H' : Hp), H q = none → H' q = some (.lst ((Tm.occs ts).map V.int)) → Same H H' → Q (.ref q) H'
def spVarsIn : Sp := fun vs H Q _ => ∃ (p : Addr) (us : List V) (ts : List Tm), vs = [.ref p] ∧ H p = some (.tup us) ∧ TmsAt H us ts ∧ Tm.sizes ts ≤ 1000 ∧
  ∀ (q : Addr) (H' : Hp), H q = none → H' q = some (.lst ((firsts (Tm.occs ts)).map V.int)) → Same H H' → Q (.ref q) H'
def spVars : Sp := fun vs H Q _ => ∃ (v : V) (t : Tm), vs = [v] ∧ TmAt H v t ∧ t.size ≤ 1000 ∧
  ∀ (q : Addr) (H' : Hp), H q = none → H' q = some (.lst ((firsts t.occ).map V.int)) → Same H H' → Q (.ref q) H'
def spLinear : Sp := fun vs H Q _ => ∃ (v : V) (t : Tm), vs = [v] ∧ TmAt H v t ∧ t.size ≤ 1000 ∧
  ∀ H', Same H H' → Q (.bl (decide (Cr.many t.occ = t.occ.length))) H'
section
variable {P : Program} {w : World} {K : PySem.W.Frag} {mg : Str → Option Value} {base : Heap}
theorem scOcc : FnScope ["terms", "found", "waiting", "part"] ["terms"] (defScope sOcc) := ⟨rfl, rfl, rfl, by decide +kernel, rfl, by decide +kernel, by decide +kernel⟩
theorem ok_occ {f : Addr} {fd : FuncData} (F : Fun K "occurrences" "occurrences" sOcc f fd) (B : Blt mg) : FnOk P w K mg base CX0 1 f fd ["terms"] spOcc := by
  refine F.ok scOcc (fun vs H Q E h => ?_) (fun cdv A outer s H vs Q E hr h => ?_)
  · obtain ⟨p, us, ts, rfl, _⟩ := h
    rfl
  obtain ⟨a, us, ts, rfl, ha, hts, hz, q⟩ := h
  have nd := scOcc.nd
  refine ⟨_, pss_cons (ps_set (i := 1) nd rfl (.inl rfl) (pe_lst pa_nil))
    (pss_cons (ps_set (i := 2) nd rfl (.inl rfl) (pe_callTy call_list_of (by rfl) B.list (by decide +kernel) (pa_cons (Cr.pe_back (pv 0) po_none) pa_nil)))
    (pss_cons (ps_while PassesOwn.never (pt_truth (pv 2) (by intro _; rfl))
      (pss_cons (ps_set (i := 3) nd rfl (.inl rfl) (pe_bm0 PySem.F.plainAttrs_list PySem.F.slot_list_pop PySem.F.type_list_pop mt_pop (pv 2)))
      (pss_one (ps_if (pt_cmpR op_isTy (pe_callTy RZ.call_type4 (by rfl) B.type (by decide +kernel) (pa_cons (pv 3) pa_nil)) (pe_bltn (v := .ty "int") (by rfl) B.int (by decide +kernel) rfl) (nomark _))
        (pss_one (ps_expr (pe_bm PySem.F.plainAttrs_list PySem.F.slot_list_append PySem.F.type_list_append mt_append (pv 1) (pa_cons (pv 3) pa_nil))))
        (pss_one (ps_expr (pe_bm PySem.F.plainAttrs_list PySem.F.slot_list_extend PySem.F.type_list_extend Cr.mt_extT (pv 2) (pa_cons (Cr.pe_back (pv 3) (po_some pe_int)) pa_nil))))))))
    (pss_one (ps_ret (pv 1))))), ?_⟩
  refine ⟨(by show 0 ≤ sizeLine; decide), fun fo nfo => ?_⟩
  have s1 := same_new nfo (HO.lst [])
  refine ⟨_, rfl, a, us, 0, rfl, SqT.of (s1 _ _ ha), .inl ⟨rfl, rfl⟩, fun r nr => ?_⟩
  have s2 := s1.trans (same_new nr (HO.tup (us.drop 0).reverse))
  refine ⟨r, _, rfl, .inr (SqT.of upd_same), fun p np' => ?_⟩
  have s3 := s2.trans (same_new np' (HO.lst (us.drop 0).reverse))
  have np : H p = none := s2.free np'
  have hfr : fo ≠ r := ne_of_none upd_same nr
  have hfp : fo ≠ p := ne_of_none (by rw [upd_ne hfr]; exact upd_same) np'
  have hlen := hts.length
  have hsl := Tm.sizes_len ts
  dsimp only [gName, tSeq]
  refine ⟨fun n σ H1 => ∃ (ns : List Int) (vs : List V) (rs : List Tm) (pt : Option V), σ = [some (.ref a), some (.ref fo), some (.ref p), pt] ∧ H1 fo = some (.lst (ns.map V.int)) ∧ H1 p = some (.lst vs) ∧ TmsAt H1 vs rs ∧ ns ++ Tm.occs rs.reverse = Tm.occs ts ∧ Tm.sizes rs = n ∧ n ≤ Tm.sizes ts ∧ Same H H1,
    ⟨_, [], us.reverse, ts.reverse, none, rfl, ?_, upd_same, TmsAt.keep (KeepT.of s3) _ _ hts.rev, by rw [List.reverse_reverse]; rfl, rfl, by rw [Tm.sizes_rev]; exact Nat.le_refl _, s3⟩, fun n σ H1 hp => ?_⟩
  · rw [upd_ne hfp, upd_ne hfr]; exact upd_same
  · obtain ⟨ns, vs, rs, pt, rfl, h0, h1, h2, h3, h4, h5, h6⟩ := hp
    have hfp' : fo ≠ p := hfp
    rcases last_cases vs with rfl | ⟨us', x, rfl⟩
    · refine ⟨_, rfl, false, .inl ⟨[], SqL.of h1, rfl⟩, iteF ?_⟩
      cases h2
      have e : ns = Tm.occs ts := by rw [← h3]; show ns = ns ++ []; rw [List.append_nil]
      subst e
      exact ⟨_, rfl, q fo H1 nfo h0 h6⟩
    · have hne : (!(us' ++ [x]).isEmpty) = true := by simp
      refine ⟨_, rfl, true, .inl ⟨_, SqL.of h1, hne.symm⟩, iteT ⟨_, fun _ _ h => h, ?_⟩⟩
      obtain ⟨qs, t, rfl, g1, g2⟩ := h2.last
      refine ⟨_, rfl, .inl ⟨rfl, _, SqL.of h1⟩, p, _, x, rfl, rfl, h1, pop_at us' x, ?_⟩
      rw [List.dropLast_concat]
      rw [List.reverse_append] at h3
      have h3' : ns ++ (t.occ ++ Tm.occs qs.reverse) = Tm.occs ts := h3
      rw [Tm.sizes_append] at h4
      have h4' : Tm.sizes qs + (t.size + 0) = n := h4
      have htp := t.size_pos
      have hol := Tm.occs_len ts
      have hol2 : ns.length ≤ (Tm.occs ts).length := by rw [← h3', List.length_append]; omega
      have lq := Tm.sizes_len qs
      have lu := g1.length
      have k2 : ∀ o, KeepT H1 (upd H1 p (.lst o)) := fun o y xs hy => by rw [upd_ne (ne_of hy h1 (by intro z; cases z))]; exact hy
      have sm2 : ∀ o, Same H (upd H1 p o) := fun o b u hb => by rw [upd_ne (ne_of_none hb np)]; exact h6 _ _ hb
      have hf2 : ∀ o, upd H1 p o fo = some (.lst (ns.map V.int)) := fun o => by rw [upd_ne hfp']; exact h0
      cases g2 with
      | var m =>
        refine ⟨_, rfl, _, _, rfl, .int m, _, _, rfl, rfl, _, rfl, ite2 (fun _ => ?_) (fun c => absurd rfl (of_decide_eq_false (Bool.eq_false_iff.mpr c)))⟩
        refine ⟨_, rfl, .inl ⟨rfl, _, SqL.of (hf2 _)⟩, _, rfl, fo, _, _, rfl, rfl, hf2 _, by rw [List.length_map]; exact small1000 (by omega), ?_⟩
        have kz : KeepT H1 (upd (upd H1 p (.lst us')) fo (.lst (ns.map V.int ++ [V.int m]))) := fun b xs hb => by
          rw [upd_ne (ne_of (k2 us' _ _ hb) (hf2 _) (by intro z; cases z))]
          exact k2 us' _ _ hb
        refine ⟨Tm.sizes qs, by omega, ns ++ [m], us', qs, some (.int m), rfl, ?_, ?_, TmsAt.keep kz _ _ g1, ?_, rfl, by omega, ?_⟩
        · rw [upd_same, List.map_append]
          all_goals rfl
        · rw [upd_ne hfp'.symm]; exact upd_same
        · rw [← h3', List.append_assoc]; rfl
        · exact fun b u hb => by rw [upd_ne (ne_of_none hb nfo)]; exact sm2 _ _ _ hb
      | @node z w vs' ps h8 h9 =>
        have h8' := k2 us' _ _ h8
        have e2 : Tm.size (.node w ps) = 1 + Tm.sizes ps := rfl
        have lps := Tm.sizes_len ps
        have lv := h9.length
        refine ⟨_, rfl, _, _, rfl, .tup h8', _, _, rfl, rfl, _, rfl, ite2 (fun c => absurd (of_decide_eq_true c) (by decide)) (fun _ => ?_)⟩
        refine ⟨_, rfl, .inl ⟨rfl, _, SqL.of upd_same⟩, _, rfl, 0, rfl, z, _, 1, rfl, SqT.of h8', .inr ⟨rfl, rfl, Nat.succ_pos _⟩, fun d nd' => ?_⟩
        have hpd : p ≠ d := ne_of_none upd_same nd'
        refine ⟨p, d, us', vs'.reverse, rfl, rfl, by rw [upd_ne hpd]; exact upd_same, upd_same, Nat.le_of_lt (small1000 (by rw [List.length_reverse]; omega)), ?_⟩
        have kz : KeepT H1 (upd (upd (upd H1 p (.lst us')) d (.tup vs'.reverse)) p (.lst (us' ++ vs'.reverse))) := fun b xs hb => by
          have hbp : b ≠ p := ne_of hb h1 (by intro z; cases z)
          rw [upd_ne hbp, upd_ne (ne_of_none (k2 us' _ _ hb) nd')]
          exact k2 us' _ _ hb
        refine ⟨Tm.sizes (qs ++ ps.reverse), by rw [Tm.sizes_append, Tm.sizes_rev]; omega, ns, us' ++ vs'.reverse, qs ++ ps.reverse, some (.ref z), rfl, ?_, upd_same, (TmsAt.keep kz _ _ g1).append (TmsAt.keep kz _ _ h9).rev, ?_, rfl, ?_, ?_⟩
        · rw [upd_ne hfp', upd_ne (ne_of_none (hf2 _) nd')]
          exact hf2 _
        · rw [List.reverse_append, List.reverse_reverse, Tm.occs_append, ← h3']
          all_goals rfl
        · rw [Tm.sizes_append, Tm.sizes_rev]; omega
        · exact fun b u hb => by rw [upd_ne (ne_of_none hb np), upd_ne (ne_of_none (sm2 (.lst us') _ _ hb) nd')]; exact sm2 _ _ _ hb
theorem scVarsIn : FnScope ["terms", "part"] ["terms"] (defScope sVarsIn) := ⟨rfl, rfl, rfl, by decide +kernel, rfl, by decide +kernel, by decide +kernel⟩
theorem ok_varsIn {f g : Addr} {fd gd : FuncData} (F : Fun K "variables_in" "variables_in" sVarsIn f fd) (B : Blt mg) (G : FnOk P w K mg base CX0 1 g gd ["terms"] spOcc) (bG : Binds K gd ["terms"] [])
    (kG : PySem.W.keepIn K (.ref g) = true) (mG : mg "occurrences" = some (.ref g)) : FnOk P w K mg base CX0 2 f fd ["terms"] spVarsIn := by
  refine F.ok scVarsIn (fun vs H Q E h => ?_) (fun cdv A outer s H vs Q E hr h => ?_)
  · obtain ⟨p, us, ts, rfl, _⟩ := h
    rfl
  obtain ⟨a, us, ts, rfl, ha, hts, hz, q⟩ := h
  have nd := scVarsIn.nd
  refine ⟨_, pss_one (ps_ret (pe_callTy (call_list_dK rfl) (by rfl) B.list (by decide +kernel) (pa_cons
    (pe_dc (own := [("part", 1)]) (g := gName 1) (tt := tYes) rfl nd (pi_list (pe_call G hr rfl mG kG bG .nil pass0 (pa_cons (pv 0) pa_nil))) (blkOk_by (N := ["terms", "part"]) (sc := defScope sVarsIn) (by decide +kernel))
      (fun _ _ _ _ _ => pg_name (i := 1) nd rfl (.inl rfl)) (fun _ _ _ _ _ => pts_nil) (fun _ _ _ _ _ => pv 1) (fun _ _ _ _ _ => pe_bl)) pa_nil))), ?_⟩
  refine ⟨_, rfl, a, us, ts, rfl, ha, hts, hz, fun r H1 nr hr1 sm => ?_⟩
  refine ⟨r, rfl, ⟨_, SqL.of hr1⟩, fun D nD => ?_⟩
  have hol := Tm.occs_len ts
  have wl := walk_list (K := K) (a := r) (xs := (Tm.occs ts).map V.int)
  refine Cr.dc_it wl (fun i H' => ∃ kvs : List (Key × V), H' D = some (.dK kvs) ∧ kvs.map (·.1) = (firsts ((Tm.occs ts).take i)).map Sum.inl ∧ Same H1 H') ⟨[], upd_same, rfl, same_new nD _⟩ (fun i H' _ hh => by obtain ⟨kvs, _, _, k3⟩ := hh; exact SqL.of (k3 _ _ hr1)) (fun i x H' H2 hi hh y => ?_) (fun H' hh => ?_)
  · obtain ⟨kvs, k1, k2, k3⟩ := hh
    obtain ⟨rfl, hx⟩ := y
    rw [List.getElem?_map] at hx
    obtain ⟨m, hm, rfl⟩ := Option.map_eq_some_iff.mp hx
    have hkl : kvs.length ≤ 1000 := by
      have e := congrArg List.length k2
      rw [List.length_map, List.length_map] at e
      have := firsts_len ((Tm.occs ts).take i)
      have h2 : ((Tm.occs ts).take i).length ≤ (Tm.occs ts).length := by rw [List.length_take]; omega
      omega
    refine ⟨rfl, _, rfl, kvs, Sum.inl m, rfl, k1, small1000 hkl, _, upd_same, ?_, fun b u hb => by rw [upd_ne (ne_of_none hb nD)]; exact k3 _ _ hb⟩
    rw [firsts_take hm]
    exact keys_new k2 m _
  · obtain ⟨kvs, k1, k2, k3⟩ := hh
    rw [List.length_map, List.take_length] at k2
    refine ⟨D, kvs, rfl, k1, fun z nz => ?_⟩
    have hHz : H z = none := (sm.trans k3).free nz
    refine q z _ hHz ?_ ((sm.trans k3).trans (same_new nz _))
    have e : kvs.map (fun kv => kV kv.1) = (firsts (Tm.occs ts)).map V.int := by
      have h1 : kvs.map (fun kv => kV kv.1) = (kvs.map (·.1)).map kV := by rw [List.map_map]; rfl
      rw [h1, k2, List.map_map]
      rfl
    rw [upd_same, e]
theorem scVars : FnScope ["term"] ["term"] (defScope sVars) := ⟨rfl, rfl, rfl, by decide +kernel, rfl, by decide +kernel, by decide +kernel⟩
theorem ok_vars {f g : Addr} {fd gd : FuncData} (F : Fun K "variables" "variables" sVars f fd) (G : FnOk P w K mg base CX0 2 g gd ["terms"] spVarsIn) (bG : Binds K gd ["terms"] [])
    (kG : PySem.W.keepIn K (.ref g) = true) (mG : mg "variables_in" = some (.ref g)) : FnOk P w K mg base CX0 3 f fd ["term"] spVars := by
  refine F.ok scVars (fun vs H Q E h => ?_) (fun cdv A outer s H vs Q E hr h => ?_)
  · obtain ⟨v, t, rfl, _⟩ := h
    rfl
  obtain ⟨v, t, rfl, ht, hz, q⟩ := h
  refine ⟨_, pss_one (ps_ret (pe_call G hr rfl mG kG bG .nil pass0 (pa_cons (pe_tup (pa_cons (pv 0) pa_nil)) pa_nil))), ?_⟩
  refine ⟨_, rfl, (by show 1 ≤ sizeLine; decide), fun p np => ?_⟩
  have s1 := same_new np (HO.tup [v])
  refine ⟨p, [v], [t], rfl, upd_same, .cons (TmAt.keep (KeepT.of s1) _ _ ht) .nil, by show t.size + 0 ≤ 1000; omega, fun r H' nr hr' sm => ?_⟩
  have e : Tm.occs [t] = t.occ := List.append_nil _
  rw [e] at hr'
  exact q r H' (s1.free nr) hr' (s1.trans sm)
theorem scLinear : FnScope ["term", "found"] ["term"] (defScope sLinear) := ⟨rfl, rfl, rfl, by decide +kernel, rfl, by decide +kernel, by decide +kernel⟩
theorem ok_linear {f g : Addr} {fd gd : FuncData} (F : Fun K "is_linear" "is_linear" sLinear f fd) (B : Blt mg) (G : FnOk P w K mg base CX0 1 g gd ["terms"] spOcc) (bG : Binds K gd ["terms"] [])
    (kG : PySem.W.keepIn K (.ref g) = true) (mG : mg "occurrences" = some (.ref g)) : FnOk P w K mg base CX0 2 f fd ["term"] spLinear := by
  refine F.ok scLinear (fun vs H Q E h => ?_) (fun cdv A outer s H vs Q E hr h => ?_)
  · obtain ⟨v, t, rfl, _⟩ := h
    rfl
  obtain ⟨v, t, rfl, ht, hz, q⟩ := h
  have nd := scLinear.nd
  refine ⟨_, pss_cons (ps_set (i := 1) nd rfl (.inl rfl) (pe_call G hr rfl mG kG bG .nil pass0 (pa_cons (pe_tup (pa_cons (pv 0) pa_nil)) pa_nil)))
    (pss_one (ps_ret (pe_cmpR op_eq (Cr.pe_lenSet (by rfl) B.len (by rfl) B.set (pv 1)) (pe_callB call_len_seq (by rfl) B.len PySem.boot_len (pa_cons (pv 1) pa_nil)) (nomark _)))), ?_⟩
  refine ⟨_, rfl, (by show 1 ≤ sizeLine; decide), fun p np => ?_⟩
  have s1 := same_new np (HO.tup [v])
  refine ⟨p, [v], [t], rfl, upd_same, .cons (TmAt.keep (KeepT.of s1) _ _ ht) .nil, by show t.size + 0 ≤ 1000; omega, fun r H' nr hr' sm => ?_⟩
  have e : Tm.occs [t] = t.occ := List.append_nil _
  rw [e] at hr'
  have hol := Tm.occ_len t
  refine ⟨_, rfl, r, t.occ, rfl, SqL.of hr', by omega, _, rfl, r, _, rfl, .inl (SqL.of hr'), rfl, ?_⟩
  have ed : decide (V.int ((Cr.many t.occ : Nat) : Int) = V.int (((t.occ.map V.int).length : Nat) : Int)) = decide (Cr.many t.occ = t.occ.length) := by
    rw [List.length_map]
    by_cases z : Cr.many t.occ = t.occ.length
    · rw [decide_eq_true z, decide_eq_true (by rw [z])]
    · rw [decide_eq_false z, decide_eq_false (fun y => z (by have := V.int.inj y; omega))]
  rw [ed]
  exact q H' (s1.trans sm)
end
end Cf
namespace Cf
open PySem L2
abbrev sLOcc : Stmt := top 18
abbrev sUnlike : Stmt := top 19
abbrev sLSize : Stmt := top 20
abbrev sLHeight : Stmt := top 21
theorem Tm.occs_take {ps : List Tm} {i : Nat} {t : Tm} (h : ps[i]? = some t) : Tm.occs (ps.take (i + 1)) = Tm.occs (ps.take i) ++ t.occ := by
  rw [List.take_add_one, h, Tm.occs_append]
  show _ ++ (t.occ ++ []) = _
  rw [List.append_nil]
theorem Tm.size_mem : ∀ {ps : List Tm} {t : Tm}, t ∈ ps → t.size ≤ Tm.sizes ps
  | p :: ps, t, h => by
    show t.size ≤ p.size + Tm.sizes ps
    rcases List.mem_cons.mp h with rfl | h
    · omega
    · have := Tm.size_mem h; omega
theorem Tm.high_mem : ∀ {ps : List Tm} {t : Tm}, t ∈ ps → t.high ≤ Tm.highs ps
  | p :: ps, t, h => by
    show t.high ≤ max p.high (Tm.highs ps)
    rcases List.mem_cons.mp h with rfl | h
    · omega
    · have := Tm.high_mem h; omega
theorem sum_sizes : ∀ ps : List Tm, (ps.map fun p => (p.size : Int)).sum = ((Tm.sizes ps : Nat) : Int)
  | [] => rfl
  | p :: ps => by
    rw [List.map_cons, List.sum_cons, sum_sizes ps]
    show (p.size : Int) + ((Tm.sizes ps : Nat) : Int) = ((p.size + Tm.sizes ps : Nat) : Int)
    omega
theorem max_highs {ps : List Tm} {m : Int} (h : m ∈ ps.map fun p => (p.high : Int)) (g : ∀ y ∈ ps.map (fun p => (p.high : Int)), y ≤ m) : m = ((Tm.highs ps : Nat) : Int) := by
  obtain ⟨t, ht, rfl⟩ := List.mem_map.mp h
  have h1 := Tm.high_mem ht
  have h2 : ∀ (qs : List Tm), (∀ x ∈ qs, (x.high : Int) ≤ (t.high : Int)) → Tm.highs qs ≤ t.high := by
    intro qs
    induction qs with
    | nil => intro _; exact Nat.zero_le _
    | cons q r ih =>
      intro z
      have a := z q List.mem_cons_self
      have b := ih fun x hx => z x (List.mem_cons_of_mem _ hx)
      show max q.high (Tm.highs r) ≤ t.high
      omega
  have h3 := h2 ps fun x hx => g _ (List.mem_map.mpr ⟨x, hx, rfl⟩)
  omega
theorem inV_int (n : Int) (ns : List Int) : inV (.int n) (ns.map V.int) = decide (n ∈ ns) := by
  unfold inV
  induction ns with
  | nil => rfl
  | cons m r ih =>
    rw [List.map_cons, List.any_cons, ih]
    show ((m == n) || decide (n ∈ r)) = decide (n ∈ m :: r)
    by_cases e : n = m
    · subst e; simp
    · have e' : ¬ m = n := fun z => e z.symm
      simp [e, e']
theorem flat_int (ns : List Int) : (ns.map V.int).all flatV = true := by simp [flatV]
def spLOcc (n : Nat) : Sp := fun vs H Q _ => ∃ (v : V) (t : Tm), vs = [v] ∧ TmAt H v t ∧ t.high ≤ n ∧ t.size ≤ 1000 ∧ ∀ (q : Addr) (H' : Hp), H q = none → H' q = some (.lst (t.occ.map V.int)) → Same H H' → Q (.ref q) H'
def spUnlike (K : PySem.W.Frag) : Sp := fun vs H Q _ => ∃ (p : Addr) (ns : List Int), vs = [.ref p] ∧ SqL K H p (ns.map V.int) ∧ ns.length ≤ 1000 ∧ ∀ (q : Addr) (H' : Hp), H q = none → H' q = some (.lst ((firsts ns).map V.int)) → Same H H' → Q (.ref q) H'
def spLSize (n : Nat) : Sp := fun vs H Q _ => ∃ (v : V) (t : Tm), vs = [v] ∧ TmAt H v t ∧ t.high ≤ n ∧ t.size ≤ 1000 ∧ ∀ H', Same H H' → Q (nV t.size) H'
def spLHeight (n : Nat) : Sp := fun vs H Q _ => ∃ (v : V) (t : Tm), vs = [v] ∧ TmAt H v t ∧ t.high ≤ n ∧ t.size ≤ 1000 ∧ ∀ H', Same H H' → Q (nV t.high) H'
theorem TmAt.name {H : Hp} {v : V} {t : Tm} (h : TmAt H v t) : TyN H v (match t with | .var _ => "int" | .node _ _ => "tuple") := by
  cases h with
  | var n => exact rfl
  | node h1 h2 => exact .inr (.inl ⟨rfl, _, h1⟩)
section
variable {P : Program} {w : World} {K : PySem.W.Frag} {mg : Str → Option Value} {base : Heap}
theorem scLOcc : FnScope ["term", "row", "part"] ["term"] (defScope sLOcc) := ⟨rfl, rfl, rfl, by decide +kernel, rfl, by decide +kernel, by decide +kernel⟩
theorem ok_lOcc1 {n : Nat} {f g : Addr} {fd gd : FuncData} (F : Fun K "_law_occurrences" "_law_occurrences" sLOcc f fd) (G : FnOk P w K mg base CX0 1 g gd ["actual"] spIsInt) (bG : Binds K gd ["actual"] [])
    (kG : PySem.W.keepIn K (.ref g) = true) (mG : mg "_law_is_integer" = some (.ref g)) (R : FnOk P w K mg base CX0 (n + 1) f fd ["term"] (spLOcc n)) (bR : Binds K fd ["term"] []) (mR : mg "_law_occurrences" = some (.ref f)) :
    FnOk P w K mg base CX0 (n + 2) f fd ["term"] (spLOcc (n + 1)) := by
  have kR := F.kp
  refine F.ok scLOcc (fun vs H Q E h => ?_) (fun cdv A outer s H vs Q E hr h => ?_)
  · obtain ⟨v, t, rfl, _⟩ := h
    rfl
  obtain ⟨v, t, rfl, ht, hh, hz, q⟩ := h
  have nd := scLOcc.nd
  refine ⟨_, pss_cons (ps_if (pt_val (pe_call G (hr.mono (by omega)) rfl mG kG bG .nil pass0 (pa_cons (pv 0) pa_nil))) (pss_one (ps_ret (pe_lst (pa_cons (pv 0) pa_nil)))) pss_nil)
    (pss_cons (ps_set (i := 1) nd rfl (.inl rfl) (pe_lst pa_nil))
    (pss_cons (ps_for PassesOwn.never rfl (pi_tup (pe_slice sl_tup (pv 0) (po_some pe_int) po_none)) (pg_name (i := 2) nd rfl (.inl rfl))
      (pss_one (ps_set (i := 1) nd rfl (.inl rfl) (pe_op op_cat (pv 1) (pe_call R hr rfl mR kR bR .nil pass0 (pa_cons (pv 2) pa_nil))))))
    (pss_one (ps_ret (pv 1))))), ?_⟩
  cases ht with
  | var m =>
    refine ⟨_, rfl, _, "int", rfl, rfl, _, rfl, iteT ?_⟩
    exact ⟨_, rfl, (by show 1 ≤ sizeLine; decide), fun p np => q p _ np upd_same (same_new np _)⟩
  | @node z w vs ps h1 h2 =>
    refine ⟨_, rfl, _, "tuple", rfl, .inr (.inl ⟨rfl, _, h1⟩), _, rfl, iteF ?_⟩
    refine ⟨(by show 0 ≤ sizeLine; decide), fun r nr => ?_⟩
    have s1 := same_new nr (HO.lst [])
    refine ⟨_, rfl, 1, rfl, z, _, rfl, SqT.of (s1 _ _ h1), notWhole _ _, fun d nd' => ?_⟩
    rw [cut1]
    have s2 := s1.trans (same_new nd' (HO.tup vs))
    have e1 : Tm.high (.node w ps) = 1 + Tm.highs ps := rfl
    have e2 : Tm.size (.node w ps) = 1 + Tm.sizes ps := rfl
    have hol := Tm.occs_len ps
    have lv := h2.length
    refine ⟨d, rfl, ⟨_, SqT.of upd_same⟩, ?_⟩
    refine for_tup (xs := vs) (fun i σ H1 => ∃ (r : Addr) (pt : Option V), σ = [some (.ref z), some (.ref r), pt] ∧ H r = none ∧ H1 r = some (.lst ((Tm.occs (ps.take i)).map V.int)) ∧ Same H H1 ∧ H1 d = some (.tup vs))
      ⟨r, none, rfl, nr, by rw [upd_ne (ne_of_none upd_same nd')]; exact upd_same, s2, upd_same⟩ (fun i σ H1 _ hp => by obtain ⟨_, _, _, _, _, _, h⟩ := hp; exact SqT.of h) (fun i x σ H1 hx hp => ?_) (fun σ H1 hp => ?_)
    · obtain ⟨r1, pt, rfl, g0, g1, g2, g3⟩ := hp
      have hil : i < ps.length := by rw [← lv]; exact (List.getElem?_eq_some_iff.mp hx).1
      have hpi : ps[i]? = some ps[i] := List.getElem?_eq_getElem hil
      obtain ⟨c, hc1, hc2⟩ := h2.get hpi
      obtain rfl : x = c := Option.some.inj (hx.symm.trans hc1)
      have m1 := Tm.size_mem (List.getElem_mem hil)
      have m2 := Tm.high_mem (List.getElem_mem hil)
      refine ⟨_, rfl, _, rfl, x, ps[i], rfl, TmAt.keep (KeepT.of g2) _ _ hc2, by omega, by omega, fun o H2 no ho sm => ?_⟩
      have ol := Tm.occs_len (ps.take i)
      have hlen : ((Tm.occs (ps.take i)).map V.int).length + (ps[i].occ.map V.int).length ≤ sizeLine := by
        have h3 : Tm.occs ps = Tm.occs (ps.take (i + 1)) ++ Tm.occs (ps.drop (i + 1)) := by rw [← Tm.occs_append, List.take_append_drop]
        have h4 := congrArg List.length h3
        rw [Tm.occs_take hpi, List.length_append, List.length_append] at h4
        rw [List.length_map, List.length_map]
        exact Nat.le_of_lt (small1000 (by omega))
      refine ⟨r1, o, _, _, rfl, rfl, sm _ _ g1, ho, hlen, fun y ny => ?_⟩
      have s3 := g2.trans (sm.trans (same_new ny (HO.lst ((Tm.occs (ps.take i)).map V.int ++ ps[i].occ.map V.int))))
      refine ⟨y, some x, rfl, (g2.trans sm).free ny, ?_, s3, (sm.trans (same_new ny _)) _ _ g3⟩
      rw [upd_same, Tm.occs_take hpi, List.map_append]
    · obtain ⟨r1, pt, rfl, g0, g1, g2, g3⟩ := hp
      rw [lv, List.take_length] at g1
      exact ⟨_, rfl, q r1 H1 g0 g1 g2⟩
theorem ok_lOcc {f g : Addr} {fd gd : FuncData} (F : Fun K "_law_occurrences" "_law_occurrences" sLOcc f fd) (G : FnOk P w K mg base CX0 1 g gd ["actual"] spIsInt) (bG : Binds K gd ["actual"] [])
    (kG : PySem.W.keepIn K (.ref g) = true) (mG : mg "_law_is_integer" = some (.ref g)) (bR : Binds K fd ["term"] []) (mR : mg "_law_occurrences" = some (.ref f)) : ∀ n : Nat, FnOk P w K mg base CX0 (n + 1) f fd ["term"] (spLOcc n)
  | 0 => none_left fun vs H Q E h => by
    obtain ⟨v, t, _, _, h1, _⟩ := h
    have := t.high_pos
    omega
  | n + 1 => ok_lOcc1 F G bG kG mG (ok_lOcc F G bG kG mG bR mR n) bR mR
theorem scUnlike : FnScope ["row", "seen", "item"] ["row"] (defScope sUnlike) := ⟨rfl, rfl, rfl, by decide +kernel, rfl, by decide +kernel, by decide +kernel⟩
theorem ok_unlike {f : Addr} {fd : FuncData} (F : Fun K "_law_unlike" "_law_unlike" sUnlike f fd) : FnOk P w K mg base CX0 1 f fd ["row"] (spUnlike K) := by
  refine F.ok scUnlike (fun vs H Q E h => ?_) (fun cdv A outer s H vs Q E hr h => ?_)
  · obtain ⟨p, ns, rfl, _⟩ := h
    rfl
  obtain ⟨p, ns, rfl, hp, hl, q⟩ := h
  have nd := scUnlike.nd
  refine ⟨_, pss_cons (ps_set (i := 1) nd rfl (.inl rfl) (pe_lst pa_nil))
    (pss_cons (ps_for PassesOwn.never rfl (pi_list (pv 0)) (pg_name (i := 2) nd rfl (.inl rfl))
      (pss_one (ps_if (pt_cmpR op_notIn_seq (pv 2) (pv 1) (by rfl)) (pss_one (ps_expr (pe_bm PySem.F.plainAttrs_list PySem.F.slot_list_append PySem.F.type_list_append mt_append (pv 1) (pa_cons (pv 2) pa_nil)))) pss_nil)))
    (pss_one (ps_ret (pv 1)))), ?_⟩
  refine ⟨(by show 0 ≤ sizeLine; decide), fun r nr => ?_⟩
  have s1 := same_new nr (HO.lst [])
  refine ⟨_, rfl, p, rfl, ⟨_, s1.seq hp⟩, ?_⟩
  refine for_list (xs := ns.map V.int) (fun i σ H1 => ∃ (pt : Option V), σ = [some (.ref p), some (.ref r), pt] ∧ H1 r = some (.lst ((firsts (ns.take i)).map V.int)) ∧ Same H H1)
    ⟨none, rfl, upd_same, s1⟩ (fun i σ H1 _ hh => by obtain ⟨_, _, _, h⟩ := hh; exact h.seq hp) (fun i x σ H1 hx hh => ?_) (fun σ H1 hh => ?_)
  · obtain ⟨pt, rfl, g1, g2⟩ := hh
    rw [List.getElem?_map] at hx
    obtain ⟨m, hm, rfl⟩ := Option.map_eq_some_iff.mp hx
    refine ⟨_, rfl, _, rfl, r, _, rfl, .inl (SqL.of g1), rfl, flat_int _, _, rfl, ?_⟩
    show if (!inV (.int m) ((firsts (ns.take i)).map V.int)) = true then _ else _
    rw [inV_int]
    have fl := firsts_len (ns.take i)
    rw [List.length_take] at fl
    by_cases c : m ∈ firsts (ns.take i)
    · rw [decide_eq_true c]
      refine iteF ⟨some (.int m), rfl, ?_, g2⟩
      rw [g1, firsts_take hm]
      unfold addNew
      rw [if_pos c]
    · rw [decide_eq_false c]
      refine iteT ⟨_, rfl, .inl ⟨rfl, _, SqL.of g1⟩, _, rfl, r, _, _, rfl, rfl, g1, by rw [List.length_map]; exact small1000 (by omega), some (.int m), rfl, ?_, ?_⟩
      · rw [upd_same, firsts_take hm]
        unfold addNew
        rw [if_neg c, List.map_append]
        all_goals rfl
      · exact fun b u hb => by rw [upd_ne (ne_of_none hb nr)]; exact g2 _ _ hb
  · obtain ⟨pt, rfl, g1, g2⟩ := hh
    rw [List.length_map, List.take_length] at g1
    exact ⟨_, rfl, q r H1 nr g1 g2⟩
theorem scLSize : FnScope ["term", "part"] ["term"] (defScope sLSize) := ⟨rfl, rfl, rfl, by decide +kernel, rfl, by decide +kernel, by decide +kernel⟩
theorem ok_lSize1 {n : Nat} {f g : Addr} {fd gd : FuncData} (F : Fun K "_law_size" "_law_size" sLSize f fd) (B : Blt mg) (G : FnOk P w K mg base CX0 1 g gd ["actual"] spIsInt) (bG : Binds K gd ["actual"] [])
    (kG : PySem.W.keepIn K (.ref g) = true) (mG : mg "_law_is_integer" = some (.ref g)) (R : FnOk P w K mg base CX0 (n + 1) f fd ["term"] (spLSize n)) (bR : Binds K fd ["term"] []) (mR : mg "_law_size" = some (.ref f)) :
    FnOk P w K mg base CX0 (n + 2) f fd ["term"] (spLSize (n + 1)) := by
  have kR := F.kp
  refine F.ok scLSize (fun vs H Q E h => ?_) (fun cdv A outer s H vs Q E hr h => ?_)
  · obtain ⟨v, t, rfl, _⟩ := h
    rfl
  obtain ⟨v, t, rfl, ht, hh, hz, q⟩ := h
  have nd := scLSize.nd
  refine ⟨_, pss_cons (ps_if (pt_val (pe_call G (hr.mono (by omega)) rfl mG kG bG .nil pass0 (pa_cons (pv 0) pa_nil))) (pss_one (ps_ret pe_int)) pss_nil)
    (pss_one (ps_ret (pe_op op_add pe_int (pe_callB (cr_sum rfl) (by rfl) B.sum (by decide +kernel) (pa_cons
      (pe_lc (own := [("part", 1)]) (g := gName 1) (tt := tYes) rfl nd (pi_tup (pe_slice sl_tup (pv 0) (po_some pe_int) po_none)) (blkOk_by (N := ["term", "part"]) (sc := defScope sLSize) (by decide +kernel))
        (fun _ _ _ _ _ => pg_name (i := 1) nd rfl (.inl rfl)) (fun _ _ _ _ _ => pts_nil) (fun _ _ _ _ _ => pe_call R hr rfl mR kR bR .nil pass0 (pa_cons (pv 1) pa_nil))) pa_nil))))), ?_⟩
  cases ht with
  | var m =>
    refine ⟨_, rfl, _, "int", rfl, rfl, _, rfl, iteT ?_⟩
    exact q H (Same.refl H)
  | @node z w vs ps h1 h2 =>
    refine ⟨_, rfl, _, "tuple", rfl, .inr (.inl ⟨rfl, _, h1⟩), _, rfl, iteF ?_⟩
    refine ⟨_, rfl, 1, rfl, z, _, rfl, SqT.of h1, notWhole _ _, fun d nd' => ?_⟩
    rw [cut1]
    have s1 := same_new nd' (HO.tup vs)
    have e1 : Tm.high (.node w ps) = 1 + Tm.highs ps := rfl
    have e2 : Tm.size (.node w ps) = 1 + Tm.sizes ps := rfl
    have lv := h2.length
    have lps := Tm.sizes_len ps
    refine ⟨d, rfl, ⟨_, SqT.of upd_same⟩, fun D nD => ?_⟩
    have hdD : d ≠ D := ne_of_none upd_same nD
    refine lc_tup (xs := vs) (fun i H' => H' D = some (.lst (((ps.take i).map fun p => (p.size : Int)).map V.int)) ∧ H' d = some (.tup vs) ∧ Same (upd H d (.tup vs)) H')
      ⟨upd_same, by rw [upd_ne hdD]; exact upd_same, same_new nD _⟩ (fun i H' _ hh => SqT.of hh.2.1) (fun i x H' hx hh => ?_) (fun H' hh => ?_)
    · obtain ⟨g1, g2, g3⟩ := hh
      have hil : i < ps.length := by rw [← lv]; exact (List.getElem?_eq_some_iff.mp hx).1
      have hpi : ps[i]? = some ps[i] := List.getElem?_eq_getElem hil
      obtain ⟨c, hc1, hc2⟩ := h2.get hpi
      obtain rfl : x = c := Option.some.inj (hx.symm.trans hc1)
      have m1 := Tm.size_mem (List.getElem_mem hil)
      have m2 := Tm.high_mem (List.getElem_mem hil)
      refine ⟨rfl, _, rfl, x, ps[i], rfl, TmAt.keep (KeepT.of (s1.trans g3)) _ _ hc2, by omega, by omega, fun H2 sm => ?_⟩
      refine ⟨_, sm _ _ g1, by rw [List.length_map, List.length_map, List.length_take]; exact small1000 (by omega), ?_, ?_, ?_⟩
      · rw [upd_same, List.take_add_one, hpi, List.map_append, List.map_append]
        all_goals rfl
      · rw [upd_ne hdD]; exact sm _ _ g2
      · exact fun b u hb => by rw [upd_ne (ne_of_none hb nD)]; exact sm _ _ (g3 _ _ hb)
    · obtain ⟨g1, g2, g3⟩ := hh
      rw [lv, List.take_length] at g1
      refine ⟨D, _, rfl, SqL.of g1, _, _, rfl, rfl, ?_⟩
      rw [sum_sizes]
      have e : (1 : Int) + ((Tm.sizes ps : Nat) : Int) = ((Tm.size (.node w ps) : Nat) : Int) := by rw [e2]; omega
      show Q (.int (1 + ((Tm.sizes ps : Nat) : Int))) H'
      rw [e]
      exact q H' (s1.trans g3)
theorem ok_lSize {f g : Addr} {fd gd : FuncData} (F : Fun K "_law_size" "_law_size" sLSize f fd) (B : Blt mg) (G : FnOk P w K mg base CX0 1 g gd ["actual"] spIsInt) (bG : Binds K gd ["actual"] [])
    (kG : PySem.W.keepIn K (.ref g) = true) (mG : mg "_law_is_integer" = some (.ref g)) (bR : Binds K fd ["term"] []) (mR : mg "_law_size" = some (.ref f)) : ∀ n : Nat, FnOk P w K mg base CX0 (n + 1) f fd ["term"] (spLSize n)
  | 0 => none_left fun vs H Q E h => by
    obtain ⟨v, t, _, _, h1, _⟩ := h
    have := t.high_pos
    omega
  | n + 1 => ok_lSize1 F B G bG kG mG (ok_lSize F B G bG kG mG bR mR n) bR mR
theorem scLHeight : FnScope ["term", "part"] ["term"] (defScope sLHeight) := ⟨rfl, rfl, rfl, by decide +kernel, rfl, by decide +kernel, by decide +kernel⟩
theorem ok_lHeight1 {n : Nat} {f g : Addr} {fd gd : FuncData} (F : Fun K "_law_height" "_law_height" sLHeight f fd) (B : Blt mg) (G : FnOk P w K mg base CX0 1 g gd ["actual"] spIsInt) (bG : Binds K gd ["actual"] [])
    (kG : PySem.W.keepIn K (.ref g) = true) (mG : mg "_law_is_integer" = some (.ref g)) (R : FnOk P w K mg base CX0 (n + 1) f fd ["term"] (spLHeight n)) (bR : Binds K fd ["term"] []) (mR : mg "_law_height" = some (.ref f)) :
    FnOk P w K mg base CX0 (n + 2) f fd ["term"] (spLHeight (n + 1)) := by
  have kR := F.kp
  refine F.ok scLHeight (fun vs H Q E h => ?_) (fun cdv A outer s H vs Q E hr h => ?_)
  · obtain ⟨v, t, rfl, _⟩ := h
    rfl
  obtain ⟨v, t, rfl, ht, hh, hz, q⟩ := h
  have nd := scLHeight.nd
  refine ⟨_, pss_cons (ps_if (PW.pt (pw_or (pt_val (pe_call G (hr.mono (by omega)) rfl mG kG bG .nil pass0 (pa_cons (pv 0) pa_nil))) (pw_or1 (pt_cmpR op_eq (pe_callB call_len_seq (by rfl) B.len PySem.boot_len (pa_cons (pv 0) pa_nil)) pe_int (nomark _))))) (pss_one (ps_ret pe_int)) pss_nil)
    (pss_one (ps_ret (pe_op op_add pe_int (pe_callB (cr_max rfl) (by rfl) B.max (by decide +kernel) (pa_cons
      (pe_lc (own := [("part", 1)]) (g := gName 1) (tt := tYes) rfl nd (pi_tup (pe_slice sl_tup (pv 0) (po_some pe_int) po_none)) (blkOk_by (N := ["term", "part"]) (sc := defScope sLHeight) (by decide +kernel))
        (fun _ _ _ _ _ => pg_name (i := 1) nd rfl (.inl rfl)) (fun _ _ _ _ _ => pts_nil) (fun _ _ _ _ _ => pe_call R hr rfl mR kR bR .nil pass0 (pa_cons (pv 1) pa_nil))) pa_nil))))), ?_⟩
  cases ht with
  | var m =>
    refine ⟨_, rfl, _, "int", rfl, rfl, _, rfl, iteT (iteT ?_)⟩
    exact q H (Same.refl H)
  | @node z w vs ps h1 h2 =>
    have e1 : Tm.high (.node w ps) = 1 + Tm.highs ps := rfl
    have e2 : Tm.size (.node w ps) = 1 + Tm.sizes ps := rfl
    have lv := h2.length
    have lps := Tm.sizes_len ps
    refine ⟨_, rfl, _, "tuple", rfl, .inr (.inl ⟨rfl, _, h1⟩), _, rfl, iteF ⟨_, rfl, z, _, rfl, .inr (SqT.of h1), rfl, _, rfl, ite2 (fun c => ?_) (fun c => ?_)⟩⟩
    · have c' : (((V.str w :: vs).length : Nat) : Int) = 1 := V.int.inj (of_decide_eq_true c)
      rw [List.length_cons] at c'
      have hps : ps = [] := List.length_eq_zero_iff.mp (by omega)
      subst hps
      exact q H (Same.refl H)
    have hpos : 0 < ps.length := by
      rcases Nat.eq_zero_or_pos ps.length with e | e
      · exact absurd (decide_eq_true (by rw [List.length_cons, lv, e]; rfl)) c
      · exact e
    refine ⟨_, rfl, 1, rfl, z, _, rfl, SqT.of h1, notWhole _ _, fun d nd' => ?_⟩
    rw [cut1]
    have s1 := same_new nd' (HO.tup vs)
    refine ⟨d, rfl, ⟨_, SqT.of upd_same⟩, fun D nD => ?_⟩
    have hdD : d ≠ D := ne_of_none upd_same nD
    refine lc_tup (xs := vs) (fun i H' => H' D = some (.lst (((ps.take i).map fun p => (p.high : Int)).map V.int)) ∧ H' d = some (.tup vs) ∧ Same (upd H d (.tup vs)) H')
      ⟨upd_same, by rw [upd_ne hdD]; exact upd_same, same_new nD _⟩ (fun i H' _ hh => SqT.of hh.2.1) (fun i x H' hx hh => ?_) (fun H' hh => ?_)
    · obtain ⟨g1, g2, g3⟩ := hh
      have hil : i < ps.length := by rw [← lv]; exact (List.getElem?_eq_some_iff.mp hx).1
      have hpi : ps[i]? = some ps[i] := List.getElem?_eq_getElem hil
      obtain ⟨c, hc1, hc2⟩ := h2.get hpi
      obtain rfl : x = c := Option.some.inj (hx.symm.trans hc1)
      have m1 := Tm.size_mem (List.getElem_mem hil)
      have m2 := Tm.high_mem (List.getElem_mem hil)
      refine ⟨rfl, _, rfl, x, ps[i], rfl, TmAt.keep (KeepT.of (s1.trans g3)) _ _ hc2, by omega, by omega, fun H2 sm => ?_⟩
      refine ⟨_, sm _ _ g1, by rw [List.length_map, List.length_map, List.length_take]; exact small1000 (by omega), ?_, ?_, ?_⟩
      · rw [upd_same, List.take_add_one, hpi, List.map_append, List.map_append]
        all_goals rfl
      · rw [upd_ne hdD]; exact sm _ _ g2
      · exact fun b u hb => by rw [upd_ne (ne_of_none hb nD)]; exact sm _ _ (g3 _ _ hb)
    · obtain ⟨g1, g2, g3⟩ := hh
      rw [lv, List.take_length] at g1
      refine ⟨D, _, rfl, SqL.of g1, by rw [List.length_map]; exact hpos, fun m hm1 hm2 => ?_⟩
      refine ⟨_, _, rfl, rfl, ?_⟩
      have e := max_highs hm1 hm2
      subst e
      have e3 : (1 : Int) + ((Tm.highs ps : Nat) : Int) = ((Tm.high (.node w ps) : Nat) : Int) := by rw [e1]; omega
      show Q (.int (1 + ((Tm.highs ps : Nat) : Int))) H'
      rw [e3]
      exact q H' (s1.trans g3)
theorem ok_lHeight {f g : Addr} {fd gd : FuncData} (F : Fun K "_law_height" "_law_height" sLHeight f fd) (B : Blt mg) (G : FnOk P w K mg base CX0 1 g gd ["actual"] spIsInt) (bG : Binds K gd ["actual"] [])
    (kG : PySem.W.keepIn K (.ref g) = true) (mG : mg "_law_is_integer" = some (.ref g)) (bR : Binds K fd ["term"] []) (mR : mg "_law_height" = some (.ref f)) : ∀ n : Nat, FnOk P w K mg base CX0 (n + 1) f fd ["term"] (spLHeight n)
  | 0 => none_left fun vs H Q E h => by
    obtain ⟨v, t, _, _, h1, _⟩ := h
    have := t.high_pos
    omega
  | n + 1 => ok_lHeight1 F B G bG kG mG (ok_lHeight F B G bG kG mG bR mR n) bR mR
end
end Cf
namespace Cf
open PySem L2
theorem over_small {cs : List (Str × Nat)} {ns : List Int} (h : ∀ c ∈ cs, c.2 ≤ 2) : ∀ (d : Nat) (t : Tm), TmOver cs ns d t → t.size + 1 ≤ 2 ^ d ∧ t.high ≤ d
  | 0, _, o => o.elim
  | d + 1, .var n, _ => ⟨by show 1 + 1 ≤ 2 ^ (d + 1); have := Nat.pow_le_pow_right (n := 2) (by decide) (show 1 ≤ d + 1 by omega); omega, by show 1 ≤ d + 1; omega⟩
  | d + 1, .node w ps, o => by
    have h2 : ps.length ≤ 2 := h _ o.1
    have all : ∀ (qs : List Tm), (∀ p ∈ qs, TmOver cs ns d p) → Tm.sizes qs ≤ qs.length * (2 ^ d - 1) ∧ Tm.highs qs ≤ d := by
      intro qs
      induction qs with
      | nil => intro _; exact ⟨Nat.zero_le _, Nat.zero_le _⟩
      | cons p r ih =>
        intro z
        have a := over_small h d p (z p List.mem_cons_self)
        have b := ih fun x hx => z x (List.mem_cons_of_mem _ hx)
        refine ⟨?_, ?_⟩
        · show p.size + Tm.sizes r ≤ (r.length + 1) * (2 ^ d - 1)
          rw [Nat.succ_mul]
          omega
        · show max p.high (Tm.highs r) ≤ d
          omega
    have k := all ps o.2
    have k2 : ps.length * (2 ^ d - 1) ≤ 2 * (2 ^ d - 1) := Nat.mul_le_mul_right _ h2
    have k3 : 0 < 2 ^ d := Nat.pow_pos (by decide)
    refine ⟨?_, ?_⟩
    · show 1 + Tm.sizes ps + 1 ≤ 2 ^ (d + 1)
      rw [Nat.pow_succ]
      omega
    · show 1 + Tm.highs ps ≤ d + 1
      omega
theorem cutV_map (ns : List Int) (lo hi : Option Int) : ∃ ms : List Int, cutV (ns.map V.int) lo hi = ms.map V.int ∧ ms.length ≤ ns.length ∧ ∀ m ∈ ms, m ∈ ns := by
  refine ⟨(ns.drop (HT.sIx (ns.map V.int).length 0 lo)).take (HT.sIx (ns.map V.int).length (ns.map V.int).length hi - HT.sIx (ns.map V.int).length 0 lo), ?_, ?_, ?_⟩
  · unfold cutV
    rw [List.map_take, List.map_drop]
  · rw [List.length_take, List.length_drop]; omega
  · intro m hm
    exact List.mem_of_mem_drop (List.mem_of_mem_take hm)
end Cf
namespace Cf
open PySem L2
abbrev sLaw : Stmt := top 22
section
variable {P : Program} {w : World} {K : PySem.W.Frag} {mg : Str → Option Value} {base : Heap}
theorem scLaw : FnScope ["script", "pool", "constructors", "turn", "numbers", "term", "row", "due"] ["script"] (defScope sLaw) := ⟨rfl, rfl, rfl, by decide +kernel, rfl, by decide +kernel, by decide +kernel⟩
theorem ok_law {f : Addr} {fd : FuncData} (F : Fun K "law" "law" sLaw f fd) (B : Blt mg) (a1 : At P w K mg base "_law_pool" 1 ["script"] (spPool K)) (a2 : At P w K mg base "_law_constructors" 4 ["pool"] spCons)
    (a3 : At P w K mg base "_law_draw" 2 ["pool", "many"] spDraw) (a4 : At P w K mg base "_law_term" 7 ["pool", "constructors", "numbers", "deep"] (spTerm K 4)) (a5 : At P w K mg base "_law_occurrences" 5 ["term"] (spLOcc 4))
    (a6 : At P w K mg base "_law_size" 5 ["term"] (spLSize 4)) (a7 : At P w K mg base "_law_height" 5 ["term"] (spLHeight 4)) (a8 : At P w K mg base "_law_unlike" 1 ["row"] (spUnlike K))
    (a9 : At P w K mg base "_law_same" 3 ["actual", "due"] (spSame 3)) (b1 : At P w K mg base "size" 1 ["term"] spSize) (b2 : At P w K mg base "height" 1 ["term"] spHeight) (b3 : At P w K mg base "variables" 3 ["term"] spVars) (b4 : At P w K mg base "is_linear" 2 ["term"] spLinear) :
    FnOk P w K mg base CX0 8 f fd ["script"] (spLaw K) := by
  obtain ⟨f1, d1, F1, B1, k1, m1⟩ := a1.ex
  obtain ⟨f2, d2, F2, B2, k2, m2⟩ := a2.ex
  obtain ⟨f3, d3, F3, B3, k3, m3⟩ := a3.ex
  obtain ⟨f4, d4, F4, B4, k4, m4⟩ := a4.ex
  obtain ⟨f5, d5, F5, B5, k5, m5⟩ := a5.ex
  obtain ⟨f6, d6, F6, B6, k6, m6⟩ := a6.ex
  obtain ⟨f7, d7, F7, B7, k7, m7⟩ := a7.ex
  obtain ⟨f8, d8, F8, B8, k8, m8⟩ := a8.ex
  obtain ⟨f9, d9, F9, B9, k9, m9⟩ := a9.ex
  obtain ⟨g1, e1, G1, C1, l1, n1⟩ := b1.ex
  obtain ⟨g2, e2, G2, C2, l2, n2⟩ := b2.ex
  obtain ⟨g3, e3, G3, C3, l3, n3⟩ := b3.ex
  obtain ⟨g4, e4, G4, C4, l4, n4⟩ := b4.ex
  refine F.ok scLaw (fun vs H Q E h => ?_) (fun cdv A outer s H vs Q E hr h => ?_)
  · obtain ⟨a, ns, rfl, _⟩ := h
    rfl
  obtain ⟨a, ns, rfl, hS, h63, q⟩ := h
  have nd := scLaw.nd
  refine ⟨_, pss_cons (ps_set (i := 1) nd rfl (.inl rfl) (pe_call F1 (hr.mono (by decide)) rfl m1 k1 B1 .nil pass0 (pa_cons (pv 0) pa_nil)))
    (pss_cons (ps_set (i := 2) nd rfl (.inl rfl) (pe_call F2 (hr.mono (by decide)) rfl m2 k2 B2 .nil pass0 (pa_cons (pv 1) pa_nil)))
    (pss_cons (ps_for PassesOwn.never rfl (pi_range1 rfl B.range (pa_cons pe_int pa_nil)) (pg_name (i := 3) nd rfl (.inl rfl))
      (pss_cons (ps_set (i := 4) nd rfl (.inl rfl) (pe_slice sl_list (pe_lst (pa_cons pe_int (pa_cons pe_int (pa_cons pe_int (pa_cons pe_int pa_nil))))) po_none (po_some (pe_call F3 (hr.mono (by decide)) rfl m3 k3 B3 .nil pass0 (pa_cons (pv 1) (pa_cons pe_int pa_nil))))))
      (pss_cons (ps_set (i := 5) nd rfl (.inl rfl) (pe_call F4 hr rfl m4 k4 B4 .nil pass0 (pa_cons (pv 1) (pa_cons (pv 2) (pa_cons (pv 4) (pa_cons (pe_op op_add pe_int (pe_call F3 (hr.mono (by decide)) rfl m3 k3 B3 .nil pass0 (pa_cons (pv 1) (pa_cons pe_int pa_nil)))) pa_nil))))))
      (pss_cons (ps_set (i := 6) nd rfl (.inl rfl) (pe_call F5 (hr.mono (by decide)) rfl m5 k5 B5 .nil pass0 (pa_cons (pv 5) pa_nil)))
      (pss_cons (ps_set (i := 7) nd rfl (.inl rfl) (pe_lst (pa_cons (pe_call F6 (hr.mono (by decide)) rfl m6 k6 B6 .nil pass0 (pa_cons (pv 5) pa_nil)) (pa_cons (pe_call F7 (hr.mono (by decide)) rfl m7 k7 B7 .nil pass0 (pa_cons (pv 5) pa_nil))
          (pa_cons (pe_call F8 (hr.mono (by decide)) rfl m8 k8 B8 .nil pass0 (pa_cons (pv 6) pa_nil)) (pa_cons (pe_cmpR op_eq (Cr.pe_lenSet (by rfl) B.len (by rfl) B.set (pv 6)) (pe_callB call_len_seq (by rfl) B.len PySem.boot_len (pa_cons (pv 6) pa_nil)) (nomark _)) pa_nil))))))
      (pss_one (ps_if (pt_not (pt_val (pe_call F9 (hr.mono (by decide)) rfl m9 k9 B9 .nil pass0 (pa_cons (pe_lst (pa_cons (pe_call G1 (hr.mono (by decide)) rfl n1 l1 C1 .nil pass0 (pa_cons (pv 5) pa_nil)) (pa_cons (pe_call G2 (hr.mono (by decide)) rfl n2 l2 C2 .nil pass0 (pa_cons (pv 5) pa_nil))
          (pa_cons (pe_call G3 (hr.mono (by decide)) rfl n3 l3 C3 .nil pass0 (pa_cons (pv 5) pa_nil)) (pa_cons (pe_call G4 (hr.mono (by decide)) rfl n4 l4 C4 .nil pass0 (pa_cons (pv 5) pa_nil)) pa_nil))))) (pa_cons (pv 7) pa_nil)))))
        (pss_one (ps_ret pe_bl)) pss_nil)))))))
    (pss_one (ps_ret pe_bl)))), ?_⟩
  refine ⟨_, rfl, a, ns, rfl, hS, h63, fun p b H1 hp s1 np => ?_⟩
  refine ⟨_, rfl, p, b, rfl, hp, fun cs c H2 hok nc hc hp2 e2 => ?_⟩
  refine ⟨_, rfl, by decide, by decide, ?_⟩
  refine for_range (n := 6) (fun i σ H' => ∃ (x3 x4 x5 x6 x7 : Option V), σ = [some (.ref a), some (.ref p), some (.ref c), x3, x4, x5, x6, x7] ∧ PoolAt H' p b ∧ ConsAt H' c cs)
    ⟨none, none, none, none, none, rfl, hp2, hc⟩ (fun i σ H3 hi hh => ?_) (fun σ H3 hh => ?_)
  · obtain ⟨x3, x4, x5, x6, x7, rfl, hp3, hc3⟩ := hh
    refine ⟨(by show 4 ≤ sizeLine; decide), fun l nl => ?_⟩
    refine ⟨_, rfl, p, b, 5, rfl, pool_new hp3 nl, by decide, by decide, fun d H4 d0 d1 hp4 e4 => ?_⟩
    have nlp : l ≠ p := pool_a hp3 nl
    obtain ⟨ms, hms, hml, _⟩ := cutV_map [5, 0, 2, 9] none (some d)
    refine ⟨d, rfl, l, _, rfl, SqL.of (e4 _ _ nlp upd_same), fun u nu => ?_⟩
    have hcut : cutV [V.int 5, V.int 0, V.int 2, V.int 9] none (some d) = ms.map V.int := hms
    rw [hcut]
    have hp5 := pool_new (o := .lst (ms.map V.int)) hp4 nu
    have c5 : ConsAt (upd H4 u (.lst (ms.map V.int))) c cs := ((hc3.keep (KeepT.of (same_new nl _))).keep (KeepT.but e4 (pool_new hp3 nl))).keep (KeepT.of (same_new nu _))
    have nup : u ≠ p := pool_a hp4 nu
    refine ⟨_, rfl, _, rfl, _, rfl, _, rfl, p, b, 4, rfl, hp5, by decide, by decide, fun d2 H6 y0 y1 hp6 e6 => ?_⟩
    refine ⟨_, _, rfl, rfl, ?_⟩
    have ed : (1 : Int) + d2 = ((d2.toNat + 1 : Nat) : Int) := by omega
    refine ⟨p, b, c, u, cs, ms, d2.toNat + 1, ?_, hp6, c5.keep (KeepT.but e6 hp5), hok, SqL.of (e6 _ _ nup upd_same), nup, Nat.le_trans hml (by decide), by omega, by omega, fun v t H7 hv hov hp7 e7 => ?_⟩
    · show [V.ref p, V.ref c, V.ref u, V.int (1 + d2)] = _
      rw [ed]
    have c7 : ConsAt H7 c cs := (c5.keep (KeepT.but e6 hp5)).keep (KeepT.but e7 hp6)
    obtain ⟨sz, hg⟩ := over_small hok.ar _ _ hov
    have sz2 : t.size + 1 ≤ 2 ^ 4 := Nat.le_trans sz (Nat.pow_le_pow_right (by decide) (by omega))
    have sz3 : t.size ≤ 1000 := by omega
    have hol := Tm.occ_len t
    refine ⟨_, rfl, v, t, rfl, hv, by omega, sz3, fun r H8 nr hr8 s8 => ?_⟩
    have t8 := TmAt.keep (KeepT.of s8) _ _ hv
    refine ⟨_, rfl, v, t, rfl, t8, by omega, sz3, fun H9 s9 => ?_⟩
    have t9 := TmAt.keep (KeepT.of s9) _ _ t8
    refine ⟨_, rfl, v, t, rfl, t9, by omega, sz3, fun H10 s10 => ?_⟩
    have t10 := TmAt.keep (KeepT.of s10) _ _ t9
    have r10 := s10 _ _ (s9 _ _ hr8)
    refine ⟨_, rfl, r, t.occ, rfl, SqL.of r10, by omega, fun un H11 nun hun s11 => ?_⟩
    have t11 := TmAt.keep (KeepT.of s11) _ _ t10
    have r11 := s11 _ _ r10
    refine ⟨_, rfl, r, t.occ, rfl, SqL.of r11, by omega, _, rfl, r, _, rfl, .inl (SqL.of r11), rfl, ?_⟩
    refine ⟨(by show 4 ≤ sizeLine; decide), fun D nD => ?_⟩
    have s12 := same_new nD (HO.lst [nV t.size, nV t.high, V.ref un, V.bl (decide (V.int ((Cr.many t.occ : Nat) : Int) = V.int (((t.occ.map V.int).length : Nat) : Int)))])
    have t12 := TmAt.keep (KeepT.of s12) _ _ t11
    refine ⟨_, rfl, v, t, rfl, t12, sz3, fun H13 s13 => ?_⟩
    have t13 := TmAt.keep (KeepT.of s13) _ _ t12
    refine ⟨_, rfl, v, t, rfl, t13, sz3, fun H14 s14 => ?_⟩
    have t14 := TmAt.keep (KeepT.of s14) _ _ t13
    refine ⟨_, rfl, v, t, rfl, t14, sz3, fun vq H15 nvq hvq s15 => ?_⟩
    have t15 := TmAt.keep (KeepT.of s15) _ _ t14
    refine ⟨_, rfl, v, t, rfl, t15, sz3, fun H16 s16 => ?_⟩
    refine ⟨(by show 4 ≤ sizeLine; decide), fun L nL => ?_⟩
    have s17 := same_new nL (HO.lst [nV t.size, nV t.high, V.ref vq, V.bl (decide (Cr.many t.occ = t.occ.length))])
    have sD := ((s13.trans s14).trans (s15.trans s16)).trans s17
    have sAll := ((s8.trans (s9.trans s10)).trans (s11.trans s12)).trans sD
    have ec : decide (V.int ((Cr.many t.occ : Nat) : Int) = V.int (((t.occ.map V.int).length : Nat) : Int)) = decide (Cr.many t.occ = t.occ.length) := by
      rw [List.length_map]
      by_cases z : Cr.many t.occ = t.occ.length
      · rw [decide_eq_true z, decide_eq_true (by rw [z])]
      · rw [decide_eq_false z, decide_eq_false (fun y => z (by have := V.int.inj y; omega))]
    have fD := sD _ _ (upd_same (H := H11) (a := D) (o := HO.lst [nV t.size, nV t.high, V.ref un, V.bl (decide (V.int ((Cr.many t.occ : Nat) : Int) = V.int (((t.occ.map V.int).length : Nat) : Int)))]))
    have fun' := (s12.trans sD) _ _ hun
    have fvq := (s16.trans s17) _ _ hvq
    rw [ec] at fD
    refine ⟨_, rfl, .ref L, .ref D, rfl, ?_, fun H18 s18 => ?_⟩
    · refine Eqd.lst upd_same fD rfl (by show 4 ≤ 1000000; decide) fun i x y hx hy => ?_
      match i, hx, hy with
      | 0, hx, hy => cases hx; cases hy; exact Eqd.flat rfl
      | 1, hx, hy => cases hx; cases hy; exact Eqd.flat rfl
      | 2, hx, hy =>
        cases hx; cases hy
        have fl := firsts_len t.occ
        refine Eqd.lst fvq fun' rfl (by rw [List.length_map]; omega) fun j x y hx hy => ?_
        obtain rfl : x = y := Option.some.inj (hx.symm.trans hy)
        rw [List.getElem?_map] at hx
        obtain ⟨m, _, rfl⟩ := Option.map_eq_some_iff.mp hx
        exact Eqd.flat rfl
      | 3, hx, hy => cases hx; cases hy; exact Eqd.flat rfl
      | n + 4, hx, _ => cases hx
    · refine ⟨_, rfl, iteF ⟨_, _, _, _, _, rfl, pool_same hp7 (sAll.trans s18), c7.keep (KeepT.of (sAll.trans s18))⟩⟩
  · obtain ⟨x3, x4, x5, x6, x7, rfl, _, _⟩ := hh
    exact q H3
end
end Cf
namespace Cf
open PySem L2
section
theorem all_mk {l : PySem.W.OpenLaw} {w : World} {K : PySem.W.Frag} {h : Heap} {mg : Str → Option Value} {fa fPool fSpread fDraw fPick fSpelled fWords fCons fTerm fIsInt fSame fLOcc fLSize fLHeight fUnlike fSize fHeight fOcc fVarsIn fVars fLinear fLaw : Addr} (X : K.In h) (G : h.Ns mainGlobals mg) (hfa : mg "law" = some (.ref fa))
    {odPool anPool odSpread anSpread odDraw anDraw odPick anPick odSpelled anSpelled odWords anWords odCons anCons odTerm anTerm odIsInt anIsInt odSame anSame odLOcc anLOcc odLSize anLSize odLHeight anLHeight odUnlike anUnlike odSize anSize odHeight anHeight odOcc anOcc odVarsIn anVarsIn odVars anVars odLinear anLinear odLaw anLaw : Option Addr} {slPool slSpread slDraw slPick slSpelled slWords slCons slTerm slIsInt slSame slLOcc slLSize slLHeight slUnlike slSize slHeight slOcc slVarsIn slVars slLinear slLaw : Array (Option Value)} {ocPool kVPool dcPool pmPool cdPool ctPool ocSpread kVSpread dcSpread pmSpread cdSpread ctSpread ocDraw kVDraw dcDraw pmDraw cdDraw ctDraw ocPick kVPick dcPick pmPick cdPick ctPick ocSpelled kVSpelled dcSpelled pmSpelled cdSpelled ctSpelled ocWords kVWords dcWords pmWords cdWords ctWords ocCons kVCons dcCons pmCons cdCons ctCons ocTerm kVTerm dcTerm pmTerm cdTerm ctTerm ocIsInt kVIsInt dcIsInt pmIsInt cdIsInt ctIsInt ocSame kVSame dcSame pmSame cdSame ctSame ocLOcc kVLOcc dcLOcc pmLOcc cdLOcc ctLOcc ocLSize kVLSize dcLSize pmLSize cdLSize ctLSize ocLHeight kVLHeight dcLHeight pmLHeight cdLHeight ctLHeight ocUnlike kVUnlike dcUnlike pmUnlike cdUnlike ctUnlike ocSize kVSize dcSize pmSize cdSize ctSize ocHeight kVHeight dcHeight pmHeight cdHeight ctHeight ocOcc kVOcc dcOcc pmOcc cdOcc ctOcc ocVarsIn kVVarsIn dcVarsIn pmVarsIn cdVarsIn ctVarsIn ocVars kVVars dcVars pmVars cdVars ctVars ocLinear kVLinear dcLinear pmLinear cdLinear ctLinear ocLaw kVLaw dcLaw pmLaw cdLaw ctLaw : Value}
    (aPool : PySem.W.nsIn K mainGlobals "_law_pool" = some (some (.ref fPool)))
    (lPool : K.lookup fPool = some ⟨ocPool, odPool, .func (PySem.W.fnOf "_law_pool" "_law_pool" (defArgs sPool) (defBody sPool) (defScope sPool) .none kVPool dcPool pmPool anPool cdPool ctPool), slPool⟩)
    (cPool : PySem.W.codeIn K cdPool "_law_pool" = true) (kPool : PySem.W.keepIn K (.ref fPool) = true)
    (aSpread : PySem.W.nsIn K mainGlobals "_law_spread" = some (some (.ref fSpread)))
    (lSpread : K.lookup fSpread = some ⟨ocSpread, odSpread, .func (PySem.W.fnOf "_law_spread" "_law_spread" (defArgs sSpread) (defBody sSpread) (defScope sSpread) .none kVSpread dcSpread pmSpread anSpread cdSpread ctSpread), slSpread⟩)
    (cSpread : PySem.W.codeIn K cdSpread "_law_spread" = true) (kSpread : PySem.W.keepIn K (.ref fSpread) = true)
    (aDraw : PySem.W.nsIn K mainGlobals "_law_draw" = some (some (.ref fDraw)))
    (lDraw : K.lookup fDraw = some ⟨ocDraw, odDraw, .func (PySem.W.fnOf "_law_draw" "_law_draw" (defArgs sDraw) (defBody sDraw) (defScope sDraw) .none kVDraw dcDraw pmDraw anDraw cdDraw ctDraw), slDraw⟩)
    (cDraw : PySem.W.codeIn K cdDraw "_law_draw" = true) (kDraw : PySem.W.keepIn K (.ref fDraw) = true)
    (aPick : PySem.W.nsIn K mainGlobals "_law_pick" = some (some (.ref fPick)))
    (lPick : K.lookup fPick = some ⟨ocPick, odPick, .func (PySem.W.fnOf "_law_pick" "_law_pick" (defArgs sPick) (defBody sPick) (defScope sPick) .none kVPick dcPick pmPick anPick cdPick ctPick), slPick⟩)
    (cPick : PySem.W.codeIn K cdPick "_law_pick" = true) (kPick : PySem.W.keepIn K (.ref fPick) = true)
    (aSpelled : PySem.W.nsIn K mainGlobals "_law_spelled" = some (some (.ref fSpelled)))
    (lSpelled : K.lookup fSpelled = some ⟨ocSpelled, odSpelled, .func (PySem.W.fnOf "_law_spelled" "_law_spelled" (defArgs sSpelled) (defBody sSpelled) (defScope sSpelled) .none kVSpelled dcSpelled pmSpelled anSpelled cdSpelled ctSpelled), slSpelled⟩)
    (cSpelled : PySem.W.codeIn K cdSpelled "_law_spelled" = true) (kSpelled : PySem.W.keepIn K (.ref fSpelled) = true)
    (aWords : PySem.W.nsIn K mainGlobals "_law_words" = some (some (.ref fWords)))
    (lWords : K.lookup fWords = some ⟨ocWords, odWords, .func (PySem.W.fnOf "_law_words" "_law_words" (defArgs sWords) (defBody sWords) (defScope sWords) .none kVWords dcWords pmWords anWords cdWords ctWords), slWords⟩)
    (cWords : PySem.W.codeIn K cdWords "_law_words" = true) (kWords : PySem.W.keepIn K (.ref fWords) = true)
    (aCons : PySem.W.nsIn K mainGlobals "_law_constructors" = some (some (.ref fCons)))
    (lCons : K.lookup fCons = some ⟨ocCons, odCons, .func (PySem.W.fnOf "_law_constructors" "_law_constructors" (defArgs sCons) (defBody sCons) (defScope sCons) .none kVCons dcCons pmCons anCons cdCons ctCons), slCons⟩)
    (cCons : PySem.W.codeIn K cdCons "_law_constructors" = true) (kCons : PySem.W.keepIn K (.ref fCons) = true)
    (aTerm : PySem.W.nsIn K mainGlobals "_law_term" = some (some (.ref fTerm)))
    (lTerm : K.lookup fTerm = some ⟨ocTerm, odTerm, .func (PySem.W.fnOf "_law_term" "_law_term" (defArgs sTerm) (defBody sTerm) (defScope sTerm) .none kVTerm dcTerm pmTerm anTerm cdTerm ctTerm), slTerm⟩)
    (cTerm : PySem.W.codeIn K cdTerm "_law_term" = true) (kTerm : PySem.W.keepIn K (.ref fTerm) = true)
    (aIsInt : PySem.W.nsIn K mainGlobals "_law_is_integer" = some (some (.ref fIsInt)))
    (lIsInt : K.lookup fIsInt = some ⟨ocIsInt, odIsInt, .func (PySem.W.fnOf "_law_is_integer" "_law_is_integer" (defArgs sIsInt) (defBody sIsInt) (defScope sIsInt) .none kVIsInt dcIsInt pmIsInt anIsInt cdIsInt ctIsInt), slIsInt⟩)
    (cIsInt : PySem.W.codeIn K cdIsInt "_law_is_integer" = true) (kIsInt : PySem.W.keepIn K (.ref fIsInt) = true)
    (aSame : PySem.W.nsIn K mainGlobals "_law_same" = some (some (.ref fSame)))
    (lSame : K.lookup fSame = some ⟨ocSame, odSame, .func (PySem.W.fnOf "_law_same" "_law_same" (defArgs sSame) (defBody sSame) (defScope sSame) .none kVSame dcSame pmSame anSame cdSame ctSame), slSame⟩)
    (cSame : PySem.W.codeIn K cdSame "_law_same" = true) (kSame : PySem.W.keepIn K (.ref fSame) = true)
    (aLOcc : PySem.W.nsIn K mainGlobals "_law_occurrences" = some (some (.ref fLOcc)))
    (lLOcc : K.lookup fLOcc = some ⟨ocLOcc, odLOcc, .func (PySem.W.fnOf "_law_occurrences" "_law_occurrences" (defArgs sLOcc) (defBody sLOcc) (defScope sLOcc) .none kVLOcc dcLOcc pmLOcc anLOcc cdLOcc ctLOcc), slLOcc⟩)
    (cLOcc : PySem.W.codeIn K cdLOcc "_law_occurrences" = true) (kLOcc : PySem.W.keepIn K (.ref fLOcc) = true)
    (aLSize : PySem.W.nsIn K mainGlobals "_law_size" = some (some (.ref fLSize)))
    (lLSize : K.lookup fLSize = some ⟨ocLSize, odLSize, .func (PySem.W.fnOf "_law_size" "_law_size" (defArgs sLSize) (defBody sLSize) (defScope sLSize) .none kVLSize dcLSize pmLSize anLSize cdLSize ctLSize), slLSize⟩)
    (cLSize : PySem.W.codeIn K cdLSize "_law_size" = true) (kLSize : PySem.W.keepIn K (.ref fLSize) = true)
    (aLHeight : PySem.W.nsIn K mainGlobals "_law_height" = some (some (.ref fLHeight)))
    (lLHeight : K.lookup fLHeight = some ⟨ocLHeight, odLHeight, .func (PySem.W.fnOf "_law_height" "_law_height" (defArgs sLHeight) (defBody sLHeight) (defScope sLHeight) .none kVLHeight dcLHeight pmLHeight anLHeight cdLHeight ctLHeight), slLHeight⟩)
    (cLHeight : PySem.W.codeIn K cdLHeight "_law_height" = true) (kLHeight : PySem.W.keepIn K (.ref fLHeight) = true)
    (aUnlike : PySem.W.nsIn K mainGlobals "_law_unlike" = some (some (.ref fUnlike)))
    (lUnlike : K.lookup fUnlike = some ⟨ocUnlike, odUnlike, .func (PySem.W.fnOf "_law_unlike" "_law_unlike" (defArgs sUnlike) (defBody sUnlike) (defScope sUnlike) .none kVUnlike dcUnlike pmUnlike anUnlike cdUnlike ctUnlike), slUnlike⟩)
    (cUnlike : PySem.W.codeIn K cdUnlike "_law_unlike" = true) (kUnlike : PySem.W.keepIn K (.ref fUnlike) = true)
    (aSize : PySem.W.nsIn K mainGlobals "size" = some (some (.ref fSize)))
    (lSize : K.lookup fSize = some ⟨ocSize, odSize, .func (PySem.W.fnOf "size" "size" (defArgs sSize) (defBody sSize) (defScope sSize) .none kVSize dcSize pmSize anSize cdSize ctSize), slSize⟩)
    (cSize : PySem.W.codeIn K cdSize "size" = true) (kSize : PySem.W.keepIn K (.ref fSize) = true)
    (aHeight : PySem.W.nsIn K mainGlobals "height" = some (some (.ref fHeight)))
    (lHeight : K.lookup fHeight = some ⟨ocHeight, odHeight, .func (PySem.W.fnOf "height" "height" (defArgs sHeight) (defBody sHeight) (defScope sHeight) .none kVHeight dcHeight pmHeight anHeight cdHeight ctHeight), slHeight⟩)
    (cHeight : PySem.W.codeIn K cdHeight "height" = true) (kHeight : PySem.W.keepIn K (.ref fHeight) = true)
    (aOcc : PySem.W.nsIn K mainGlobals "occurrences" = some (some (.ref fOcc)))
    (lOcc : K.lookup fOcc = some ⟨ocOcc, odOcc, .func (PySem.W.fnOf "occurrences" "occurrences" (defArgs sOcc) (defBody sOcc) (defScope sOcc) .none kVOcc dcOcc pmOcc anOcc cdOcc ctOcc), slOcc⟩)
    (cOcc : PySem.W.codeIn K cdOcc "occurrences" = true) (kOcc : PySem.W.keepIn K (.ref fOcc) = true)
    (aVarsIn : PySem.W.nsIn K mainGlobals "variables_in" = some (some (.ref fVarsIn)))
    (lVarsIn : K.lookup fVarsIn = some ⟨ocVarsIn, odVarsIn, .func (PySem.W.fnOf "variables_in" "variables_in" (defArgs sVarsIn) (defBody sVarsIn) (defScope sVarsIn) .none kVVarsIn dcVarsIn pmVarsIn anVarsIn cdVarsIn ctVarsIn), slVarsIn⟩)
    (cVarsIn : PySem.W.codeIn K cdVarsIn "variables_in" = true) (kVarsIn : PySem.W.keepIn K (.ref fVarsIn) = true)
    (aVars : PySem.W.nsIn K mainGlobals "variables" = some (some (.ref fVars)))
    (lVars : K.lookup fVars = some ⟨ocVars, odVars, .func (PySem.W.fnOf "variables" "variables" (defArgs sVars) (defBody sVars) (defScope sVars) .none kVVars dcVars pmVars anVars cdVars ctVars), slVars⟩)
    (cVars : PySem.W.codeIn K cdVars "variables" = true) (kVars : PySem.W.keepIn K (.ref fVars) = true)
    (aLinear : PySem.W.nsIn K mainGlobals "is_linear" = some (some (.ref fLinear)))
    (lLinear : K.lookup fLinear = some ⟨ocLinear, odLinear, .func (PySem.W.fnOf "is_linear" "is_linear" (defArgs sLinear) (defBody sLinear) (defScope sLinear) .none kVLinear dcLinear pmLinear anLinear cdLinear ctLinear), slLinear⟩)
    (cLinear : PySem.W.codeIn K cdLinear "is_linear" = true) (kLinear : PySem.W.keepIn K (.ref fLinear) = true)
    (aLaw : PySem.W.nsIn K mainGlobals "law" = some (some (.ref fLaw)))
    (lLaw : K.lookup fLaw = some ⟨ocLaw, odLaw, .func (PySem.W.fnOf "law" "law" (defArgs sLaw) (defBody sLaw) (defScope sLaw) .none kVLaw dcLaw pmLaw anLaw cdLaw ctLaw), slLaw⟩)
    (cLaw : PySem.W.codeIn K cdLaw "law" = true) (kLaw : PySem.W.keepIn K (.ref fLaw) = true)
    (z0 : PySem.W.nsIn K mainGlobals "int" = some none)
    (z1 : PySem.W.nsIn K mainGlobals "len" = some none)
    (z2 : PySem.W.nsIn K mainGlobals "range" = some none)
    (z3 : PySem.W.nsIn K mainGlobals "list" = some none)
    (z4 : PySem.W.nsIn K mainGlobals "tuple" = some none)
    (z5 : PySem.W.nsIn K mainGlobals "isinstance" = some none)
    (z6 : PySem.W.nsIn K mainGlobals "bool" = some none)
    (z7 : PySem.W.nsIn K mainGlobals "str" = some none)
    (z8 : PySem.W.nsIn K mainGlobals "type" = some none)
    (z9 : PySem.W.nsIn K mainGlobals "max" = some none)
    (z10 : PySem.W.nsIn K mainGlobals "sum" = some none)
    (z11 : PySem.W.nsIn K mainGlobals "set" = some none)
    (z12 : PySem.W.nsIn K mainGlobals "dict" = some none)
    (z13 : PySem.W.nsIn K mainGlobals "sorted" = some none)
    (z14 : PySem.W.nsIn K mainGlobals "enumerate" = some none)
    (z15 : PySem.W.nsIn K mainGlobals "zip" = some none)
    (z16 : PySem.W.nsIn K mainGlobals "all" = some none)
    (z17 : PySem.W.nsIn K mainGlobals "repr" = some none)
    (z18 : PySem.W.nsIn K mainGlobals "min" = some none)
    : ∃ fd : FuncData, (∀ (s : Shared) (v : Value), BindsTo s fd ⟨[v], []⟩ [("script", v)]) ∧ ∀ base : Heap, K.In base → base.Ns mainGlobals mg → FnOk l.prog w K mg base CX0 8 fa fd ["script"] (spLaw K) := by
  have e := hfa.symm.trans (PySem.W.mg_of X G aLaw)
  cases e
  have FPool := fun_mk (st := sPool) lPool cPool kPool
  have FSpread := fun_mk (st := sSpread) lSpread cSpread kSpread
  have FDraw := fun_mk (st := sDraw) lDraw cDraw kDraw
  have FPick := fun_mk (st := sPick) lPick cPick kPick
  have FSpelled := fun_mk (st := sSpelled) lSpelled cSpelled kSpelled
  have FWords := fun_mk (st := sWords) lWords cWords kWords
  have FCons := fun_mk (st := sCons) lCons cCons kCons
  have FTerm := fun_mk (st := sTerm) lTerm cTerm kTerm
  have FIsInt := fun_mk (st := sIsInt) lIsInt cIsInt kIsInt
  have FSame := fun_mk (st := sSame) lSame cSame kSame
  have FLOcc := fun_mk (st := sLOcc) lLOcc cLOcc kLOcc
  have FLSize := fun_mk (st := sLSize) lLSize cLSize kLSize
  have FLHeight := fun_mk (st := sLHeight) lLHeight cLHeight kLHeight
  have FUnlike := fun_mk (st := sUnlike) lUnlike cUnlike kUnlike
  have FSize := fun_mk (st := sSize) lSize cSize kSize
  have FHeight := fun_mk (st := sHeight) lHeight cHeight kHeight
  have FOcc := fun_mk (st := sOcc) lOcc cOcc kOcc
  have FVarsIn := fun_mk (st := sVarsIn) lVarsIn cVarsIn kVarsIn
  have FVars := fun_mk (st := sVars) lVars cVars kVars
  have FLinear := fun_mk (st := sLinear) lLinear cLinear kLinear
  have FLaw := fun_mk (st := sLaw) lLaw cLaw kLaw
  have bPool := FPool.binds (ps := ["script"]) fun _ _ _ _ _ _ us hl => match us, hl with | [_], _ => rfl
  have mPool := PySem.W.mg_of X G aPool
  have bSpread := FSpread.binds (ps := ["cell"]) fun _ _ _ _ _ _ us hl => match us, hl with | [_], _ => rfl
  have mSpread := PySem.W.mg_of X G aSpread
  have bDraw := FDraw.binds (ps := ["pool", "many"]) fun _ _ _ _ _ _ us hl => match us, hl with | [_, _], _ => rfl
  have mDraw := PySem.W.mg_of X G aDraw
  have bPick := FPick.binds (ps := ["pool", "items"]) fun _ _ _ _ _ _ us hl => match us, hl with | [_, _], _ => rfl
  have mPick := PySem.W.mg_of X G aPick
  have bSpelled := FSpelled.binds (ps := ["number"]) fun _ _ _ _ _ _ us hl => match us, hl with | [_], _ => rfl
  have mSpelled := PySem.W.mg_of X G aSpelled
  have bWords := FWords.binds (ps := ["pool", "many"]) fun _ _ _ _ _ _ us hl => match us, hl with | [_, _], _ => rfl
  have mWords := PySem.W.mg_of X G aWords
  have bCons := FCons.binds (ps := ["pool"]) fun _ _ _ _ _ _ us hl => match us, hl with | [_], _ => rfl
  have mCons := PySem.W.mg_of X G aCons
  have bTerm := FTerm.binds (ps := ["pool", "constructors", "numbers", "deep"]) fun _ _ _ _ _ _ us hl => match us, hl with | [_, _, _, _], _ => rfl
  have mTerm := PySem.W.mg_of X G aTerm
  have bIsInt := FIsInt.binds (ps := ["actual"]) fun _ _ _ _ _ _ us hl => match us, hl with | [_], _ => rfl
  have mIsInt := PySem.W.mg_of X G aIsInt
  have bSame := FSame.binds (ps := ["actual", "due"]) fun _ _ _ _ _ _ us hl => match us, hl with | [_, _], _ => rfl
  have mSame := PySem.W.mg_of X G aSame
  have bLOcc := FLOcc.binds (ps := ["term"]) fun _ _ _ _ _ _ us hl => match us, hl with | [_], _ => rfl
  have mLOcc := PySem.W.mg_of X G aLOcc
  have bLSize := FLSize.binds (ps := ["term"]) fun _ _ _ _ _ _ us hl => match us, hl with | [_], _ => rfl
  have mLSize := PySem.W.mg_of X G aLSize
  have bLHeight := FLHeight.binds (ps := ["term"]) fun _ _ _ _ _ _ us hl => match us, hl with | [_], _ => rfl
  have mLHeight := PySem.W.mg_of X G aLHeight
  have bUnlike := FUnlike.binds (ps := ["row"]) fun _ _ _ _ _ _ us hl => match us, hl with | [_], _ => rfl
  have mUnlike := PySem.W.mg_of X G aUnlike
  have bSize := FSize.binds (ps := ["term"]) fun _ _ _ _ _ _ us hl => match us, hl with | [_], _ => rfl
  have mSize := PySem.W.mg_of X G aSize
  have bHeight := FHeight.binds (ps := ["term"]) fun _ _ _ _ _ _ us hl => match us, hl with | [_], _ => rfl
  have mHeight := PySem.W.mg_of X G aHeight
  have bOcc := FOcc.binds (ps := ["terms"]) fun _ _ _ _ _ _ us hl => match us, hl with | [_], _ => rfl
  have mOcc := PySem.W.mg_of X G aOcc
  have bVarsIn := FVarsIn.binds (ps := ["terms"]) fun _ _ _ _ _ _ us hl => match us, hl with | [_], _ => rfl
  have mVarsIn := PySem.W.mg_of X G aVarsIn
  have bVars := FVars.binds (ps := ["term"]) fun _ _ _ _ _ _ us hl => match us, hl with | [_], _ => rfl
  have mVars := PySem.W.mg_of X G aVars
  have bLinear := FLinear.binds (ps := ["term"]) fun _ _ _ _ _ _ us hl => match us, hl with | [_], _ => rfl
  have mLinear := PySem.W.mg_of X G aLinear
  have B : Blt mg := ⟨PySem.W.mg_none_of X G z0, PySem.W.mg_none_of X G z1, PySem.W.mg_none_of X G z2, PySem.W.mg_none_of X G z3, PySem.W.mg_none_of X G z4, PySem.W.mg_none_of X G z5, PySem.W.mg_none_of X G z6, PySem.W.mg_none_of X G z7, PySem.W.mg_none_of X G z8, PySem.W.mg_none_of X G z9, PySem.W.mg_none_of X G z10, PySem.W.mg_none_of X G z11, PySem.W.mg_none_of X G z12, PySem.W.mg_none_of X G z13, PySem.W.mg_none_of X G z14, PySem.W.mg_none_of X G z15, PySem.W.mg_none_of X G z16, PySem.W.mg_none_of X G z17, PySem.W.mg_none_of X G z18⟩
  refine ⟨PySem.W.fnOf "law" "law" (defArgs sLaw) (defBody sLaw) (defScope sLaw) .none kVLaw dcLaw pmLaw anLaw cdLaw ctLaw, fun s v => .of_eq rfl, fun base _ _ => ?_⟩
  have GPool := ok_pool (P := l.prog) (w := w) (mg := mg) (base := base) FPool B
  have APool : At l.prog w K mg base "_law_pool" _ _ _ := ⟨fPool, _, GPool, bPool, kPool, mPool⟩
  have GSpread := ok_spread (P := l.prog) (w := w) (mg := mg) (base := base) FSpread B
  have ASpread : At l.prog w K mg base "_law_spread" _ _ _ := ⟨fSpread, _, GSpread, bSpread, kSpread, mSpread⟩
  have GDraw := ok_draw FDraw B GSpread bSpread kSpread mSpread
  have ADraw : At l.prog w K mg base "_law_draw" _ _ _ := ⟨fDraw, _, GDraw, bDraw, kDraw, mDraw⟩
  have GPick := ok_pick FPick B GDraw bDraw kDraw mDraw
  have APick : At l.prog w K mg base "_law_pick" _ _ _ := ⟨fPick, _, GPick, bPick, kPick, mPick⟩
  have GSpelled := ok_spelled (P := l.prog) (w := w) (mg := mg) (base := base) FSpelled B
  have ASpelled : At l.prog w K mg base "_law_spelled" _ _ _ := ⟨fSpelled, _, GSpelled, bSpelled, kSpelled, mSpelled⟩
  have GWords := ok_words FWords B GDraw bDraw kDraw mDraw GSpelled bSpelled kSpelled mSpelled
  have AWords : At l.prog w K mg base "_law_words" _ _ _ := ⟨fWords, _, GWords, bWords, kWords, mWords⟩
  have GCons := ok_cons FCons B GDraw bDraw kDraw mDraw GWords bWords kWords mWords
  have ACons : At l.prog w K mg base "_law_constructors" _ _ _ := ⟨fCons, _, GCons, bCons, kCons, mCons⟩
  have GTerm := ok_term FTerm B GDraw bDraw kDraw mDraw GPick bPick kPick mPick bTerm mTerm 4
  have ATerm : At l.prog w K mg base "_law_term" _ _ _ := ⟨fTerm, _, GTerm, bTerm, kTerm, mTerm⟩
  have GIsInt := ok_isInt (P := l.prog) (w := w) (mg := mg) (base := base) FIsInt B
  have AIsInt : At l.prog w K mg base "_law_is_integer" _ _ _ := ⟨fIsInt, _, GIsInt, bIsInt, kIsInt, mIsInt⟩
  have GSame := ok_same (P := l.prog) (w := w) (mg := mg) (base := base) FSame B bSame mSame 3
  have ASame : At l.prog w K mg base "_law_same" _ _ _ := ⟨fSame, _, GSame, bSame, kSame, mSame⟩
  have GLOcc := ok_lOcc FLOcc GIsInt bIsInt kIsInt mIsInt bLOcc mLOcc 4
  have ALOcc : At l.prog w K mg base "_law_occurrences" _ _ _ := ⟨fLOcc, _, GLOcc, bLOcc, kLOcc, mLOcc⟩
  have GLSize := ok_lSize FLSize B GIsInt bIsInt kIsInt mIsInt bLSize mLSize 4
  have ALSize : At l.prog w K mg base "_law_size" _ _ _ := ⟨fLSize, _, GLSize, bLSize, kLSize, mLSize⟩
  have GLHeight := ok_lHeight FLHeight B GIsInt bIsInt kIsInt mIsInt bLHeight mLHeight 4
  have ALHeight : At l.prog w K mg base "_law_height" _ _ _ := ⟨fLHeight, _, GLHeight, bLHeight, kLHeight, mLHeight⟩
  have GUnlike := ok_unlike (P := l.prog) (w := w) (mg := mg) (base := base) FUnlike
  have AUnlike : At l.prog w K mg base "_law_unlike" _ _ _ := ⟨fUnlike, _, GUnlike, bUnlike, kUnlike, mUnlike⟩
  have GSize := ok_size (P := l.prog) (w := w) (mg := mg) (base := base) FSize B
  have ASize : At l.prog w K mg base "size" _ _ _ := ⟨fSize, _, GSize, bSize, kSize, mSize⟩
  have GHeight := ok_height (P := l.prog) (w := w) (mg := mg) (base := base) FHeight B
  have AHeight : At l.prog w K mg base "height" _ _ _ := ⟨fHeight, _, GHeight, bHeight, kHeight, mHeight⟩
  have GOcc := ok_occ (P := l.prog) (w := w) (mg := mg) (base := base) FOcc B
  have AOcc : At l.prog w K mg base "occurrences" _ _ _ := ⟨fOcc, _, GOcc, bOcc, kOcc, mOcc⟩
  have GVarsIn := ok_varsIn FVarsIn B GOcc bOcc kOcc mOcc
  have AVarsIn : At l.prog w K mg base "variables_in" _ _ _ := ⟨fVarsIn, _, GVarsIn, bVarsIn, kVarsIn, mVarsIn⟩
  have GVars := ok_vars FVars GVarsIn bVarsIn kVarsIn mVarsIn
  have AVars : At l.prog w K mg base "variables" _ _ _ := ⟨fVars, _, GVars, bVars, kVars, mVars⟩
  have GLinear := ok_linear FLinear B GOcc bOcc kOcc mOcc
  have ALinear : At l.prog w K mg base "is_linear" _ _ _ := ⟨fLinear, _, GLinear, bLinear, kLinear, mLinear⟩
  exact ok_law FLaw B APool ACons ADraw ATerm ALOcc ALSize ALHeight AUnlike ASame ASize AHeight AVars ALinear
theorem walk {l : PySem.W.OpenLaw} {q : Program} {loose : List Str} {XP : (Str → Option Value) → Heap → Prop} {YP : World → Heap → Prop} {d : DefRec} {K : Params → PySem.W.Frag} (hn : l.most = some 63) (hdf : d.params.defaults = [])
    (hY : ∀ (w : World) (h : Heap), YP w h → (K w.params).In h)
    (F : ∀ (w : World) (mg : Str → Option Value) (fa : Addr) (h : Heap), (K w.params).In h → h.Ns mainGlobals mg → mg d.name = some (.ref fa) →
      ∃ fd : FuncData, (∀ (s : Shared) (u : Value), BindsTo s fd ⟨[u], []⟩ [("script", u)]) ∧ ∀ base : Heap, (K w.params).In base → base.Ns mainGlobals mg → FnOk l.prog w (K w.params) mg base CX0 8 fa fd ["script"] (spLaw (K w.params))) :
    PySem.W.WalkO q loose XP YP l.row.toRowW d [] (fun f vs => PySem.call f vs) :=
  L2.walk_of (n := 63) (k := 8) (x := "script") (CX := fun _ => CX0) (sp := fun w => spLaw (K w.params)) hn (by decide) hdf ⟨rfl, by decide, by decide⟩ hY F (fun _ _ a ns hl _ hS => ⟨a, ns, rfl, hS, hl, fun _ => rfl⟩) fun _ _ _ _ _ z => z
end
end Cf
open PySem PySem.W PyProof.Rows
set_option maxRecDepth 100000 in
set_option maxHeartbeats 0 in
theorem PySem.Challenge.cw_casefamilies_k03_sizes_and_variables_holds : PySem.Challenge.rw_casefamilies_k03_sizes_and_variables.Holds := by
  w_on; o_law; k_head; (case hw => w_witness2)
  k_fill
  refine Cf.walk (l := PySem.Challenge.rw_casefamilies_k03_sizes_and_variables) rfl rfl (fun w h Y => PySem.W.kIn_of Y) ?F
  case F =>
    intro w mg fa h KX G hmg
    refine' Cf.all_mk KX G hmg ?aPool ?lPool ?cPool ?kPool ?aSpread ?lSpread ?cSpread ?kSpread ?aDraw ?lDraw ?cDraw ?kDraw ?aPick ?lPick ?cPick ?kPick ?aSpelled ?lSpelled ?cSpelled ?kSpelled ?aWords ?lWords ?cWords ?kWords ?aCons ?lCons ?cCons ?kCons ?aTerm ?lTerm ?cTerm ?kTerm ?aIsInt ?lIsInt ?cIsInt ?kIsInt ?aSame ?lSame ?cSame ?kSame ?aLOcc ?lLOcc ?cLOcc ?kLOcc ?aLSize ?lLSize ?cLSize ?kLSize ?aLHeight ?lLHeight ?cLHeight ?kLHeight ?aUnlike ?lUnlike ?cUnlike ?kUnlike ?aSize ?lSize ?cSize ?kSize ?aHeight ?lHeight ?cHeight ?kHeight ?aOcc ?lOcc ?cOcc ?kOcc ?aVarsIn ?lVarsIn ?cVarsIn ?kVarsIn ?aVars ?lVars ?cVars ?kVars ?aLinear ?lLinear ?cLinear ?kLinear ?aLaw ?lLaw ?cLaw ?kLaw ?z0 ?z1 ?z2 ?z3 ?z4 ?z5 ?z6 ?z7 ?z8 ?z9 ?z10 ?z11 ?z12 ?z13 ?z14 ?z15 ?z16 ?z17 ?z18
    (case aPool => k_is); (case lPool => k_is); (case cPool => k_is); (case kPool => k_is)
    (case aSpread => k_is); (case lSpread => k_is); (case cSpread => k_is); (case kSpread => k_is)
    (case aDraw => k_is); (case lDraw => k_is); (case cDraw => k_is); (case kDraw => k_is)
    (case aPick => k_is); (case lPick => k_is); (case cPick => k_is); (case kPick => k_is)
    (case aSpelled => k_is); (case lSpelled => k_is); (case cSpelled => k_is); (case kSpelled => k_is)
    (case aWords => k_is); (case lWords => k_is); (case cWords => k_is); (case kWords => k_is)
    (case aCons => k_is); (case lCons => k_is); (case cCons => k_is); (case kCons => k_is)
    (case aTerm => k_is); (case lTerm => k_is); (case cTerm => k_is); (case kTerm => k_is)
    (case aIsInt => k_is); (case lIsInt => k_is); (case cIsInt => k_is); (case kIsInt => k_is)
    (case aSame => k_is); (case lSame => k_is); (case cSame => k_is); (case kSame => k_is)
    (case aLOcc => k_is); (case lLOcc => k_is); (case cLOcc => k_is); (case kLOcc => k_is)
    (case aLSize => k_is); (case lLSize => k_is); (case cLSize => k_is); (case kLSize => k_is)
    (case aLHeight => k_is); (case lLHeight => k_is); (case cLHeight => k_is); (case kLHeight => k_is)
    (case aUnlike => k_is); (case lUnlike => k_is); (case cUnlike => k_is); (case kUnlike => k_is)
    (case aSize => k_is); (case lSize => k_is); (case cSize => k_is); (case kSize => k_is)
    (case aHeight => k_is); (case lHeight => k_is); (case cHeight => k_is); (case kHeight => k_is)
    (case aOcc => k_is); (case lOcc => k_is); (case cOcc => k_is); (case kOcc => k_is)
    (case aVarsIn => k_is); (case lVarsIn => k_is); (case cVarsIn => k_is); (case kVarsIn => k_is)
    (case aVars => k_is); (case lVars => k_is); (case cVars => k_is); (case kVars => k_is)
    (case aLinear => k_is); (case lLinear => k_is); (case cLinear => k_is); (case kLinear => k_is)
    (case aLaw => k_is); (case lLaw => k_is); (case cLaw => k_is); (case kLaw => k_is)
    (case z0 => k_is)
    (case z1 => k_is)
    (case z2 => k_is)
    (case z3 => k_is)
    (case z4 => k_is)
    (case z5 => k_is)
    (case z6 => k_is)
    (case z7 => k_is)
    (case z8 => k_is)
    (case z9 => k_is)
    (case z10 => k_is)
    (case z11 => k_is)
    (case z12 => k_is)
    (case z13 => k_is)
    (case z14 => k_is)
    (case z15 => k_is)
    (case z16 => k_is)
    (case z17 => k_is)
    (case z18 => k_is)
