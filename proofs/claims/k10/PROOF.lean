import PyProof.Rows.All
import Wide.All
import OpenK.AllK
import Wide.FinOn
import HandS.ForMost
import HandS.Wide
import HandS.IsInst
import HandS.Zip
import HandS.TupAny
import HandS.Evl
import HandS.Codes
import HandS.Walk
import HandS.Conv
import HandS.DictComp
import HandS.More
import KE.KDictZip
import KE.KItemsList
import HandS.SetKeys
import PySem.Challenge.RW_casefamilies_k10_matches
set_option Elab.async false
set_option linter.unusedVariables false
set_option linter.unusedSimpArgs false
set_option maxRecDepth 100000
set_option maxHeartbeats 4000000
namespace Cf
open PySem L2
def top (i : Nat) : Stmt := PySem.Challenge.pw_casefamilies_k10_matches.main.body.getD i (.Pass ⟨0, 0, 0, 0⟩)
/-- the built-in names that the text leaves as they are -/
structure Blt (mg : Str → Option Value) : Prop where
  int : mg "int" = none
  len : mg "len" = none
  range : mg "range" = none
  list : mg "list" = none
  tuple : mg "tuple" = none
  isinstance : mg "isinstance" = none
  bool : mg "bool" = none
  str : mg "str" = none
  type : mg "type" = none
  max : mg "max" = none
  sum : mg "sum" = none
  set : mg "set" = none
  dict : mg "dict" = none
  sorted : mg "sorted" = none
  enumerate : mg "enumerate" = none
  zip : mg "zip" = none
  all : mg "all" = none
  repr : mg "repr" = none
  min : mg "min" = none
/-- all but what stands at a is as it was -/
def But (a : Addr) (H H' : Hp) : Prop := ∀ b o, b ≠ a → H b = some o → H' b = some o
theorem But.refl (a : Addr) (H : Hp) : But a H H := fun _ _ _ h => h
theorem But.trans {a : Addr} {H H1 H2 : Hp} (x : But a H H1) (y : But a H1 H2) : But a H H2 := fun b o n h => y b o n (x b o n h)
theorem But.of {a : Addr} {H H' : Hp} (x : Same H H') : But a H H' := fun b o _ h => x b o h
theorem But.put {a : Addr} {H : Hp} {o : HO} : But a H (upd H a o) := fun b u n h => by rw [upd_ne n]; exact h
theorem same_new {H : Hp} {p : Addr} (h : H p = none) (o : HO) : Same H (upd H p o) := fun b u q => by rw [upd_ne (ne_of_none q h)]; exact q
/-- the pool of a law stands at a: the script's list, a place in it, the rest of a number, how often was drawn, the salt -/
def PoolAt (H : Hp) (a b : Addr) : Prop := ∃ (ns : List Int) (i v c salt : Int), H a = some (.lst [.ref b, .int i, .int v, .int c, .int salt]) ∧ H b = some (.lst (ns.map V.int)) ∧ ns.length ≤ 63 ∧ 0 ≤ i
theorem pool_ne {a b : Addr} {H : Hp} {ns : List Int} {xs : List V} {c : Addr} (h : H a = some (.lst (.ref c :: xs))) (h' : H b = some (.lst (ns.map V.int))) : a ≠ b := by
  refine ne_of h h' fun e => ?_
  cases ns with
  | nil => cases e
  | cons n r => cases e
def spDraw : Sp := fun vs H Q _ => ∃ (a b : Addr) (many : Int), vs = [.ref a, .int many] ∧ PoolAt H a b ∧ 0 < many ∧ many < 2 ^ 63 ∧
  ∀ (d : Int) (H' : Hp), 0 ≤ d → d < many → PoolAt H' a b → But a H H' → Q (.int d) H'
/-- what a def is to the text: where it stands, what it promises -/
structure At (P : Program) (w : World) (K : PySem.W.Frag) (mg : Str → Option Value) (base : Heap) (x : Str) (k : Nat) (ps : List Str) (sp : Sp) : Prop where
  ex : ∃ (f : Addr) (fd : FuncData), FnOk P w K mg base CX0 k f fd ps sp ∧ Binds K fd ps [] ∧ PySem.W.keepIn K (.ref f) = true ∧ mg x = some (.ref f)
def spLaw (K : PySem.W.Frag) : Sp := fun vs H Q _ => ∃ (a : Addr) (ns : List Int), vs = [.ref a] ∧ SqL K H a (ns.map V.int) ∧ ns.length ≤ 63 ∧ ∀ H', Q (.bl true) H'
theorem none_left {P : Program} {w : World} {K : PySem.W.Frag} {mg : Str → Option Value} {base : Heap} {k : Nat} {f : Addr} {fd : FuncData} {ps : List Str} {sp : Sp} (no : ∀ vs H Q E, ¬ sp vs H Q E) : FnOk P w K mg base CX0 k f fd ps sp :=
  ⟨fun vs H Q E h => absurd h (no vs H Q E), fun A outer s H args us vs Q E _ _ _ _ h => absurd h (no vs H Q E)⟩
end Cf
namespace Cf
open PySem L2
abbrev sSpread : Stmt := top 6
def spSpread : Sp := fun vs H Q _ => ∃ c : Int, vs = [.int c] ∧ ∀ t : Int, Q (.int t) H
section
variable {P : Program} {w : World} {K : PySem.W.Frag} {mg : Str → Option Value} {base : Heap}
theorem scSpread : FnScope ["cell", "mixed", "total", "k"] ["cell"] (defScope sSpread) := ⟨rfl, rfl, rfl, by decide +kernel, rfl, by decide +kernel, by decide +kernel⟩
theorem ok_spread {f : Addr} {fd : FuncData} (F : Fun K "_law_spread" "_law_spread" sSpread f fd) (B : Blt mg) : FnOk P w K mg base CX0 1 f fd ["cell"] spSpread := by
  refine F.ok scSpread (fun vs H Q E h => ?_) (fun cdv A outer s H vs Q E hr h => ?_)
  · obtain ⟨c, rfl, _⟩ := h
    rfl
  obtain ⟨c, rfl, q⟩ := h
  refine ⟨_, pss_cons (ps_set (i := 1) scSpread.nd rfl (.inl rfl) (pe_op op_mod (pe_callTy call_int1 (by rfl) B.int (by decide +kernel) (pa_cons (pv 0) pa_nil)) pe_int))
    (pss_cons (ps_set (i := 2) scSpread.nd rfl (.inl rfl) pe_int)
    (pss_cons (ps_for PassesOwn.never rfl (pi_range1 rfl B.range (pa_cons pe_int pa_nil)) (pg_name (i := 3) scSpread.nd rfl (.inl rfl))
      (pss_cons (ps_set (i := 1) scSpread.nd rfl (.inl rfl) (pe_op op_mod (pe_callTy call_int1 (by rfl) B.int (by decide +kernel)
          (pa_cons (pe_op op_add (pe_op op_add (pe_op op_mul (pv 1) pe_int) pe_int) (pv 3)) pa_nil)) pe_int))
      (pss_one (ps_set (i := 2) scSpread.nd rfl (.inl rfl) (pe_op op_add (pe_op op_mul (pv 2) pe_int) (pv 1))))))
    (pss_one (ps_ret (pv 2))))), ?_⟩
  refine ⟨_, rfl, .inl ⟨_, rfl, ?_⟩⟩
  refine ⟨_, _, rfl, rfl, (by show (0 : Int) < _; decide), ?_⟩
  refine ⟨_, rfl, (by decide), (by decide), ?_⟩
  refine for_range (n := 4) (fun i σ H' => H' = H ∧ ∃ (x m t : Int) (k : Option V), σ = [some (.int x), some (.int m), some (.int t), k]) ⟨rfl, _, _, _, _, rfl⟩ (fun i σ H' hi hp => ?_) (fun σ H' hp => ?_)
  · obtain ⟨rfl, x, m, t, k, rfl⟩ := hp
    refine ⟨_, rfl, _, _, rfl, rfl, .inr ⟨by decide, by decide⟩, _, _, rfl, rfl, _, rfl, _, _, rfl, rfl, .inl ⟨_, rfl, ?_⟩⟩
    refine ⟨_, _, rfl, rfl, (by show (0 : Int) < _; decide), ?_⟩
    refine ⟨_, rfl, _, _, rfl, rfl, .inr ⟨by decide, by decide⟩, _, rfl, _, _, rfl, rfl, ?_⟩
    exact ⟨rfl, _, _, _, _, rfl⟩
  · obtain ⟨rfl, x, m, t, k, rfl⟩ := hp
    exact ⟨_, rfl, q t⟩
end
end Cf
namespace Cf
open PySem L2
abbrev sDraw : Stmt := top 7
section
variable {P : Program} {w : World} {K : PySem.W.Frag} {mg : Str → Option Value} {base : Heap}
theorem scDraw : FnScope ["pool", "many", "cell", "mixed", "value"] ["pool", "many"] (defScope sDraw) := ⟨rfl, rfl, rfl, by decide +kernel, rfl, by decide +kernel, by decide +kernel⟩
theorem at0 {a b c d e : V} : atI [a, b, c, d, e] 0 = some a := rfl
theorem at1 {a b c d e : V} : atI [a, b, c, d, e] 1 = some b := rfl
theorem at2 {a b c d e : V} : atI [a, b, c, d, e] 2 = some c := rfl
theorem at3 {a b c d e : V} : atI [a, b, c, d, e] 3 = some d := rfl
theorem at4 {a b c d e : V} : atI [a, b, c, d, e] 4 = some e := rfl
theorem fits63 {m : Int} (h0 : 0 < m) (h : m < 2 ^ 63) (i : Int) : CDivW i m := wide_div (b := 63) h0 (by omega) (by decide) (by decide)
theorem ok_draw {f g : Addr} {fd gd : FuncData} (F : Fun K "_law_draw" "_law_draw" sDraw f fd) (B : Blt mg) (G : FnOk P w K mg base CX0 1 g gd ["cell"] spSpread) (bG : Binds K gd ["cell"] [])
    (kG : PySem.W.keepIn K (.ref g) = true) (mG : mg "_law_spread" = some (.ref g)) : FnOk P w K mg base CX0 2 f fd ["pool", "many"] spDraw := by
  refine F.ok scDraw (fun vs H Q E h => ?_) (fun cdv A outer s H vs Q E hr h => ?_)
  · obtain ⟨a, b, m, rfl, _⟩ := h
    rfl
  obtain ⟨a, b, m, rfl, ⟨ns, i, v, c, salt, ha, hb, hn, hi⟩, m0, m1, q⟩ := h
  have hab : a ≠ b := pool_ne ha hb
  refine ⟨_, Evl.pss_cut (ps_if (PW.pt (pw_and (pt_cmpR op_le (pe_ix ix_list (pv 0) pe_int (fun _ _ => rfl)) pe_int (nomark _)) (pw_and1 (pt_cmpR op_lt (pe_ix ix_list (pv 0) pe_int (fun _ _ => rfl))
        (pe_callB call_len_seq (by rfl) B.len PySem.boot_len (pa_cons (pe_ix ix_list (pv 0) pe_int (fun _ _ => rfl)) pa_nil)) (nomark _)))))
      (pss_cons (ps_set (i := 2) scDraw.nd rfl (.inl rfl) (pe_ix ix_list (pe_ix ix_list (pv 0) pe_int (fun _ _ => rfl)) (pe_ix ix_list (pv 0) pe_int (fun _ _ => rfl)) (fun _ _ => rfl)))
      (pss_cons (ps_asg (pe_op op_add (pe_ix ix_list (pv 0) pe_int (fun _ _ => rfl)) pe_int) (pg_sub (pv 0) pe_int set_list))
      (pss_cons (ps_asg (pv 2) (pg_sub (pv 0) pe_int set_list))
      (pss_one (ps_if (pt_cmpR op_lt (pv 2) pe_int (nomark _)) (pss_one (ps_asg (pe_call G hr rfl mG kG bG .nil pass0 (pa_cons (pv 2) pa_nil)) (pg_sub (pv 0) pe_int set_list))) pss_nil))))) pss_nil)
    (pss_cons (ps_asg (pe_op op_add (pe_ix ix_list (pv 0) pe_int (fun _ _ => rfl)) pe_int) (pg_sub (pv 0) pe_int set_list))
    (pss_cons (ps_if (pt_cmpR op_le (pe_ix ix_list (pv 0) pe_int (fun _ _ => rfl)) pe_int (nomark _))
      (pss_cons (ps_set (i := 3) scDraw.nd rfl (.inl rfl) (pe_op op_mod (pe_callTy call_int1 (by rfl) B.int (by decide +kernel) (pa_cons
          (pe_op op_add (pe_op op_add (pe_op op_mul (pe_ix ix_list (pv 0) pe_int (fun _ _ => rfl)) pe_int) (pe_op op_mul (pe_ix ix_list (pv 0) pe_int (fun _ _ => rfl)) pe_int)) pe_int) pa_nil)) pe_int))
      (pss_cons (ps_set (i := 3) scDraw.nd rfl (.inl rfl) (pe_op op_mod (pe_callTy call_int1 (by rfl) B.int (by decide +kernel) (pa_cons
          (pe_op op_add (pe_op op_mul (pv 3) pe_int) (pe_ix ix_list (pv 0) pe_int (fun _ _ => rfl))) pa_nil)) pe_int))
      (pss_one (ps_ret (pe_op op_mod (pe_op op_fdiv (pv 3) pe_int) (pv 1)))))) pss_nil)
    (pss_cons (ps_set (i := 4) scDraw.nd rfl (.inl rfl) (pe_op op_mod (pe_callTy call_int1 (by rfl) B.int (by decide +kernel) (pa_cons (pe_ix ix_list (pv 0) pe_int (fun _ _ => rfl)) pa_nil)) (pv 1)))
    (pss_cons (ps_asg (pe_op op_fdivW (pe_ix ix_list (pv 0) pe_int (fun _ _ => rfl)) (pv 1)) (pg_sub (pv 0) pe_int set_list))
    (pss_one (ps_ret (pv 4))))))), ?_⟩
  refine ⟨fun σ H1 => ∃ (i v : Int) (cl : Option V), σ = [some (.ref a), some (.int m), cl, none, none] ∧ H1 a = some (.lst [.ref b, .int i, .int v, .int c, .int salt]) ∧ 0 ≤ i ∧ But a H H1, ?_, ?_⟩
  · refine ⟨_, rfl, _, _, _, _, rfl, rfl, SqL.of ha, at2, _, _, rfl, rfl, _, rfl, ite2 (fun c1 => ?_) (fun c1 => iteF ⟨i, v, none, rfl, ha, hi, But.refl _ _⟩)⟩
    refine ⟨_, rfl, _, _, _, _, rfl, rfl, SqL.of ha, at1, _, rfl, _, _, _, _, rfl, rfl, SqL.of ha, at0, b, _, rfl, .inl (SqL.of hb), _, _, rfl, rfl, _, rfl, ite2 (fun c2 => ?_) (fun c2 => ⟨i, v, none, rfl, ha, hi, But.refl _ _⟩)⟩
    have c2' : i < ((ns.map V.int).length : Int) := of_decide_eq_true c2
    rw [List.length_map] at c2'
    have hin : i.toNat < ns.length := by omega
    have ei : i = ((i.toNat : Nat) : Int) := by omega
    have hat : atI (ns.map V.int) i = some (.int ns[i.toNat]) := at_of ei (by rw [List.getElem?_map, List.getElem?_eq_getElem hin] <;> rfl)
    refine ⟨_, rfl, _, _, _, _, rfl, rfl, SqL.of ha, at0, _, rfl, _, _, _, _, rfl, rfl, SqL.of ha, at1, _, _, _, _, rfl, rfl, SqL.of hb, hat, ?_⟩
    refine ⟨_, rfl, _, _, _, _, rfl, rfl, SqL.of ha, at1, _, _, rfl, rfl, _, rfl, _, _, _, 1, rfl, rfl, ha, rfl, ?_⟩
    refine ⟨_, rfl, _, rfl, _, _, _, 2, rfl, rfl, upd_same, rfl, ?_⟩
    refine ⟨_, rfl, _, _, rfl, rfl, _, rfl, ite2 (fun c3 => ?_) (fun c3 => ?_)⟩
    · refine ⟨_, rfl, _, rfl, fun t => ?_⟩
      refine ⟨_, rfl, _, _, _, 2, rfl, rfl, upd_same, rfl, ?_⟩
      exact ⟨i + 1, t, _, rfl, upd_same, by omega, (But.put.trans But.put).trans But.put⟩
    · exact ⟨i + 1, _, _, rfl, upd_same, by omega, But.put.trans But.put⟩
  · rintro σ H1 ⟨i, v, cl, rfl, ha1, hi1, e1⟩
    refine ⟨_, rfl, _, _, _, _, rfl, rfl, SqL.of ha1, at3, _, _, rfl, rfl, _, rfl, _, _, _, 3, rfl, rfl, ha1, rfl, ?_⟩
    have hb1 : H1 b = some (.lst (ns.map V.int)) := e1 b _ hab.symm hb
    have e2 : ∀ o, But a H (upd H1 a o) := fun o => e1.trans But.put
    refine ⟨_, rfl, _, _, _, _, rfl, rfl, SqL.of upd_same, at2, _, _, rfl, rfl, _, rfl, ite2 (fun c1 => ?_) (fun c1 => ?_)⟩
    · refine ⟨_, rfl, _, _, _, _, rfl, rfl, SqL.of upd_same, at4, _, _, rfl, rfl, .inr ⟨by decide, by decide⟩, _, rfl, _, _, _, _, rfl, rfl, SqL.of upd_same, at3, _, _, rfl, rfl, .inr ⟨by decide, by decide⟩, _, _, rfl, rfl, _, _, rfl, rfl, .inl ⟨_, rfl, _, _, rfl, rfl, (by show (0 : Int) < _; decide), ?_⟩⟩
      refine ⟨_, rfl, _, _, rfl, rfl, .inr ⟨by decide, by decide⟩, _, rfl, _, _, _, _, rfl, rfl, SqL.of upd_same, at3, _, _, rfl, rfl, .inl ⟨_, rfl, _, _, rfl, rfl, (by show (0 : Int) < _; decide), ?_⟩⟩
      refine ⟨_, rfl, _, _, rfl, rfl, ⟨by decide, by decide⟩, _, rfl, _, _, rfl, rfl, m0, ?_⟩
      refine q _ _ (Int.emod_nonneg _ (by omega)) (Int.emod_lt_of_pos _ m0) ⟨ns, i, v, _, salt, upd_same, by rw [upd_ne hab.symm]; exact hb1, hn, hi1⟩ (e2 _)
    · refine ⟨_, rfl, _, _, _, _, rfl, rfl, SqL.of upd_same, at2, .inl ⟨_, rfl, _, rfl, _, _, rfl, rfl, m0, ?_⟩⟩
      refine ⟨_, rfl, _, _, _, _, rfl, rfl, SqL.of upd_same, at2, _, rfl, _, _, rfl, rfl, fits63 m0 m1 _, _, rfl, _, _, _, 2, rfl, rfl, upd_same, rfl, ?_⟩
      refine ⟨_, rfl, ?_⟩
      refine q _ _ (Int.emod_nonneg _ (by omega)) (Int.emod_lt_of_pos _ m0) ⟨ns, i, _, _, salt, upd_same, ?_, hn, hi1⟩ ((e2 _).trans But.put)
      rw [upd_ne hab.symm, upd_ne hab.symm]
      exact hb1
end
end Cf
namespace Cf
open PySem L2
abbrev sPick : Stmt := top 8
abbrev sSpelled : Stmt := top 9
theorem But.seqL {K : PySem.W.Frag} {a p : Addr} {H H' : Hp} {xs : List V} (e : But a H H') (n : p ≠ a) (h : SqL K H p xs) : SqL K H' p xs := by
  rcases h with (h | ⟨o, h⟩) | h
  · exact .inl (.inl (e _ _ n h))
  · exact .inl (.inr ⟨o, e _ _ n h⟩)
  · exact .inr h
theorem But.seqT {K : PySem.W.Frag} {a p : Addr} {H H' : Hp} {xs : List V} (e : But a H H') (n : p ≠ a) (h : SqT K H p xs) : SqT K H' p xs := by
  rcases h with (h | ⟨o, h⟩) | h
  · exact .inl (.inl (e _ _ n h))
  · exact .inl (.inr ⟨o, e _ _ n h⟩)
  · exact .inr h
theorem at_mem {α : Type} {xs : List α} {i : Int} (h0 : 0 ≤ i) (h : i < (xs.length : Int)) : ∃ x, atI xs i = some x ∧ x ∈ xs := by
  have hk : i.toNat < xs.length := by omega
  have ek : ((i.toNat : Nat) : Int) = i := by omega
  have q : atI xs ((i.toNat : Nat) : Int) = some xs[i.toNat] := atI_nat (List.getElem?_eq_getElem hk)
  rw [ek] at q
  exact ⟨_, q, List.getElem_mem hk⟩
def spPick (K : PySem.W.Frag) : Sp := fun vs H Q _ => ∃ (a b p : Addr) (xs : List V), vs = [.ref a, .ref p] ∧ PoolAt H a b ∧ (SqL K H p xs ∨ SqT K H p xs) ∧ p ≠ a ∧ 0 < xs.length ∧ xs.length ≤ 1000000 ∧
  ∀ (x : V) (H' : Hp), x ∈ xs → PoolAt H' a b → But a H H' → Q x H'
/-! ### numbers as words: 1 is a, 26 is z, 27 is aa -/
def spell (n : Nat) : List Nat := if h : n = 0 then [] else spell ((n - 1) / 26) ++ [97 + (n - 1) % 26]
termination_by n
decreasing_by omega
theorem spell_0 : spell 0 = [] := by rw [spell]; rfl
theorem spell_pos {n : Nat} (h : 0 < n) : spell n = spell ((n - 1) / 26) ++ [97 + (n - 1) % 26] := by
  rw [spell, dif_neg (by omega)]
def most : Nat → Nat
  | 0 => 0
  | k + 1 => 26 * most k + 26
theorem spell_len : ∀ (k n : Nat), n ≤ most k → (spell n).length ≤ k
  | 0, n, h => by
    have e : n = 0 := by have h' : n ≤ 0 := h; omega
    subst e
    rw [spell_0]
    exact Nat.le_refl _
  | k + 1, n, h => by
    by_cases e : n = 0
    · subst e; rw [spell_0]; exact Nat.zero_le _
    · have h' : n ≤ 26 * most k + 26 := h
      have ih := spell_len k ((n - 1) / 26) (by omega)
      rw [spell_pos (by omega), List.length_append]
      exact Nat.succ_le_succ ih
theorem spell_ne {n : Nat} (h : 0 < n) : spell n ≠ [] := by rw [spell_pos h]; simp
theorem spell_az (n : Nat) : ∀ c ∈ spell n, 97 ≤ c ∧ c ≤ 122 := by
  induction n using Nat.strongRecOn with
  | _ n ih =>
    intro c hc
    by_cases e : n = 0
    · subst e; rw [spell_0] at hc; cases hc
    · rw [spell_pos (by omega)] at hc
      rcases List.mem_append.mp hc with h | h
      · exact ih _ (by omega) c h
      · rw [List.mem_singleton.mp h]; omega
theorem spell_inj : ∀ {n m : Nat}, spell n = spell m → n = m := by
  intro n
  induction n using Nat.strongRecOn with
  | _ n ih =>
    intro m h
    by_cases e : n = 0
    · subst e
      by_cases e2 : m = 0
      · exact e2.symm
      · rw [spell_0] at h; exact absurd h.symm (spell_ne (by omega))
    · by_cases e2 : m = 0
      · subst e2; rw [spell_0] at h; exact absurd h (spell_ne (by omega))
      · rw [spell_pos (by omega : 0 < n), spell_pos (by omega : 0 < m)] at h
        have h1 := List.append_inj' h rfl
        have h2 := ih _ (by omega) h1.1
        have h3 : 97 + (n - 1) % 26 = 97 + (m - 1) % 26 := List.head_eq_of_cons_eq h1.2
        omega
/-- a word: 1 to 12 letters -/
def WordOk (w : Str) : Prop := 0 < w.length ∧ w.length ≤ 12 ∧ ∀ c ∈ w.cps.toList, 97 ≤ c ∧ c ≤ 122
theorem spell_ok {n : Nat} (h0 : 0 < n) (h : n ≤ most 12) : WordOk (SX.S (spell n)) := by
  refine ⟨?_, ?_, ?_⟩
  · rw [SX.S_len]; exact List.length_pos_iff.mpr (spell_ne h0)
  · rw [SX.S_len]; exact spell_len 12 n h
  · intro c hc
    exact spell_az n c (by simpa using hc)
def spSpelled : Sp := fun vs H Q _ => ∃ n : Nat, vs = [.int (n : Int)] ∧ n ≤ most 13 ∧ Q (.str (SX.S (spell n))) H
section
variable {P : Program} {w : World} {K : PySem.W.Frag} {mg : Str → Option Value} {base : Heap}
theorem scPick : FnScope ["pool", "items"] ["pool", "items"] (defScope sPick) := ⟨rfl, rfl, rfl, by decide +kernel, rfl, by decide +kernel, by decide +kernel⟩
theorem ok_pick {f g : Addr} {fd gd : FuncData} (F : Fun K "_law_pick" "_law_pick" sPick f fd) (B : Blt mg) (G : FnOk P w K mg base CX0 2 g gd ["pool", "many"] spDraw) (bG : Binds K gd ["pool", "many"] [])
    (kG : PySem.W.keepIn K (.ref g) = true) (mG : mg "_law_draw" = some (.ref g)) : FnOk P w K mg base CX0 3 f fd ["pool", "items"] (spPick K) := by
  refine F.ok scPick (fun vs H Q E h => ?_) (fun cdv A outer s H vs Q E hr h => ?_)
  · obtain ⟨a, b, p, xs, rfl, _⟩ := h
    rfl
  obtain ⟨a, b, p, xs, rfl, hp, hx, hne, h0, h1, q⟩ := h
  refine ⟨_, pss_one (ps_ret (pe_ix ix_seq (pv 1) (pe_call G hr rfl mG kG bG .nil pass0 (pa_cons (pv 0) (pa_cons (pe_callB call_len_seq (by rfl) B.len PySem.boot_len (pa_cons (pv 1) pa_nil)) pa_nil))) (fun _ _ => rfl))), ?_⟩
  refine ⟨_, rfl, _, rfl, _, rfl, p, xs, rfl, hx, a, b, _, rfl, hp, by omega, by omega, fun d H' d0 d1 hp' e => ?_⟩
  obtain ⟨x, hxa, hm⟩ := at_mem d0 d1
  rcases hx with hx | hx
  · exact .inl ⟨p, xs, d, x, rfl, rfl, e.seqL hne hx, hxa, q x H' hm hp' e⟩
  · exact .inr (.inl ⟨p, xs, d, x, rfl, rfl, e.seqT hne hx, hxa, q x H' hm hp' e⟩)
theorem scSpelled : FnScope ["number", "word", "left"] ["number"] (defScope sSpelled) := ⟨rfl, rfl, rfl, by decide +kernel, rfl, by decide +kernel, by decide +kernel⟩
theorem alpha (j : Nat) (h : j < 26) : atI (Str.ofString "abcdefghijklmnopqrstuvwxyz").cps.toList (j : Int) = some (97 + j) := by
  have q : ∀ j : Fin 26, (Str.ofString "abcdefghijklmnopqrstuvwxyz").cps.toList[j.val]? = some (97 + j.val) := by decide +kernel
  exact atI_nat (q ⟨j, h⟩)
theorem most13 : most 13 < 26 ^ 14 := by decide
theorem ok_spelled {f : Addr} {fd : FuncData} (F : Fun K "_law_spelled" "_law_spelled" sSpelled f fd) (B : Blt mg) : FnOk P w K mg base CX0 1 f fd ["number"] spSpelled := by
  refine F.ok scSpelled (fun vs H Q E h => ?_) (fun cdv A outer s H vs Q E hr h => ?_)
  · obtain ⟨n, rfl, _⟩ := h
    rfl
  obtain ⟨n, rfl, hn, q⟩ := h
  refine ⟨_, pss_cons (ps_set (i := 1) scSpelled.nd rfl (.inl rfl) pe_str) (pss_cons (ps_set (i := 2) scSpelled.nd rfl (.inl rfl) (pv 0))
    (pss_cons (ps_while PassesOwn.never (pt_cmpR op_gt (pv 2) pe_int (nomark _))
      (pss_cons (ps_set (i := 1) scSpelled.nd rfl (.inl rfl) (pe_op op_add_str (pe_ix ix_str pe_str (pe_op op_mod (pe_callTy call_int1 (by rfl) B.int (by decide +kernel) (pa_cons (pe_op op_sub (pv 2) pe_int) pa_nil)) pe_int) (fun _ _ => rfl)) (pv 1)))
      (pss_one (ps_set (i := 2) scSpelled.nd rfl (.inl rfl) (pe_op op_fdiv (pe_op op_sub (pv 2) pe_int) pe_int)))))
    (pss_one (ps_ret (pv 1))))), ?_⟩
  refine ⟨_, rfl, ?_⟩
  refine while_by (fun σ H' => H' = H ∧ ∃ (l : Nat) (u : List Nat), σ = [some (.int (n : Int)), some (.str (SX.S u)), some (.int (l : Int))] ∧ spell l ++ u = spell n)
    (fun σ _ => match σ with | [_, _, some (.int l)] => l.toNat | _ => 0) ⟨rfl, n, [], rfl, by simp⟩ (fun σ H' hp => ?_) (fun σ H' Q1 Q2 hm hc => ?_)
  · obtain ⟨rfl, l, u, rfl, hu⟩ := hp
    have hlen : (spell l).length + u.length ≤ 13 := by
      have h1 := spell_len 13 n hn
      rw [← hu, List.length_append] at h1
      exact h1
    refine ⟨_, rfl, _, _, rfl, rfl, _, rfl, ite2 (fun c => ?_) (fun c => ?_)⟩
    · have hl : 0 < l := by have c' : (0 : Int) < (l : Int) := of_decide_eq_true c; omega
      have el : (l : Int) - 1 = ((l - 1 : Nat) : Int) := by omega
      refine ⟨_, rfl, _, _, rfl, rfl, .inl ⟨_, rfl, _, _, rfl, rfl, (by show (0 : Int) < _; decide), ?_⟩⟩
      have em : ((l : Int) - 1) % 26 = (((l - 1) % 26 : Nat) : Int) := by omega
      refine ⟨_, _, 97 + (l - 1) % 26, rfl, rfl, (by decide +kernel), (by rw [em]; exact alpha _ (Nat.mod_lt _ (by decide))), _, rfl, _, _, rfl, rfl, ?_, ?_⟩
      · show 1 + (SX.S u).length ≤ sizeLine
        rw [SX.S_len]
        exact Nat.le_trans (by omega : 1 + u.length ≤ 14) (by decide)
      refine ⟨_, rfl, _, _, rfl, rfl, _, _, rfl, rfl, ⟨by decide, by decide⟩, ?_⟩
      have ed : ((l : Int) - 1) / 26 = (((l - 1) / 26 : Nat) : Int) := by omega
      refine ⟨⟨rfl, (l - 1) / 26, (97 + (l - 1) % 26) :: u, ?_, ?_⟩, ?_⟩
      · show [some (V.int (n : Int)), some (V.str (SX.S [97 + (l - 1) % 26] ++ SX.S u)), some (V.int (((l : Int) - 1) / 26))] = _
        rw [SX.S_cat, ed]
        rfl
      · rw [spell_pos hl, List.append_assoc] at hu
        exact hu
      · show (((l : Int) - 1) / 26).toNat < ((l : Int)).toNat
        omega
    · have hl : l = 0 := by have c' : ¬ (0 : Int) < (l : Int) := of_decide_eq_false (Bool.eq_false_iff.mpr c); omega
      subst hl
      rw [spell_0, List.nil_append] at hu
      refine ⟨_, rfl, ?_⟩
      rw [hu]
      exact q
  · obtain ⟨x, e1, i, j, e2, e3, k, e4, h⟩ := hc
    exact ⟨x, e1, i, j, e2, e3, k, e4, hm _ _ h⟩
end
end Cf
namespace Cf
open PySem L2
abbrev sWords : Stmt := top 10
abbrev sCons : Stmt := top 11
abbrev nV (n : Nat) : V := .int (n : Int)
def from_ (x : Nat) (ns : List Nat) : Nat := (ns.filter fun y => decide (x ≤ y)).length
theorem from_le (x : Nat) (ns : List Nat) : from_ x ns ≤ ns.length := List.length_filter_le _ _
theorem from_mono (x : Nat) (ns : List Nat) : from_ (x + 1) ns ≤ from_ x ns := by
  induction ns with
  | nil => exact Nat.le_refl _
  | cons y r ih =>
    unfold from_ at ih ⊢
    rw [List.filter_cons, List.filter_cons]
    by_cases h : x + 1 ≤ y
    · rw [if_pos (decide_eq_true h), if_pos (decide_eq_true (by omega : x ≤ y))]
      exact Nat.succ_le_succ ih
    · rw [if_neg (by simpa using h)]
      split
      · exact Nat.le_succ_of_le ih
      · exact ih
theorem from_step {x : Nat} {ns : List Nat} (h : x ∈ ns) : from_ (x + 1) ns + 1 ≤ from_ x ns := by
  induction ns with
  | nil => cases h
  | cons y r ih =>
    by_cases e : x = y
    · subst e
      have m := from_mono x r
      unfold from_ at m ⊢
      rw [List.filter_cons, List.filter_cons, if_neg (by simp), if_pos (by simp)]
      exact Nat.succ_le_succ m
    · have ih' := ih ((List.mem_cons.mp h).resolve_left e)
      unfold from_ at ih' ⊢
      rw [List.filter_cons, List.filter_cons]
      by_cases c : x + 1 ≤ y
      · rw [if_pos (decide_eq_true c), if_pos (decide_eq_true (by omega : x ≤ y))]
        exact Nat.succ_le_succ ih'
      · rw [if_neg (by simpa using c), if_neg (by simp; omega)]
        exact ih'
theorem inV_nat (x : Nat) (ns : List Nat) : inV (nV x) (ns.map nV) = decide (x ∈ ns) := by
  unfold inV
  induction ns with
  | nil => rfl
  | cons y r ih =>
    rw [List.map_cons, List.any_cons, ih]
    show (((y : Int) == (x : Int)) || decide (x ∈ r)) = decide (x ∈ y :: r)
    by_cases e : x = y
    · subst e; simp
    · have e' : ¬ (y : Int) = (x : Int) := by omega
      simp [e, e']
theorem flat_nat (ns : List Nat) : (ns.map nV).all flatV = true := by simp [flatV]
def spWords : Sp := fun vs H Q _ => ∃ (a b : Addr) (many : Nat), vs = [.ref a, nV many] ∧ PoolAt H a b ∧ many ≤ 100 ∧
  ∀ (ws : List Str) (p : Addr) (H' : Hp), ws.length = many → ws.Nodup → (∀ w ∈ ws, WordOk w) → H p = none → H' p = some (.lst (ws.map V.str)) → PoolAt H' a b → But a H H' → Q (.ref p) H'
section
variable {P : Program} {w : World} {K : PySem.W.Frag} {mg : Str → Option Value} {base : Heap}
theorem scWords : FnScope ["pool", "many", "taken", "k", "number"] ["pool", "many"] (defScope sWords) := ⟨rfl, rfl, rfl, by decide +kernel, rfl, by decide +kernel, by decide +kernel⟩
/-- the greatest number that is drawn -/
theorem pick_le {d : Int} (h0 : 0 ≤ d) (h1 : d < 5) : ∃ m : Int, atI [V.int 26, .int 702, .int 18278, .int 475254, .int 95428956661682176] d = some (.int m) ∧ 0 < m ∧ m ≤ 95428956661682176 := by
  have e : d = 0 ∨ d = 1 ∨ d = 2 ∨ d = 3 ∨ d = 4 := by omega
  rcases e with rfl | rfl | rfl | rfl | rfl
  · exact ⟨_, rfl, by decide, by decide⟩
  · exact ⟨_, rfl, by decide, by decide⟩
  · exact ⟨_, rfl, by decide, by decide⟩
  · exact ⟨_, rfl, by decide, by decide⟩
  · exact ⟨_, rfl, by decide, by decide⟩
theorem pool_upd {H : Hp} {a b p : Addr} {o : HO} (h : PoolAt H a b) (n : p ≠ a) (m : p ≠ b) : PoolAt (upd H p o) a b := by
  obtain ⟨ns, i, v, c, s, h1, h2, h3, h4⟩ := h
  exact ⟨ns, i, v, c, s, by rw [upd_ne n.symm]; exact h1, by rw [upd_ne m.symm]; exact h2, h3, h4⟩
theorem pool_same {H H' : Hp} {a b : Addr} (h : PoolAt H a b) (e : Same H H') : PoolAt H' a b := by
  obtain ⟨ns, i, v, c, s, h1, h2, h3, h4⟩ := h
  exact ⟨ns, i, v, c, s, e _ _ h1, e _ _ h2, h3, h4⟩
theorem pool_new {H : Hp} {a b p : Addr} {o : HO} (h : PoolAt H a b) (n : H p = none) : PoolAt (upd H p o) a b := pool_same h (same_new n o)
theorem pool_a {H : Hp} {a b p : Addr} (h : PoolAt H a b) (n : H p = none) : p ≠ a := by
  obtain ⟨ns, i, v, c, s, h1, h2, h3, h4⟩ := h
  exact (ne_of_none h1 n).symm
theorem pool_b {H : Hp} {a b p : Addr} (h : PoolAt H a b) (n : H p = none) : p ≠ b := by
  obtain ⟨ns, i, v, c, s, h1, h2, h3, h4⟩ := h
  exact (ne_of_none h2 n).symm
theorem ok_words {f g e : Addr} {fd gd ed : FuncData} (F : Fun K "_law_words" "_law_words" sWords f fd) (B : Blt mg) (G : FnOk P w K mg base CX0 2 g gd ["pool", "many"] spDraw) (bG : Binds K gd ["pool", "many"] [])
    (kG : PySem.W.keepIn K (.ref g) = true) (mG : mg "_law_draw" = some (.ref g)) (S : FnOk P w K mg base CX0 1 e ed ["number"] spSpelled) (bS : Binds K ed ["number"] []) (kS : PySem.W.keepIn K (.ref e) = true) (mS : mg "_law_spelled" = some (.ref e)) :
    FnOk P w K mg base CX0 3 f fd ["pool", "many"] spWords := by
  refine F.ok scWords (fun vs H Q E h => ?_) (fun cdv A outer s H vs Q E hr h => ?_)
  · obtain ⟨a, b, m, rfl, _⟩ := h
    rfl
  obtain ⟨a, b, m, rfl, hp, hm, q⟩ := h
  have nd := scWords.nd
  refine ⟨_, pss_cons (ps_set (i := 2) nd rfl (.inl rfl) (pe_lst pa_nil))
    (pss_cons (ps_for PassesOwn.never rfl (pi_range1 rfl B.range (pa_cons (pv 1) pa_nil)) (pg_name (i := 3) nd rfl (.inl rfl))
      (pss_cons (ps_set (i := 4) nd rfl (.inl rfl) (pe_op op_add pe_int (pe_call G hr rfl mG kG bG .nil pass0 (pa_cons (pv 0) (pa_cons
          (pe_ix ix_tup (pe_tup (pa_cons pe_int (pa_cons pe_int (pa_cons pe_int (pa_cons pe_int (pa_cons pe_int pa_nil)))))) (pe_call G hr rfl mG kG bG .nil pass0 (pa_cons (pv 0) (pa_cons pe_int pa_nil))) (fun _ _ => rfl)) pa_nil)))))
      (pss_cons (ps_while PassesOwn.never (pt_cmpR op_in_seq (pv 4) (pv 2) (by rfl)) (pss_one (ps_set (i := 4) nd rfl (.inl rfl) (pe_op op_add (pv 4) pe_int))))
      (pss_one (ps_expr (pe_bm PySem.F.plainAttrs_list PySem.F.slot_list_append PySem.F.type_list_append mt_append (pv 2) (pa_cons (pv 4) pa_nil)))))))
    (pss_one (ps_ret (pe_lc (own := [("number", 4)]) (g := gName 4) (tt := tYes) rfl nd (pi_list (pv 2)) (blkOk_by (N := ["pool", "many", "taken", "k", "number"]) (sc := defScope sWords) (by decide +kernel))
      (fun _ _ _ _ _ => pg_name (i := 4) nd rfl (.inl rfl)) (fun _ _ _ _ _ => pts_nil) (fun _ _ _ _ _ => pe_call S (hr.mono (by decide)) rfl mS kS bS .nil pass0 (pa_cons (pv 4) pa_nil)))))), ?_⟩
  refine ⟨(by show 0 ≤ sizeLine; decide), fun p np => ?_⟩
  have npa : p ≠ a := pool_a hp np
  have npb : p ≠ b := pool_b hp np
  refine ⟨_, rfl, _, rfl, by omega, by omega, ?_⟩
  refine for_range (n := m) (fun i σ H1 => ∃ (ns : List Nat) (kv nv : Option V), σ = [some (.ref a), some (nV m), some (.ref p), kv, nv] ∧ H1 p = some (.lst (ns.map nV)) ∧ ns.length = i ∧ ns.Nodup ∧ (∀ n ∈ ns, 0 < n ∧ n ≤ 95428956661682176 + i) ∧ PoolAt H1 a b ∧ But a H H1)
    ⟨[], none, none, rfl, upd_same, rfl, List.nodup_nil, fun _ h => (by cases h), pool_new hp np, But.of (same_new np _)⟩ (fun i σ H1 hi h => ?_) (fun σ H1 h => ?_)
  · obtain ⟨ns, kv, nv, rfl, h1, hl, hnd, hns, hp1, e1⟩ := h
    refine ⟨_, rfl, (by show 5 ≤ sizeLine; decide), fun t nt => ?_⟩
    refine ⟨_, rfl, a, b, 5, rfl, pool_new hp1 nt, by decide, by decide, fun d H2 d0 d1 hp2 e2 => ?_⟩
    have tna : t ≠ a := pool_a hp1 nt
    obtain ⟨mx, hat, mx0, mx1⟩ := pick_le d0 d1
    refine ⟨t, _, d, _, rfl, rfl, SqT.of (e2 _ _ tna upd_same), hat, ?_⟩
    refine ⟨a, b, mx, rfl, hp2, mx0, by omega, fun x H3 x0 x1 hp3 e3 => ?_⟩
    refine ⟨_, _, rfl, rfl, ?_⟩
    have e13 : But a H1 H3 := ((But.of (same_new nt _)).trans e2).trans e3
    have h3 : H3 p = some (.lst (ns.map nV)) := e13 _ _ npa h1
    have ex : (1 : Int) + x = ((x.toNat + 1 : Nat) : Int) := by omega
    refine while_by (fun σ H' => H' = H3 ∧ ∃ y : Nat, σ = [some (.ref a), some (nV m), some (.ref p), some (.int (0 + (i : Int))), some (nV y)] ∧ 0 < y ∧ y + from_ y ns ≤ 95428956661682176 + ns.length)
      (fun σ _ => match σ with | [_, _, _, _, some (.int l)] => from_ l.toNat ns | _ => 0) ⟨rfl, x.toNat + 1, ?_, by omega, ?_⟩ (fun σ H' hw => ?_) (fun σ H' Q1 Q2 hmn hc => ?_)
    · show [some (V.ref a), some (nV m), some (V.ref p), some (V.int (0 + (i : Int))), some (V.int (1 + x))] = _
      rw [ex]
    · have := from_le (x.toNat + 1) ns
      omega
    · obtain ⟨rfl, y, rfl, y0, y1⟩ := hw
      refine ⟨_, rfl, _, rfl, p, _, rfl, .inl (SqL.of h3), rfl, flat_nat ns, _, rfl, ?_⟩
      show if inV (nV y) (ns.map nV) = true then _ else _
      rw [inV_nat]
      refine ite2 (fun c => ?_) (fun c => ?_)
      · have hy : y ∈ ns := of_decide_eq_true c
        have st := from_step hy
        refine ⟨_, rfl, _, _, rfl, rfl, ⟨rfl, y + 1, rfl, by omega, by omega⟩, ?_⟩
        show from_ ((y : Int) + 1).toNat ns < from_ ((y : Int)).toNat ns
        have e1 : ((y : Int) + 1).toNat = y + 1 := by omega
        have e2 : ((y : Int)).toNat = y := by omega
        rw [e1, e2]
        omega
      · have hy : y ∉ ns := fun h => c (decide_eq_true h)
        refine ⟨_, rfl, .inl ⟨rfl, _, SqL.of h3⟩, _, rfl, p, _, _, rfl, rfl, h3, ?_, ?_⟩
        · rw [List.length_map]; exact small1000 (by omega)
        refine ⟨ns ++ [y], _, _, rfl, ?_, ?_, ?_, ?_, pool_upd hp3 npa npb, ?_⟩
        · rw [upd_same, List.map_append]
          all_goals rfl
        · rw [List.length_append]
          exact congrArg (· + 1) hl
        · exact List.nodup_append.mpr ⟨hnd, (by simp), fun u hu v hv => by rw [List.mem_singleton.mp hv]; rintro rfl; exact hy hu⟩
        · intro n hn
          rcases List.mem_append.mp hn with h | h
          · have := hns n h; omega
          · rw [List.mem_singleton.mp h]; omega
        · exact fun c o hc hco => by rw [upd_ne (ne_of_none hco np)]; exact (e1.trans e13) _ _ hc hco
    · obtain ⟨x1, e1', x2, e2', p', xs', r1, r2, r3, r4, k, r5, h⟩ := hc
      exact ⟨x1, e1', x2, e2', p', xs', r1, r2, r3, r4, k, r5, hmn _ _ h⟩
  · obtain ⟨ns, kv, nv, rfl, h1, hl, hnd, hns, hp1, e1⟩ := h
    refine ⟨_, rfl, p, rfl, ⟨_, SqL.of h1⟩, fun D nD => ?_⟩
    refine lc_list (xs := ns.map nV) (fun i H' => H' D = some (.lst ((ns.take i).map fun n => V.str (SX.S (spell n)))) ∧ Same H1 H') ⟨upd_same, same_new nD _⟩ (fun i H' _ hh => SqL.of (hh.2 _ _ h1)) (fun i x H' hx hh => ?_) (fun H' hh => ?_)
    · rw [List.getElem?_map] at hx
      obtain ⟨n, hn, rfl⟩ := Option.map_eq_some_iff.mp hx
      have hb := hns n (List.mem_of_getElem? hn)
      refine ⟨rfl, ?_⟩
      refine ⟨_, rfl, n, rfl, ?_, _, hh.1, ?_, ?_, ?_⟩
      · exact Nat.le_trans hb.2 (Nat.le_trans (by omega : _ ≤ 95428956661682176 + 100) (by decide))
      · rw [List.length_map, List.length_take]
        exact small1000 (by omega)
      · rw [upd_same, List.take_add_one, List.map_append, hn]
        all_goals rfl
      · exact fun c o hc => by rw [upd_ne (ne_of_none hc nD)]; exact hh.2 _ _ hc
    · obtain ⟨hD, sm⟩ := hh
      rw [List.length_map, List.take_length] at hD
      refine q (ns.map fun n => SX.S (spell n)) D H' (by rw [List.length_map, hl]) ?_ ?_ ?_ (by rw [hD, List.map_map]; rfl) (pool_same hp1 sm) (e1.trans (But.of sm))
      · exact List.Pairwise.map _ (fun x y (h : x ≠ y) e => h (spell_inj (SX.S_inj e))) hnd
      · intro w hw
        obtain ⟨n, hn, rfl⟩ := List.mem_map.mp hw
        have hb := hns n hn
        exact spell_ok hb.1 (Nat.le_trans hb.2 (Nat.le_trans (by omega : _ ≤ 95428956661682176 + 100) (by decide)))
      · cases z : H D with
        | none => rfl
        | some o =>
          by_cases zz : D = a
          · exact absurd zz (pool_a hp1 nD)
          · rw [e1 D o zz z] at nD; cases nD
end
end Cf
namespace Cf
open PySem L2
/-- a constructor's pair stands at q -/
def PairAt (H : Hp) (q : Addr) (c : Str × Nat) : Prop := H q = some (.tup [.str c.1, nV c.2])
/-- constructors stand at p -/
def ConsAt (H : Hp) (p : Addr) (cs : List (Str × Nat)) : Prop := ∃ ps : List Addr, H p = some (.tup (ps.map V.ref)) ∧ Paired (PairAt H) ps cs
structure ConsOk (cs : List (Str × Nat)) : Prop where
  len : cs.length ≤ 5
  nd : (cs.map (·.1)).Nodup
  word : ∀ c ∈ cs, WordOk c.1
  ar : ∀ c ∈ cs, c.2 ≤ 2
  leaf : ∃ c ∈ cs, c.2 = 0
theorem pairs_keep {H H' : Hp} {ps : List Addr} {cs : List (Str × Nat)} (h : Paired (PairAt H) ps cs) (e : ∀ q xs, H q = some (.tup xs) → H' q = some (.tup xs)) : Paired (PairAt H') ps cs := Paired.mapP h fun _ _ q => e _ _ q
/-- tuples stand on -/
def KeepT (H H' : Hp) : Prop := ∀ q xs, H q = some (.tup xs) → H' q = some (.tup xs)
theorem KeepT.trans {H H1 H2 : Hp} (x : KeepT H H1) (y : KeepT H1 H2) : KeepT H H2 := fun q xs h => y q xs (x q xs h)
theorem KeepT.of {H H' : Hp} (x : Same H H') : KeepT H H' := fun q _ h => x q _ h
theorem KeepT.but {H H' : Hp} {a b : Addr} (x : But a H H') (h : PoolAt H a b) : KeepT H H' := fun q xs hq => by
  obtain ⟨ns, i, v, c, s, h1, _⟩ := h
  exact x q _ (ne_of hq h1 (by intro z; cases z)) hq
theorem ConsAt.keep {H H' : Hp} {p : Addr} {cs : List (Str × Nat)} (h : ConsAt H p cs) (e : KeepT H H') : ConsAt H' p cs := by
  obtain ⟨ps, h1, h2⟩ := h
  exact ⟨ps, e _ _ h1, pairs_keep h2 e⟩
def table : List (List Nat) := [[0, 1], [0, 1, 2], [0, 0, 1], [0, 2], [1, 0, 0, 2], [0, 2, 0], [1, 1, 0], [2, 0, 0], [0, 1, 0, 1, 2], [0, 0]]
theorem table_ok : ∀ ar ∈ table, ar.length ≤ 5 ∧ (∀ n ∈ ar, n ≤ 2) ∧ 0 ∈ ar := by decide
def spCons : Sp := fun vs H Q _ => ∃ (a b : Addr), vs = [.ref a] ∧ PoolAt H a b ∧ ∀ (cs : List (Str × Nat)) (p : Addr) (H' : Hp), ConsOk cs → H p = none → ConsAt H' p cs → PoolAt H' a b → But a H H' → Q (.ref p) H'
section
variable {P : Program} {w : World} {K : PySem.W.Frag} {mg : Str → Option Value} {base : Heap}
theorem scCons : FnScope ["pool", "arities", "words", "k"] ["pool"] (defScope sCons) := ⟨rfl, rfl, rfl, by decide +kernel, rfl, by decide +kernel, by decide +kernel⟩
theorem But.none {a p : Addr} {H H' : Hp} (e : But a H H') (h : H' p = Option.none) (ha : H' a ≠ Option.none) : H p = Option.none := by
  cases z : H p with
  | none => rfl
  | some o =>
    by_cases zz : p = a
    · exact absurd (zz ▸ h) ha
    · rw [e p o zz z] at h; cases h
theorem pool_some {H : Hp} {a b : Addr} (h : PoolAt H a b) : H a ≠ Option.none := by
  obtain ⟨ns, i, v, c, s, h1, _⟩ := h
  rw [h1]; intro z; cases z
theorem ok_cons {f g e : Addr} {fd gd ed : FuncData} (F : Fun K "_law_constructors" "_law_constructors" sCons f fd) (B : Blt mg) (G : FnOk P w K mg base CX0 2 g gd ["pool", "many"] spDraw) (bG : Binds K gd ["pool", "many"] [])
    (kG : PySem.W.keepIn K (.ref g) = true) (mG : mg "_law_draw" = some (.ref g)) (S : FnOk P w K mg base CX0 3 e ed ["pool", "many"] spWords) (bS : Binds K ed ["pool", "many"] []) (kS : PySem.W.keepIn K (.ref e) = true) (mS : mg "_law_words" = some (.ref e)) :
    FnOk P w K mg base CX0 4 f fd ["pool"] spCons := by
  refine F.ok scCons (fun vs H Q E h => ?_) (fun cdv A outer s H vs Q E hr h => ?_)
  · obtain ⟨a, b, rfl, _⟩ := h
    rfl
  obtain ⟨a, b, rfl, hp, q⟩ := h
  have nd := scCons.nd
  have two : ∀ {X : Cx} {i j : Int} {k1 k2 p1 p2 p3 : _} {kk : Nat}, PE X (.Tuple [.Constant (.int i) k1 p1, .Constant (.int j) k2 p2] kk p3) (tTup (tCons (tC (.int i)) (tCons (tC (.int j)) tNil))) := pe_tup (pa_cons pe_int (pa_cons pe_int pa_nil))
  have three : ∀ {X : Cx} {i j l : Int} {k1 k2 k3 p1 p2 p3 p4 : _} {kk : Nat}, PE X (.Tuple [.Constant (.int i) k1 p1, .Constant (.int j) k2 p2, .Constant (.int l) k3 p3] kk p4) (tTup (tCons (tC (.int i)) (tCons (tC (.int j)) (tCons (tC (.int l)) tNil)))) := pe_tup (pa_cons pe_int (pa_cons pe_int (pa_cons pe_int pa_nil)))
  refine ⟨_, pss_cons (ps_set (i := 1) nd rfl (.inr rfl) (pe_ix ix_tup (pe_tup (pa_cons two (pa_cons three (pa_cons three (pa_cons two (pa_cons (pe_tup (pa_cons pe_int (pa_cons pe_int (pa_cons pe_int (pa_cons pe_int pa_nil)))))
      (pa_cons three (pa_cons three (pa_cons three (pa_cons (pe_tup (pa_cons pe_int (pa_cons pe_int (pa_cons pe_int (pa_cons pe_int (pa_cons pe_int pa_nil)))))) (pa_cons two pa_nil)))))))))))
      (pe_call G (hr.mono (by decide)) rfl mG kG bG .nil pass0 (pa_cons (pv 0) (pa_cons pe_int pa_nil))) (fun _ _ => rfl)))
    (pss_cons (ps_set (i := 2) nd rfl (.inr rfl) (pe_call S hr rfl mS kS bS .nil pass0 (pa_cons (pv 0) (pa_cons (pe_callB call_len_seq (by rfl) B.len PySem.boot_len (pa_cons (pv 1) pa_nil)) pa_nil))))
    (pss_one (ps_ret (pe_callTy call_tuple_of (by rfl) B.tuple (by decide +kernel) (pa_cons
      (pe_lc (own := [("k", 3)]) (g := gName 3) (tt := tYes) rfl nd (pi_range1 rfl B.range (pa_cons (pe_callB call_len_seq (by rfl) B.len PySem.boot_len (pa_cons (pv 1) pa_nil)) pa_nil))
        (blkOk_by (N := ["pool", "arities", "words", "k"]) (sc := defScope sCons) (by decide +kernel)) (fun _ _ _ _ _ => pg_name (i := 3) nd rfl (.inl rfl)) (fun _ _ _ _ _ => pts_nil)
        (fun _ _ _ _ _ => pe_tup (pa_cons (pe_ix (r := rIxL K) ix_list (pv 2) (pv 3) (fun _ _ => rfl)) (pa_cons (pe_ix (r := rIxT K) ix_tup (pv 1) (pv 3) (fun _ _ => rfl)) pa_nil)))) pa_nil))))), ?_⟩
  refine ⟨(by show 2 ≤ sizeLine; decide), fun t1 n1 => ?_⟩
  refine ⟨(by show 3 ≤ sizeLine; decide), fun t2 n2 => ?_⟩
  refine ⟨(by show 3 ≤ sizeLine; decide), fun t3 n3 => ?_⟩
  refine ⟨(by show 2 ≤ sizeLine; decide), fun t4 n4 => ?_⟩
  refine ⟨(by show 4 ≤ sizeLine; decide), fun t5 n5 => ?_⟩
  refine ⟨(by show 3 ≤ sizeLine; decide), fun t6 n6 => ?_⟩
  refine ⟨(by show 3 ≤ sizeLine; decide), fun t7 n7 => ?_⟩
  refine ⟨(by show 3 ≤ sizeLine; decide), fun t8 n8 => ?_⟩
  refine ⟨(by show 5 ≤ sizeLine; decide), fun t9 n9 => ?_⟩
  refine ⟨(by show 2 ≤ sizeLine; decide), fun t10 n10 => ?_⟩
  refine ⟨(by show 10 ≤ sizeLine; decide), fun T nT => ?_⟩
  have r10 := same_new nT (HO.tup [.ref t1, .ref t2, .ref t3, .ref t4, .ref t5, .ref t6, .ref t7, .ref t8, .ref t9, .ref t10])
  have r9 := (same_new n10 (HO.tup [.int 0, .int 0])).trans r10
  have r8 := (same_new n9 (HO.tup [.int 0, .int 1, .int 0, .int 1, .int 2])).trans r9
  have r7 := (same_new n8 (HO.tup [.int 2, .int 0, .int 0])).trans r8
  have r6 := (same_new n7 (HO.tup [.int 1, .int 1, .int 0])).trans r7
  have r5 := (same_new n6 (HO.tup [.int 0, .int 2, .int 0])).trans r6
  have r4 := (same_new n5 (HO.tup [.int 1, .int 0, .int 0, .int 2])).trans r5
  have r3 := (same_new n4 (HO.tup [.int 0, .int 2])).trans r4
  have r2 := (same_new n3 (HO.tup [.int 0, .int 0, .int 1])).trans r3
  have r1 := (same_new n2 (HO.tup [.int 0, .int 1, .int 2])).trans r2
  have r0 := (same_new n1 (HO.tup [.int 0, .int 1])).trans r1
  have f1 := r1 _ _ upd_same
  have f2 := r2 _ _ upd_same
  have f3 := r3 _ _ upd_same
  have f4 := r4 _ _ upd_same
  have f5 := r5 _ _ upd_same
  have f6 := r6 _ _ upd_same
  have f7 := r7 _ _ upd_same
  have f8 := r8 _ _ upd_same
  have f9 := r9 _ _ upd_same
  have f10 := r10 _ _ upd_same
  have fT : (upd (upd (upd (upd (upd (upd (upd (upd (upd (upd (upd H t1 (.tup [.int 0, .int 1])) t2 (.tup [.int 0, .int 1, .int 2])) t3 (.tup [.int 0, .int 0, .int 1])) t4 (.tup [.int 0, .int 2])) t5 (.tup [.int 1, .int 0, .int 0, .int 2])) t6 (.tup [.int 0, .int 2, .int 0])) t7 (.tup [.int 1, .int 1, .int 0])) t8 (.tup [.int 2, .int 0, .int 0])) t9 (.tup [.int 0, .int 1, .int 0, .int 1, .int 2])) t10 (.tup [.int 0, .int 0])) T (.tup [.ref t1, .ref t2, .ref t3, .ref t4, .ref t5, .ref t6, .ref t7, .ref t8, .ref t9, .ref t10])) T = some (HO.tup [.ref t1, .ref t2, .ref t3, .ref t4, .ref t5, .ref t6, .ref t7, .ref t8, .ref t9, .ref t10]) := upd_same
  clear r1 r2 r3 r4 r5 r6 r7 r8 r9 r10
  have hT : ∃ HT, HT = upd (upd (upd (upd (upd (upd (upd (upd (upd (upd (upd H t1 (.tup [.int 0, .int 1])) t2 (.tup [.int 0, .int 1, .int 2])) t3 (.tup [.int 0, .int 0, .int 1])) t4 (.tup [.int 0, .int 2])) t5 (.tup [.int 1, .int 0, .int 0, .int 2])) t6 (.tup [.int 0, .int 2, .int 0])) t7 (.tup [.int 1, .int 1, .int 0])) t8 (.tup [.int 2, .int 0, .int 0])) t9 (.tup [.int 0, .int 1, .int 0, .int 1, .int 2])) t10 (.tup [.int 0, .int 0])) T (.tup [.ref t1, .ref t2, .ref t3, .ref t4, .ref t5, .ref t6, .ref t7, .ref t8, .ref t9, .ref t10]) := ⟨_, rfl⟩
  obtain ⟨HT, eT⟩ := hT
  rw [← eT] at r0 f1 f2 f3 f4 f5 f6 f7 f8 f9 f10 fT
  show tCall spDraw [] E0 _ _ (upd _ _ _) _
  rw [← eT]
  clear eT
  refine ⟨_, rfl, a, b, 10, rfl, pool_same hp r0, by decide, by decide, fun d H1 d0 d1 hp1 e1 => ?_⟩
  have kt := KeepT.but e1 (pool_same hp r0)
  have ch : ∃ (t : Addr) (ar : List Nat), atI [V.ref t1, .ref t2, .ref t3, .ref t4, .ref t5, .ref t6, .ref t7, .ref t8, .ref t9, .ref t10] d = some (.ref t) ∧ H1 t = some (.tup (ar.map nV)) ∧ ar ∈ table := by
    have e : d = 0 ∨ d = 1 ∨ d = 2 ∨ d = 3 ∨ d = 4 ∨ d = 5 ∨ d = 6 ∨ d = 7 ∨ d = 8 ∨ d = 9 := by omega
    rcases e with rfl | rfl | rfl | rfl | rfl | rfl | rfl | rfl | rfl | rfl
    · exact ⟨t1, [0, 1], rfl, kt _ _ f1, by decide⟩
    · exact ⟨t2, [0, 1, 2], rfl, kt _ _ f2, by decide⟩
    · exact ⟨t3, [0, 0, 1], rfl, kt _ _ f3, by decide⟩
    · exact ⟨t4, [0, 2], rfl, kt _ _ f4, by decide⟩
    · exact ⟨t5, [1, 0, 0, 2], rfl, kt _ _ f5, by decide⟩
    · exact ⟨t6, [0, 2, 0], rfl, kt _ _ f6, by decide⟩
    · exact ⟨t7, [1, 1, 0], rfl, kt _ _ f7, by decide⟩
    · exact ⟨t8, [2, 0, 0], rfl, kt _ _ f8, by decide⟩
    · exact ⟨t9, [0, 1, 0, 1, 2], rfl, kt _ _ f9, by decide⟩
    · exact ⟨t10, [0, 0], rfl, kt _ _ f10, by decide⟩
  obtain ⟨t, ar, hat, ht, har⟩ := ch
  obtain ⟨ha5, ha2, ha0⟩ := table_ok ar har
  refine ⟨T, _, d, _, rfl, rfl, SqT.of (kt _ _ fT), hat, ?_⟩
  refine ⟨_, rfl, _, rfl, t, _, rfl, .inr (SqT.of ht), a, b, (ar.map nV).length, rfl, hp1, by rw [List.length_map]; omega, fun ws p H2 hwl hwn hwo hpn hw hp2 e2 => ?_⟩
  have kt2 := KeepT.but e2 hp1
  refine ⟨_, rfl, t, _, rfl, .inr (SqT.of (kt2 _ _ ht)), _, rfl, by omega, by rw [List.length_map]; omega, fun D nD => ?_⟩
  have hwl' : ws.length = ar.length := by rw [hwl, List.length_map]
  refine lc_range (n := (ar.map nV).length) (fun i H' => ∃ ps : List Addr, H' D = some (.lst (ps.map V.ref)) ∧ ps.length = i ∧ Paired (PairAt H') ps ((ws.zip ar).take i) ∧ Same H2 H')
    ⟨[], upd_same, rfl, .nil, same_new nD _⟩ (fun i H' hi hh => ?_) (fun H' hh => ?_)
  · obtain ⟨ps, h1, h2, h3, h4⟩ := hh
    rw [List.length_map] at hi
    have hwi : ws[i]? = some ws[i] := List.getElem?_eq_getElem (by omega)
    have hai : ar[i]? = some ar[i] := List.getElem?_eq_getElem hi
    refine ⟨rfl, ?_⟩
    refine ⟨_, rfl, _, rfl, p, _, _, .str ws[i], rfl, rfl, SqL.of (h4 _ _ hw), ?_, ?_⟩
    · rw [Int.zero_add]
      exact atI_nat (by rw [List.getElem?_map, hwi]; rfl)
    refine ⟨_, rfl, _, rfl, t, _, _, nV ar[i], rfl, rfl, SqT.of (h4 _ _ (kt2 _ _ ht)), ?_, ?_⟩
    · rw [Int.zero_add]
      exact atI_nat (by rw [List.getElem?_map, hai]; rfl)
    refine ⟨(by show 2 ≤ sizeLine; decide), fun r nr => ?_⟩
    have hDr : D ≠ r := ne_of_none h1 nr
    refine ⟨_, by rw [upd_ne hDr]; exact h1, by rw [List.length_map]; exact small1000 (by omega), ps ++ [r], ?_, ?_, ?_, ?_⟩
    · rw [upd_same, List.map_append]
      all_goals rfl
    · rw [List.length_append, h2]
      all_goals rfl
    · have hz : (ws.zip ar)[i]? = some (ws[i], ar[i]) := by
        rw [List.getElem?_zip_eq_some]
        exact ⟨hwi, hai⟩
      rw [List.take_add_one, hz]
      refine Paired.snoc (pairs_keep h3 fun q xs hq => ?_) ?_
      · rw [upd_ne (ne_of hq h1 (by intro z; cases z)), upd_ne (ne_of_none hq nr)]
        exact hq
      · show upd _ D _ r = _
        rw [upd_ne hDr.symm, upd_same]
    · exact fun c o hc => by rw [upd_ne (ne_of_none hc nD), upd_ne (ne_of_none (h4 _ _ hc) nr)]; exact h4 _ _ hc
  · obtain ⟨ps, h1, h2, h3, h4⟩ := hh
    refine ⟨D, _, rfl, .inl ⟨SqL.of h1, fun l nl => ?_⟩⟩
    rw [List.length_map, ← hwl', List.take_of_length_le (by rw [List.length_zip, hwl']; omega)] at h3
    have kk : KeepT H' (upd H' l (.tup (ps.map V.ref))) := KeepT.of (same_new nl _)
    have eall : But a H (upd H' l (.tup (ps.map V.ref))) := (((But.of r0).trans e1).trans e2).trans (But.of (h4.trans (same_new nl _)))
    have pl := pool_new (o := .tup (ps.map V.ref)) (pool_same hp2 h4) nl
    refine q (ws.zip ar) l _ ⟨?_, ?_, ?_, ?_, ?_⟩ ?_ ⟨ps, upd_same, pairs_keep h3 kk⟩ pl eall
    · rw [List.length_zip]; omega
    · rw [List.map_fst_zip (by omega)]; exact hwn
    · intro c hc
      exact hwo _ (List.of_mem_zip hc).1
    · intro c hc
      exact ha2 _ (List.of_mem_zip hc).2
    · obtain ⟨i, hi, e⟩ := List.getElem_of_mem ha0
      refine ⟨(ws[i]'(by omega), ar[i]), ?_, e⟩
      exact List.mem_of_getElem? (i := i) (by rw [List.getElem?_zip_eq_some]; exact ⟨List.getElem?_eq_getElem (by omega), List.getElem?_eq_getElem hi⟩)
    · exact ((((But.of r0).trans e1).trans e2).trans (But.of h4)).none nl (pool_some (pool_same hp2 h4))
end
end Cf
namespace Cf
open PySem L2
abbrev sTerm : Stmt := top 12
/-- a term: a variable, or a word and parts -/
inductive Tm where
  | var (n : Int)
  | node (w : Str) (ps : List Tm)
mutual
inductive TmAt (H : Hp) : V → Tm → Prop
  | var (n : Int) : TmAt H (.int n) (.var n)
  | node {p : Addr} {w : Str} {vs : List V} {ps : List Tm} : H p = some (.tup (.str w :: vs)) → TmsAt H vs ps → TmAt H (.ref p) (.node w ps)
inductive TmsAt (H : Hp) : List V → List Tm → Prop
  | nil : TmsAt H [] []
  | cons {v : V} {vs : List V} {t : Tm} {ts : List Tm} : TmAt H v t → TmsAt H vs ts → TmsAt H (v :: vs) (t :: ts)
end
mutual
theorem TmAt.keep {H H' : Hp} (e : KeepT H H') : ∀ (t : Tm) (v : V), TmAt H v t → TmAt H' v t
  | .var n, _, h => by cases h; exact .var n
  | .node w ps, _, h => by
    cases h with
    | node h1 h2 => exact .node (e _ _ h1) (TmsAt.keep e ps _ h2)
theorem TmsAt.keep {H H' : Hp} (e : KeepT H H') : ∀ (ts : List Tm) (vs : List V), TmsAt H vs ts → TmsAt H' vs ts
  | [], _, h => by cases h; exact .nil
  | t :: ts, _, h => by
    cases h with
    | cons h1 h2 => exact .cons (TmAt.keep e t _ h1) (TmsAt.keep e ts _ h2)
end
theorem TmsAt.length {H : Hp} : ∀ {vs : List V} {ts : List Tm}, TmsAt H vs ts → vs.length = ts.length
  | [], _, h => by cases h; rfl
  | v :: vs, _, h => by
    cases h with
    | cons h1 h2 => exact congrArg (· + 1) (TmsAt.length h2)
theorem TmsAt.append {H : Hp} : ∀ {vs us : List V} {ts rs : List Tm}, TmsAt H vs ts → TmsAt H us rs → TmsAt H (vs ++ us) (ts ++ rs)
  | [], _, _, _, h, k => by cases h; exact k
  | v :: vs, _, _, _, h, k => by
    cases h with
    | cons h1 h2 => exact .cons h1 (TmsAt.append h2 k)
theorem TmsAt.snoc {H : Hp} {vs : List V} {v : V} {ts : List Tm} {t : Tm} (h : TmsAt H vs ts) (k : TmAt H v t) : TmsAt H (vs ++ [v]) (ts ++ [t]) := h.append (.cons k .nil)
theorem TmsAt.get {H : Hp} : ∀ {vs : List V} {ts : List Tm} {i : Nat} {t : Tm}, TmsAt H vs ts → ts[i]? = some t → ∃ v, vs[i]? = some v ∧ TmAt H v t
  | _, [], _, _, _, e => by simp at e
  | _, t :: ts, 0, _, h, e => by
    cases h with
    | cons h1 h2 => simp at e; subst e; exact ⟨_, rfl, h1⟩
  | _, t :: ts, i + 1, x, h, e => by
    cases h with
    | cons h1 h2 =>
      obtain ⟨v, a, b⟩ := TmsAt.get (i := i) h2 (by simpa using e)
      exact ⟨v, by simpa using a, b⟩
/-- a term over constructors with variables among some, of a height of at most so much -/
def TmOver (cs : List (Str × Nat)) (ns : List Int) : Nat → Tm → Prop
  | 0, _ => False
  | _ + 1, .var n => n ∈ ns
  | d + 1, .node w ps => (w, ps.length) ∈ cs ∧ ∀ p ∈ ps, TmOver cs ns d p
def spTerm (K : PySem.W.Frag) (n : Nat) : Sp := fun vs H Q _ => ∃ (a b cp np : Addr) (cs : List (Str × Nat)) (ns : List Int) (d : Nat), vs = [.ref a, .ref cp, .ref np, nV d] ∧ PoolAt H a b ∧ ConsAt H cp cs ∧ ConsOk cs ∧
  SqL K H np (ns.map V.int) ∧ np ≠ a ∧ ns.length ≤ 1000 ∧ 1 ≤ d ∧ d ≤ n ∧ ∀ (v : V) (t : Tm) (H' : Hp), TmAt H' v t → TmOver cs ns d t → PoolAt H' a b → But a H H' → Q v H'
theorem paired_left {H : Hp} {q : Addr} : ∀ {ps : List Addr} {cs : List (Str × Nat)}, Paired (PairAt H) ps cs → q ∈ ps → ∃ c ∈ cs, PairAt H q c
  | _, _, .nil, h => by cases h
  | _, _, .cons (b := b) x t, h => by
    rcases List.mem_cons.mp h with e | h
    · subst e; exact ⟨b, List.mem_cons_self, x⟩
    · obtain ⟨c, hc, k⟩ := paired_left t h
      exact ⟨c, List.mem_cons_of_mem _ hc, k⟩
theorem paired_get {H : Hp} {q : Addr} : ∀ {ps : List Addr} {cs : List (Str × Nat)} {i : Nat}, Paired (PairAt H) ps cs → ps[i]? = some q → ∃ c, cs[i]? = some c ∧ PairAt H q c
  | _, _, _, .nil, h => by simp at h
  | _, _, 0, .cons (b := b) x t, h => by simp at h; subst h; exact ⟨b, rfl, x⟩
  | _, _, i + 1, .cons x t, h => by
    obtain ⟨c, hc, k⟩ := paired_get (i := i) t (by simpa using h)
    exact ⟨c, by simpa using hc, k⟩
section
variable {P : Program} {w : World} {K : PySem.W.Frag} {mg : Str → Option Value} {base : Heap}
theorem scTerm : FnScope ["pool", "constructors", "numbers", "deep", "pair", "k"] ["pool", "constructors", "numbers", "deep"] (defScope sTerm) := ⟨rfl, rfl, rfl, by decide +kernel, rfl, by decide +kernel, by decide +kernel⟩
theorem ok_term1 {n : Nat} {f g e : Addr} {fd gd ed : FuncData} (F : Fun K "_law_term" "_law_term" sTerm f fd) (B : Blt mg) (G : FnOk P w K mg base CX0 2 g gd ["pool", "many"] spDraw) (bG : Binds K gd ["pool", "many"] [])
    (kG : PySem.W.keepIn K (.ref g) = true) (mG : mg "_law_draw" = some (.ref g)) (S : FnOk P w K mg base CX0 3 e ed ["pool", "items"] (spPick K)) (bS : Binds K ed ["pool", "items"] []) (kS : PySem.W.keepIn K (.ref e) = true) (mS : mg "_law_pick" = some (.ref e))
    (R : FnOk P w K mg base CX0 (n + 3) f fd ["pool", "constructors", "numbers", "deep"] (spTerm K n)) (bR : Binds K fd ["pool", "constructors", "numbers", "deep"] []) (mR : mg "_law_term" = some (.ref f)) :
    FnOk P w K mg base CX0 (n + 4) f fd ["pool", "constructors", "numbers", "deep"] (spTerm K (n + 1)) := by
  have kR := F.kp
  refine F.ok scTerm (fun vs H Q E h => ?_) (fun cdv A outer s H vs Q E hr h => ?_)
  · obtain ⟨a, b, cp, np, cs, ns, d, rfl, _⟩ := h
    rfl
  obtain ⟨a, b, cp, np, cs, ns, d, rfl, hp, hc, hok, hn, hna, hnl, hd1, hd2, q⟩ := h
  have nd := scTerm.nd
  refine ⟨_, Evl.pss_cut (ps_if (PW.pt (pw_and (pt_cmpR op_gt (pe_callB call_len_seq (by rfl) B.len PySem.boot_len (pa_cons (pv 2) pa_nil)) pe_int (nomark _))
        (pw_and1 (pt_cmpR op_eq (pe_call G (hr.mono (by omega)) rfl mG kG bG .nil pass0 (pa_cons (pv 0) (pa_cons pe_int pa_nil))) pe_int (nomark _)))))
      (pss_one (ps_ret (pe_call S (hr.mono (by omega)) rfl mS kS bS .nil pass0 (pa_cons (pv 0) (pa_cons (pv 2) pa_nil))))) pss_nil)
    (pss_cons (ps_set (i := 4) nd rfl (.inl rfl) (pe_call S (hr.mono (by omega)) rfl mS kS bS .nil pass0 (pa_cons (pv 0) (pa_cons
      (pe_lc (own := [("pair", 4)]) (g := gName 4) (tt := tOr (tTest (tOp rEq (tOp (rIxT K) (tVar 4) (tC (.int 1))) (tC (.int 0)))) (tTest (tOp (rI0 fun i j => .bl (decide (j < i))) (tVar 3) (tC (.int 1))))) rfl nd (pi_tup (pv 1))
        (blkOk_by (N := ["pool", "constructors", "numbers", "deep", "pair", "k"]) (sc := defScope sTerm) (by decide +kernel)) (fun _ _ _ _ _ => pg_name (i := 4) nd rfl (.inl rfl))
        (fun _ _ _ _ _ => pts_one (PW.pt (pw_or (pt_cmpR op_eq (pe_ix (r := rIxT K) ix_tup (pv 4) pe_int (fun _ _ => rfl)) pe_int (nomark _)) (pw_or1 (pt_cmpR op_gt (pv 3) pe_int (nomark _))))))
        (fun _ _ _ _ _ => pv 4)) pa_nil))))
    (pss_one (ps_ret (pe_op op_catA (pe_tup (pa_cons (pe_ix ix_tup (pv 4) pe_int (fun _ _ => rfl)) pa_nil)) (pe_callTy call_tuple_of (by rfl) B.tuple (by decide +kernel) (pa_cons
      (pe_lc (own := [("k", 5)]) (g := gName 5) (tt := tYes) rfl nd (pi_range1 rfl B.range (pa_cons (pe_ix ix_tup (pv 4) pe_int (fun _ _ => rfl)) pa_nil))
        (blkOk_by (N := ["pool", "constructors", "numbers", "deep", "pair", "k"]) (sc := defScope sTerm) (by decide +kernel)) (fun _ _ _ _ _ => pg_name (i := 5) nd rfl (.inl rfl)) (fun _ _ _ _ _ => pts_nil)
        (fun _ _ _ _ _ => pe_call R hr rfl mR kR bR .nil pass0 (pa_cons (pv 0) (pa_cons (pv 1) (pa_cons (pv 2) (pa_cons (pe_op op_sub (pv 3) pe_int) pa_nil)))))) pa_nil)))))), ?_⟩
  refine ⟨fun σ H1 => σ = [some (.ref a), some (.ref cp), some (.ref np), some (nV d), none, none] ∧ PoolAt H1 a b ∧ But a H H1, ?_, ?_⟩
  · refine ⟨_, rfl, np, _, rfl, .inl hn, _, _, rfl, rfl, _, rfl, ite2 (fun c1 => ?_) (fun c1 => iteF ⟨rfl, hp, But.refl _ _⟩)⟩
    have h0 : 0 < (ns.map V.int).length := by
      have c' : (0 : Int) < ((ns.map V.int).length : Int) := of_decide_eq_true c1
      omega
    refine ⟨_, rfl, a, b, 2, rfl, hp, by decide, by decide, fun x H1 x0 x1 hp1 e1 => ?_⟩
    refine ⟨rfl, _, rfl, ite2 (fun c2 => ?_) (fun c2 => ⟨rfl, hp1, e1⟩)⟩
    refine ⟨_, rfl, _, rfl, a, b, np, _, rfl, hp1, .inl (e1.seqL hna hn), hna, h0, by rw [List.length_map]; omega, fun v H2 hv hp2 e2 => ?_⟩
    obtain ⟨m, hm, rfl⟩ := List.mem_map.mp hv
    obtain ⟨d', rfl⟩ : ∃ d', d = d' + 1 := ⟨d - 1, by omega⟩
    exact q (.int m) (.var m) H2 (.var m) hm hp2 (e1.trans e2)
  · rintro σ H1 ⟨rfl, hp1, e1⟩
    have k1 : KeepT H H1 := KeepT.but e1 hp
    obtain ⟨qs, hc1, hc2⟩ := hc.keep k1
    have hqc : qs.length = cs.length := Paired.length hc2
    refine ⟨_, rfl, _, rfl, cp, rfl, ⟨_, SqT.of hc1⟩, fun D nD => ?_⟩
    refine lc_tup (xs := qs.map V.ref) (fun i H' => ∃ rs : List Addr, H' D = some (.lst (rs.map V.ref)) ∧ rs.length ≤ i ∧ Same H1 H' ∧ (∀ r ∈ rs, ∃ c ∈ cs, PairAt H1 r c ∧ (c.2 = 0 ∨ 1 < d)) ∧ ((∃ c ∈ cs.take i, c.2 = 0) → 0 < rs.length))
      ⟨[], upd_same, Nat.le_refl _, same_new nD _, fun _ h => (by cases h), fun h => by obtain ⟨c, hc, _⟩ := h; rw [List.take_zero] at hc; cases hc⟩ (fun i H' _ hh => ?_) (fun i x H' hx hh => ?_) (fun H' hh => ?_)
    · obtain ⟨rs, h1, h2, h3, h4, h5⟩ := hh
      exact SqT.of (h3 _ _ hc1)
    · obtain ⟨rs, h1, h2, h3, h4, h5⟩ := hh
      rw [List.getElem?_map] at hx
      obtain ⟨r, hr', rfl⟩ := Option.map_eq_some_iff.mp hx
      obtain ⟨c, hci, hcr⟩ := paired_get hc2 hr'
      have hil : i < cs.length := (List.getElem?_eq_some_iff.mp hci).1
      refine ⟨rfl, ?_⟩
      -- one kept: the list grows
      have keep1 : (c.2 = 0 ∨ 1 < d) → ∃ acc, H' D = some (.lst acc) ∧ acc.length < sizeLine ∧ ∃ rs : List Addr, upd H' D (.lst (acc ++ [V.ref r])) D = some (.lst (rs.map V.ref)) ∧ rs.length ≤ i + 1 ∧ Same H1 (upd H' D (.lst (acc ++ [V.ref r]))) ∧ (∀ r ∈ rs, ∃ c ∈ cs, PairAt H1 r c ∧ (c.2 = 0 ∨ 1 < d)) ∧ ((∃ c ∈ cs.take (i + 1), c.2 = 0) → 0 < rs.length) := fun hz => by
        refine ⟨_, h1, by rw [List.length_map]; exact small1000 (by have := hok.len; omega), rs ++ [r], ?_, ?_, ?_, ?_, ?_⟩
        · rw [upd_same, List.map_append]
          all_goals rfl
        · rw [List.length_append]; exact Nat.succ_le_succ h2
        · exact fun b o hb => by rw [upd_ne (ne_of_none hb nD)]; exact h3 _ _ hb
        · intro x hx
          rcases List.mem_append.mp hx with h | h
          · exact h4 x h
          · rw [List.mem_singleton.mp h]
            exact ⟨c, List.mem_of_getElem? hci, hcr, hz⟩
        · intro _; rw [List.length_append]; exact Nat.succ_pos _
      refine ⟨_, rfl, r, _, 1, _, rfl, rfl, SqT.of (h3 _ _ hcr), rfl, rfl, _, rfl, ite2 (fun c1 => ?_) (fun c1 => ?_)⟩
      · have hz : c.2 = 0 := by
          have e : nV c.2 = V.int 0 := of_decide_eq_true c1
          have e2 : (c.2 : Int) = 0 := V.int.inj e
          omega
        exact iteT ⟨_, rfl, keep1 (.inl hz)⟩
      · have hz : ¬ c.2 = 0 := fun e => c1 (decide_eq_true (by rw [e]; rfl))
        refine ⟨_, rfl, _, _, rfl, rfl, _, rfl, ite2 (fun c2 => ?_) (fun c2 => ?_)⟩
        · have hd' : 1 < d := by have c' : (1 : Int) < (d : Int) := of_decide_eq_true c2; omega
          exact ⟨_, rfl, keep1 (.inr hd')⟩
        · refine ⟨rs, h1, by omega, h3, h4, fun hcs => ?_⟩
          obtain ⟨c', hc', z⟩ := hcs
          rw [List.take_add_one, hci] at hc'
          rcases List.mem_append.mp hc' with h | h
          · exact h5 ⟨c', h, z⟩
          · have e : c' = c := by simpa using h
            rw [e] at z; exact absurd z hz
    · obtain ⟨rs, h1, h2, h3, h4, h5⟩ := hh
      rw [List.length_map, hqc, List.take_of_length_le (Nat.le_refl _)] at h5
      rw [List.length_map, hqc] at h2
      have hpos : 0 < rs.length := h5 hok.leaf
      refine ⟨a, b, D, _, rfl, pool_same hp1 h3, .inl (SqL.of h1), pool_a hp1 nD, by rw [List.length_map]; exact hpos, by rw [List.length_map]; have := hok.len; omega, fun v H2 hv hp2 e2 => ?_⟩
      obtain ⟨r, hr1, rfl⟩ := List.mem_map.mp hv
      obtain ⟨c, hcm, hcr, hcd⟩ := h4 r hr1
      have k2 : KeepT H1 H2 := (KeepT.of h3).trans (KeepT.but e2 (pool_same hp1 h3))
      have e12 : But a H H2 := (e1.trans (But.of h3)).trans e2
      have hr2 := k2 _ _ hcr
      refine ⟨_, rfl, r, _, 0, _, rfl, rfl, SqT.of hr2, rfl, (by show 1 ≤ sizeLine; decide), fun u nu => ?_⟩
      have ku := same_new nu (HO.tup [V.str c.1])
      have hc2' := hok.ar c hcm
      refine ⟨_, rfl, r, _, 1, _, rfl, rfl, SqT.of (ku _ _ hr2), rfl, _, rfl, by omega, by omega, fun D2 nD2 => ?_⟩
      have sm2 := ku.trans (same_new nD2 (HO.lst []))
      refine lc_range (n := c.2) (fun i H' => ∃ (vs : List V) (ts : List Tm), H' D2 = some (.lst vs) ∧ vs.length = i ∧ TmsAt H' vs ts ∧ (∀ t ∈ ts, TmOver cs ns (d - 1) t) ∧ PoolAt H' a b ∧ But a H2 H' ∧ H' u = some (.tup [V.str c.1]))
        ⟨[], [], upd_same, rfl, .nil, fun _ h => (by cases h), pool_same hp2 sm2, But.of sm2, by rw [upd_ne (ne_of_none upd_same nD2)]; exact upd_same⟩ (fun i H' hi hh => ?_) (fun H' hh => ?_)
      · obtain ⟨vs, ts, g1, g2, g3, g4, g5, g6, g7⟩ := hh
        have hd1' : 1 < d := by rcases hcd with h | h <;> omega
        refine ⟨rfl, ?_⟩
        have ed : (d : Int) - 1 = ((d - 1 : Nat) : Int) := by omega
        refine ⟨_, rfl, _, rfl, _, rfl, _, rfl, _, _, rfl, rfl, a, b, cp, np, cs, ns, d - 1, ?_, g5, ?_, hok, (e12.trans g6).seqL hna hn, hna, hnl, by omega, by omega, fun v t H3 t1 t2 t3 t4 => ?_⟩
        · show [V.ref a, V.ref cp, V.ref np, V.int ((d : Int) - 1)] = _
          rw [ed]
        · exact ConsAt.keep (ConsAt.keep ⟨qs, hc1, hc2⟩ k2) (KeepT.but g6 hp2)
        have nDa : D2 ≠ a := pool_a (pool_same hp2 ku) nD2
        refine ⟨vs, t4 _ _ nDa g1, small1000 (by omega), vs ++ [v], ts ++ [t], upd_same, by rw [List.length_append, g2]; rfl, ?_, ?_, ?_, ?_, ?_⟩
        · have kk : KeepT H' H3 := KeepT.but t4 g5
          have k3 : KeepT H3 (upd H3 D2 (.lst (vs ++ [v]))) := fun x xs hx => by rw [upd_ne (ne_of hx (t4 _ _ nDa g1) (by intro z; cases z))]; exact hx
          exact (TmsAt.keep k3 _ _ (TmsAt.keep kk _ _ g3)).snoc (TmAt.keep k3 _ _ t1)
        · intro y hy
          rcases List.mem_append.mp hy with h | h
          · exact g4 y h
          · rw [List.mem_singleton.mp h]; exact t2
        · exact pool_upd t3 nDa (pool_b (pool_same hp2 ku) nD2)
        · exact fun x o hx hxo => by rw [upd_ne (ne_of_none (ku _ _ hxo) nD2)]; exact t4 _ _ hx (g6 _ _ hx hxo)
        · have huD : u ≠ D2 := ne_of_none upd_same nD2
          rw [upd_ne huD]
          exact KeepT.but t4 g5 _ _ g7
      · obtain ⟨vs, ts, g1, g2, g3, g4, g5, g6, g7⟩ := hh
        refine ⟨D2, vs, rfl, .inl ⟨SqL.of g1, fun l nl => ?_⟩⟩
        have kl := same_new nl (HO.tup vs)
        have hts : ts.length = c.2 := by rw [← TmsAt.length g3, g2]
        obtain ⟨d', rfl⟩ : ∃ d', d = d' + 1 := ⟨d - 1, by omega⟩
        have hov : TmOver cs ns (d' + 1) (.node c.1 ts) := ⟨by rw [hts]; exact hcm, g4⟩
        have eA : But a H H' := e12.trans g6
        refine ⟨u, l, _, _, rfl, rfl, SqT.of (kl _ _ g7), SqT.of upd_same, ?_, fun z => (by cases z), fun _ z => ?_, fun _ z p np' => ?_⟩
        · show 1 + vs.length ≤ sizeLine
          exact Nat.le_of_lt (small1000 (by omega))
        · subst z
          cases g3
          exact q (.ref u) (.node c.1 []) _ (.node (kl _ _ g7) .nil) hov (pool_same g5 kl) (eA.trans (But.of kl))
        · have kp := kl.trans (same_new np' (HO.tup (V.str c.1 :: vs)))
          exact q (.ref p) (.node c.1 ts) _ (.node upd_same (TmsAt.keep (KeepT.of kp) _ _ g3)) hov (pool_same g5 kp) (eA.trans (But.of kp))
theorem ok_term {f g e : Addr} {fd gd ed : FuncData} (F : Fun K "_law_term" "_law_term" sTerm f fd) (B : Blt mg) (G : FnOk P w K mg base CX0 2 g gd ["pool", "many"] spDraw) (bG : Binds K gd ["pool", "many"] [])
    (kG : PySem.W.keepIn K (.ref g) = true) (mG : mg "_law_draw" = some (.ref g)) (S : FnOk P w K mg base CX0 3 e ed ["pool", "items"] (spPick K)) (bS : Binds K ed ["pool", "items"] []) (kS : PySem.W.keepIn K (.ref e) = true) (mS : mg "_law_pick" = some (.ref e))
    (bR : Binds K fd ["pool", "constructors", "numbers", "deep"] []) (mR : mg "_law_term" = some (.ref f)) : ∀ n : Nat, FnOk P w K mg base CX0 (n + 3) f fd ["pool", "constructors", "numbers", "deep"] (spTerm K n)
  | 0 => none_left fun vs H Q E h => by
    obtain ⟨a, b, cp, np, cs, ns, d, _, _, _, _, _, _, _, h1, h2, _⟩ := h
    omega
  | n + 1 => ok_term1 F B G bG kG mG S bS kS mS (ok_term F B G bG kG mG S bS kS mS bR mR n) bR mR
end
end Cf
namespace Cf
open PySem L2
abbrev sSame : Stmt := top 3
abbrev sIsInt : Stmt := top 4
/-- the same data to a depth, told by the heap -/
def Eqd (H : Hp) : Nat → V → V → Prop
  | 0, _, _ => False
  | n + 1, x, y => (x = y ∧ flatV x = true) ∨ ∃ (p q : Addr) (xs ys : List V), x = .ref p ∧ y = .ref q ∧ ((H p = some (.lst xs) ∧ H q = some (.lst ys)) ∨ (H p = some (.tup xs) ∧ H q = some (.tup ys))) ∧
      xs.length = ys.length ∧ xs.length ≤ 1000000 ∧ ∀ (i : Nat) (x y : V), xs[i]? = some x → ys[i]? = some y → Eqd H n x y
theorem Eqd.flat {H : Hp} {n : Nat} {x : V} (h : flatV x = true) : Eqd H (n + 1) x x := .inl ⟨rfl, h⟩
theorem Eqd.lst {H : Hp} {n : Nat} {p q : Addr} {xs ys : List V} (h1 : H p = some (.lst xs)) (h2 : H q = some (.lst ys)) (h3 : xs.length = ys.length) (h4 : xs.length ≤ 1000000)
    (h5 : ∀ (i : Nat) (x y : V), xs[i]? = some x → ys[i]? = some y → Eqd H n x y) : Eqd H (n + 1) (.ref p) (.ref q) := .inr ⟨p, q, xs, ys, rfl, rfl, .inl ⟨h1, h2⟩, h3, h4, h5⟩
theorem Eqd.tup {H : Hp} {n : Nat} {p q : Addr} {xs ys : List V} (h1 : H p = some (.tup xs)) (h2 : H q = some (.tup ys)) (h3 : xs.length = ys.length) (h4 : xs.length ≤ 1000000)
    (h5 : ∀ (i : Nat) (x y : V), xs[i]? = some x → ys[i]? = some y → Eqd H n x y) : Eqd H (n + 1) (.ref p) (.ref q) := .inr ⟨p, q, xs, ys, rfl, rfl, .inr ⟨h1, h2⟩, h3, h4, h5⟩
theorem Eqd.keep {H H' : Hp} (e : Same H H') : ∀ {n : Nat} {x y : V}, Eqd H n x y → Eqd H' n x y
  | 0, _, _, h => h
  | n + 1, _, _, h => by
    rcases h with h | ⟨p, q, xs, ys, rfl, rfl, h, h3, h4, h5⟩
    · exact .inl h
    · refine .inr ⟨p, q, xs, ys, rfl, rfl, ?_, h3, h4, fun i x y a b => Eqd.keep e (h5 i x y a b)⟩
      rcases h with ⟨a, b⟩ | ⟨a, b⟩
      · exact .inl ⟨e _ _ a, e _ _ b⟩
      · exact .inr ⟨e _ _ a, e _ _ b⟩
theorem Eqd.mono {H : Hp} : ∀ {n m : Nat} {x y : V}, n ≤ m → Eqd H n x y → Eqd H m x y
  | 0, _, _, _, _, h => h.elim
  | n + 1, 0, _, _, l, _ => by omega
  | n + 1, m + 1, _, _, l, h => by
    rcases h with h | ⟨p, q, xs, ys, rfl, rfl, h, h3, h4, h5⟩
    · exact .inl h
    · exact .inr ⟨p, q, xs, ys, rfl, rfl, h, h3, h4, fun i x y a b => Eqd.mono (by omega) (h5 i x y a b)⟩
def spSame (n : Nat) : Sp := fun vs H Q _ => ∃ x y : V, vs = [x, y] ∧ Eqd H n x y ∧ ∀ H', Same H H' → Q (.bl true) H'
/-- the name of a value's class -/
def TyN (H : Hp) : V → String → Prop
  | .non, T => T = "NoneType"
  | .bl _, T => T = "bool"
  | .int _, T => T = "int"
  | .str _, T => T = "str"
  | .ref p, T => (T = "list" ∧ ∃ xs, H p = some (.lst xs)) ∨ (T = "tuple" ∧ ∃ xs, H p = some (.tup xs)) ∨ (T = "dict" ∧ ∃ kvs, H p = some (.dK kvs))
  | _, _ => False
theorem tyx {K : PySem.W.Frag} {H : Hp} {v : V} {T : String} (h : TyN H v T) : TyX K H v (.type T) := by
  cases v with
  | non => cases (show T = "NoneType" from h); exact .base .non
  | bl b => cases (show T = "bool" from h); exact .base (.bl b)
  | int i => cases (show T = "int" from h); exact .base (.int i)
  | str z => cases (show T = "str" from h); exact .base (.str z)
  | ref p =>
    rcases h with ⟨rfl, xs, h⟩ | ⟨rfl, xs, h⟩ | ⟨rfl, xs, h⟩
    · exact .base (.lst h)
    · exact .base (.tup h)
    · exact .base (.dK h)
  | byt _ => exact (show False from h).elim
  | flt _ => exact (show False from h).elim
  | ty _ => exact (show False from h).elim
/-- isinstance(v, C), read -/
theorem isi {K : PySem.W.Frag} {H : Hp} {v : V} {T C : String} {b : Bool} {Q : VK} (h : TyN H v T) (k : kitB T C = some b) (q : Q (.bl b) H) : rIsi K [v, .ty C] H Q := ⟨v, .ty C, .type T, .type C, b, rfl, .ty C, tyx h, kit_ty k, q⟩
def spIsInt : Sp := fun vs H Q _ => ∃ (v : V) (T : String), vs = [v] ∧ TyN H v T ∧ Q (.bl (decide (T = "int"))) H
section
variable {P : Program} {w : World} {K : PySem.W.Frag} {mg : Str → Option Value} {base : Heap}
theorem scIsInt : FnScope ["actual"] ["actual"] (defScope sIsInt) := ⟨rfl, rfl, rfl, by decide +kernel, rfl, by decide +kernel, by decide +kernel⟩
theorem ok_isInt {f : Addr} {fd : FuncData} (F : Fun K "_law_is_integer" "_law_is_integer" sIsInt f fd) (B : Blt mg) : FnOk P w K mg base CX0 1 f fd ["actual"] spIsInt := by
  refine F.ok scIsInt (fun vs H Q E h => ?_) (fun cdv A outer s H vs Q E hr h => ?_)
  · obtain ⟨v, T, rfl, _⟩ := h
    rfl
  obtain ⟨v, T, rfl, hT, q⟩ := h
  refine ⟨_, pss_one (ps_ret (pe_and (pe_callB call_isi (by rfl) B.isinstance (by decide +kernel) (pa_cons (pv 0) (pa_cons (pe_bltn (v := .ty "int") (by rfl) B.int (by decide +kernel) rfl) pa_nil)))
    (pe_one (pe_not (pe_callB call_isi (by rfl) B.isinstance (by decide +kernel) (pa_cons (pv 0) (pa_cons (pe_bltn (v := .ty "bool") (by rfl) B.bool (by decide +kernel) rfl) pa_nil)))))))  , ?_⟩
  refine ⟨_, rfl, ?_⟩
  have hh := hT
  cases v with
  | non => cases (show T = "NoneType" from hT); exact ⟨_, _, _, _, false, rfl, .ty _, tyx hh, kit_ty (by decide +kernel), _, rfl, iteF q⟩
  | bl b => cases (show T = "bool" from hT); exact ⟨_, _, _, _, true, rfl, .ty _, tyx hh, kit_ty (by decide +kernel), _, rfl, iteT ⟨_, rfl, ⟨_, _, _, _, true, rfl, .ty _, tyx hh, kit_ty (by decide +kernel), _, rfl, q⟩⟩⟩
  | int i => cases (show T = "int" from hT); exact ⟨_, _, _, _, true, rfl, .ty _, tyx hh, kit_ty (by decide +kernel), _, rfl, iteT ⟨_, rfl, ⟨_, _, _, _, false, rfl, .ty _, tyx hh, kit_ty (by decide +kernel), _, rfl, q⟩⟩⟩
  | str z => cases (show T = "str" from hT); exact ⟨_, _, _, _, false, rfl, .ty _, tyx hh, kit_ty (by decide +kernel), _, rfl, iteF q⟩
  | ref p =>
    rcases hT with ⟨rfl, xs, h⟩ | ⟨rfl, xs, h⟩ | ⟨rfl, xs, h⟩
    · exact ⟨_, _, _, _, false, rfl, .ty _, tyx hh, kit_ty (by decide +kernel), _, rfl, iteF q⟩
    · exact ⟨_, _, _, _, false, rfl, .ty _, tyx hh, kit_ty (by decide +kernel), _, rfl, iteF q⟩
    · exact ⟨_, _, _, _, false, rfl, .ty _, tyx hh, kit_ty (by decide +kernel), _, rfl, iteF q⟩
  | byt _ => exact (show False from hT).elim
  | flt _ => exact (show False from hT).elim
  | ty _ => exact (show False from hT).elim
end
end Cf
namespace Cf
open PySem L2
section
variable {P : Program} {w : World} {K : PySem.W.Frag} {mg : Str → Option Value} {base : Heap}
theorem scSame : FnScope ["actual", "due", "k"] ["actual", "due"] (defScope sSame) := ⟨rfl, rfl, rfl, by decide +kernel, rfl, by decide +kernel, by decide +kernel⟩
theorem ok_same1 {n : Nat} {f : Addr} {fd : FuncData} (F : Fun K "_law_same" "_law_same" sSame f fd) (B : Blt mg) (R : FnOk P w K mg base CX0 n f fd ["actual", "due"] (spSame n)) (bR : Binds K fd ["actual", "due"] []) (mR : mg "_law_same" = some (.ref f)) :
    FnOk P w K mg base CX0 (n + 1) f fd ["actual", "due"] (spSame (n + 1)) := by
  have kR := F.kp
  refine F.ok scSame (fun vs H Q E h => ?_) (fun cdv A outer s H vs Q E hr h => ?_)
  · obtain ⟨x, y, rfl, _⟩ := h
    rfl
  obtain ⟨x, y, rfl, hxy, q⟩ := h
  have nd := scSame.nd
  refine ⟨_, pss_cons (ps_if (PW.pt (pw_or (pt_val (pe_callB call_isi (by rfl) B.isinstance (by decide +kernel) (pa_cons (pv 1) (pa_cons (pe_bltn (v := .ty "tuple") (by rfl) B.tuple (by decide +kernel) rfl) pa_nil)))) (pw_or1 (pt_val (pe_callB call_isi (by rfl) B.isinstance (by decide +kernel) (pa_cons (pv 1) (pa_cons (pe_bltn (v := .ty "list") (by rfl) B.list (by decide +kernel) rfl) pa_nil)))))))
      (pss_cons (ps_if (PW.pt (pw_or (pt_cmpR op_ne (pe_callB call_isi (by rfl) B.isinstance (by decide +kernel) (pa_cons (pv 1) (pa_cons (pe_bltn (v := .ty "tuple") (by rfl) B.tuple (by decide +kernel) rfl) pa_nil))) (pe_callB call_isi (by rfl) B.isinstance (by decide +kernel) (pa_cons (pv 0) (pa_cons (pe_bltn (v := .ty "tuple") (by rfl) B.tuple (by decide +kernel) rfl) pa_nil))) (nomark _)) (pw_or (pt_cmpR op_ne (pe_callB call_isi (by rfl) B.isinstance (by decide +kernel) (pa_cons (pv 1) (pa_cons (pe_bltn (v := .ty "list") (by rfl) B.list (by decide +kernel) rfl) pa_nil))) (pe_callB call_isi (by rfl) B.isinstance (by decide +kernel) (pa_cons (pv 0) (pa_cons (pe_bltn (v := .ty "list") (by rfl) B.list (by decide +kernel) rfl) pa_nil))) (nomark _)) (pw_or1 (pt_cmpR op_ne (pe_callB call_len_seq (by rfl) B.len PySem.boot_len (pa_cons (pv 0) pa_nil)) (pe_callB call_len_seq (by rfl) B.len PySem.boot_len (pa_cons (pv 1) pa_nil)) (nomark _))))))
          (pss_one (ps_ret pe_bl)) pss_nil)
        (pss_one (ps_ret (pe_cmpR op_eq (pe_callB call_len_seq (by rfl) B.len PySem.boot_len (pa_cons
          (pe_lc (own := [("k", 2)]) (g := gName 2) (tt := tNot (tB (tCall (spSame n) [] E0 (tCons (tOp (rIx K) (tVar 0) (tVar 2)) (tCons (tOp (rIx K) (tVar 1) (tVar 2)) tNil))))) rfl nd (pi_range1 rfl B.range (pa_cons (pe_callB call_len_seq (by rfl) B.len PySem.boot_len (pa_cons (pv 1) pa_nil)) pa_nil))
            (blkOk_by (N := ["actual", "due", "k"]) (sc := defScope sSame) (by decide +kernel)) (fun _ _ _ _ _ => pg_name (i := 2) nd rfl (.inl rfl))
            (fun _ _ _ _ _ => pts_one (pt_not (pt_val (pe_call R hr rfl mR kR bR .nil pass0 (pa_cons (pe_ix (r := rIx K) ix_seq (pv 0) (pv 2) (fun _ _ => rfl)) (pa_cons (pe_ix (r := rIx K) ix_seq (pv 1) (pv 2) (fun _ _ => rfl)) pa_nil))))))
            (fun _ _ _ _ _ => pv 2)) pa_nil)) pe_int (nomark _))))) pss_nil)
    (pss_cons (ps_if (pt_cmpR op_isN (pv 1) pe_non (nomark _)) (pss_one (ps_ret (pe_cmpR op_isN (pv 0) pe_non (nomark _)))) pss_nil)
    (pss_cons (ps_if (PW.pt (pw_or (pt_val (pe_callB call_isi (by rfl) B.isinstance (by decide +kernel) (pa_cons (pv 1) (pa_cons (pe_bltn (v := .ty "bool") (by rfl) B.bool (by decide +kernel) rfl) pa_nil)))) (pw_or1 (pt_val (pe_callB call_isi (by rfl) B.isinstance (by decide +kernel) (pa_cons (pv 0) (pa_cons (pe_bltn (v := .ty "bool") (by rfl) B.bool (by decide +kernel) rfl) pa_nil))))))) (pss_one (ps_ret (pe_and (pe_callB call_isi (by rfl) B.isinstance (by decide +kernel) (pa_cons (pv 1) (pa_cons (pe_bltn (v := .ty "bool") (by rfl) B.bool (by decide +kernel) rfl) pa_nil))) (pe_and (pe_callB call_isi (by rfl) B.isinstance (by decide +kernel) (pa_cons (pv 0) (pa_cons (pe_bltn (v := .ty "bool") (by rfl) B.bool (by decide +kernel) rfl) pa_nil))) (pe_one (pe_cmpR op_eq (pv 0) (pv 1) (nomark _))))))) pss_nil)
    (pss_cons (ps_if (pt_val (pe_callB call_isi (by rfl) B.isinstance (by decide +kernel) (pa_cons (pv 1) (pa_cons (pe_bltn (v := .ty "int") (by rfl) B.int (by decide +kernel) rfl) pa_nil)))) (pss_one (ps_ret (pe_and (pe_callB call_isi (by rfl) B.isinstance (by decide +kernel) (pa_cons (pv 0) (pa_cons (pe_bltn (v := .ty "int") (by rfl) B.int (by decide +kernel) rfl) pa_nil))) (pe_one (pe_cmpR op_eq (pv 0) (pv 1) (nomark _)))))) pss_nil)
    (pss_one (ps_ret (pe_and (pe_callB call_isi (by rfl) B.isinstance (by decide +kernel) (pa_cons (pv 0) (pa_cons (pe_bltn (v := .ty "str") (by rfl) B.str (by decide +kernel) rfl) pa_nil))) (pe_one (pe_cmpR op_eq (pv 0) (pv 1) (nomark _))))))))), ?_⟩
  have q0 := q H (Same.refl H)
  rcases hxy with ⟨rfl, hf⟩ | ⟨p, r, xs, ys, rfl, rfl, hh, hl, hlen, hall⟩
  · cases x with
    | non =>
      have hh : TyN H V.non "NoneType" := rfl
      refine ⟨_, rfl, ⟨_, _, _, _, false, rfl, .ty _, tyx hh, kit_ty (by decide +kernel), _, rfl, iteF ⟨_, rfl, ⟨_, _, _, _, false, rfl, .ty _, tyx hh, kit_ty (by decide +kernel), _, rfl, iteF ?_⟩⟩⟩⟩
      refine ⟨_, rfl, rfl, _, rfl, ite2 (fun _ => ?_) (fun c => absurd (decide_eq_true rfl) c)⟩
      exact ⟨_, rfl, rfl, q0⟩
    | bl b =>
      have hh : TyN H (V.bl b) "bool" := rfl
      refine ⟨_, rfl, ⟨_, _, _, _, false, rfl, .ty _, tyx hh, kit_ty (by decide +kernel), _, rfl, iteF ⟨_, rfl, ⟨_, _, _, _, false, rfl, .ty _, tyx hh, kit_ty (by decide +kernel), _, rfl, iteF ?_⟩⟩⟩⟩
      refine ⟨_, rfl, rfl, _, rfl, ite2 (fun c => (nomatch (of_decide_eq_true c))) (fun _ => ?_)⟩
      refine ⟨_, rfl, ⟨_, _, _, _, true, rfl, .ty _, tyx hh, kit_ty (by decide +kernel), _, rfl, iteT (iteT ?_)⟩⟩
      refine ⟨_, rfl, ⟨_, _, _, _, true, rfl, .ty _, tyx hh, kit_ty (by decide +kernel), _, rfl, iteT ⟨_, rfl, ⟨_, _, _, _, true, rfl, .ty _, tyx hh, kit_ty (by decide +kernel), _, rfl, iteT ?_⟩⟩⟩⟩
      refine ⟨_, rfl, _, rfl, rfl, ?_⟩
      rw [decide_eq_true rfl]
      exact q0
    | int i =>
      have hh : TyN H (V.int i) "int" := rfl
      refine ⟨_, rfl, ⟨_, _, _, _, false, rfl, .ty _, tyx hh, kit_ty (by decide +kernel), _, rfl, iteF ⟨_, rfl, ⟨_, _, _, _, false, rfl, .ty _, tyx hh, kit_ty (by decide +kernel), _, rfl, iteF ?_⟩⟩⟩⟩
      refine ⟨_, rfl, rfl, _, rfl, ite2 (fun c => (nomatch (of_decide_eq_true c))) (fun _ => ?_)⟩
      refine ⟨_, rfl, ⟨_, _, _, _, false, rfl, .ty _, tyx hh, kit_ty (by decide +kernel), _, rfl, iteF ⟨_, rfl, ⟨_, _, _, _, false, rfl, .ty _, tyx hh, kit_ty (by decide +kernel), _, rfl, iteF ?_⟩⟩⟩⟩
      refine ⟨_, rfl, ⟨_, _, _, _, true, rfl, .ty _, tyx hh, kit_ty (by decide +kernel), _, rfl, iteT ?_⟩⟩
      refine ⟨_, rfl, ⟨_, _, _, _, true, rfl, .ty _, tyx hh, kit_ty (by decide +kernel), _, rfl, iteT ?_⟩⟩
      refine ⟨_, rfl, _, rfl, rfl, ?_⟩
      rw [decide_eq_true rfl]
      exact q0
    | str z =>
      have hh : TyN H (V.str z) "str" := rfl
      refine ⟨_, rfl, ⟨_, _, _, _, false, rfl, .ty _, tyx hh, kit_ty (by decide +kernel), _, rfl, iteF ⟨_, rfl, ⟨_, _, _, _, false, rfl, .ty _, tyx hh, kit_ty (by decide +kernel), _, rfl, iteF ?_⟩⟩⟩⟩
      refine ⟨_, rfl, rfl, _, rfl, ite2 (fun c => (nomatch (of_decide_eq_true c))) (fun _ => ?_)⟩
      refine ⟨_, rfl, ⟨_, _, _, _, false, rfl, .ty _, tyx hh, kit_ty (by decide +kernel), _, rfl, iteF ⟨_, rfl, ⟨_, _, _, _, false, rfl, .ty _, tyx hh, kit_ty (by decide +kernel), _, rfl, iteF ?_⟩⟩⟩⟩
      refine ⟨_, rfl, ⟨_, _, _, _, false, rfl, .ty _, tyx hh, kit_ty (by decide +kernel), _, rfl, iteF ?_⟩⟩
      refine ⟨_, rfl, ⟨_, _, _, _, true, rfl, .ty _, tyx hh, kit_ty (by decide +kernel), _, rfl, iteT ?_⟩⟩
      refine ⟨_, rfl, _, rfl, rfl, ?_⟩
      rw [decide_eq_true rfl]
      exact q0
    | byt _ => cases hf
    | flt _ => cases hf
    | ty _ => cases hf
    | ref _ => cases hf
  · -- the two sequences, item by item
    have seq : ∀ (hp : SqL K H p xs ∨ SqT K H p xs) (hr' : SqL K H r ys ∨ SqT K H r ys), tRet (tOp rEq (tCB (fun xs H Q => ∃ (p : Addr) (ys : List V), xs = [.ref p] ∧ (SqL K H p ys ∨ SqT K H p ys) ∧ Q (.int ys.length) H) (tCons
        (tLc (iRng1 (tCons (tCB (fun xs H Q => ∃ (p : Addr) (ys : List V), xs = [.ref p] ∧ (SqL K H p ys ∨ SqT K H p ys) ∧ Q (.int ys.length) H) (tCons (tVar 1) tNil)) tNil)) (gName 2)
          (tNot (tB (tCall (spSame n) [] E0 (tCons (tOp (rIx K) (tVar 0) (tVar 2)) (tCons (tOp (rIx K) (tVar 1) (tVar 2)) tNil))))) (tVar 2) [2]) tNil)) (tC (.int 0)))
        { nx := fun _ H' => Q .non H', rt := Q } [some (.ref p), some (.ref r), none] H := by
      intro hp hr'
      refine ⟨_, rfl, r, _, rfl, hr', _, rfl, by omega, by omega, fun D nD => ?_⟩
      refine lc_range (n := ys.length) (fun i H' => H' D = some (.lst []) ∧ Same H H') ⟨upd_same, same_new nD _⟩ (fun i H' hi hh => ?_) (fun H' hh => ?_)
      · obtain ⟨h1, h2⟩ := hh
        have hx : xs[i]? = some xs[i] := List.getElem?_eq_getElem (by omega)
        have hy : ys[i]? = some ys[i] := List.getElem?_eq_getElem hi
        have hax : atI xs (0 + (i : Int)) = some xs[i] := by rw [Int.zero_add]; exact atI_nat hx
        have hay : atI ys (0 + (i : Int)) = some ys[i] := by rw [Int.zero_add]; exact atI_nat hy
        have ix : ∀ {z : Addr} {zs : List V} {v : V} {Q : VK}, (SqL K H z zs ∨ SqT K H z zs) → atI zs (0 + (i : Int)) = some v → Q v H' → rIx K (.ref z) (.int (0 + (i : Int))) H' Q := fun hz ha hq => by
          rcases hz with hz | hz
          · exact .inl ⟨_, _, _, _, rfl, rfl, h2.seq hz, ha, hq⟩
          · refine .inr (.inl ⟨_, _, _, _, rfl, rfl, ?_, ha, hq⟩)
            rcases hz with (hz | ⟨o, hz⟩) | hz
            · exact .inl (.inl (h2 _ _ hz))
            · exact .inl (.inr ⟨o, h2 _ _ hz⟩)
            · exact .inr hz
        refine ⟨rfl, _, rfl, _, rfl, ix hp hax ⟨_, rfl, _, rfl, ix hr' hay ?_⟩⟩
        exact ⟨_, _, rfl, (hall i _ _ hx hy).keep h2, fun H2 e2 => ⟨_, rfl, iteF ⟨e2 _ _ h1, h2.trans e2⟩⟩⟩
      · exact ⟨D, _, rfl, .inl (SqL.of hh.1), rfl, q H' hh.2⟩
    rcases hh with ⟨a, b⟩ | ⟨a, b⟩
    · have h1 : TyN H (V.ref p) "list" := .inl ⟨rfl, _, a⟩
      have hh : TyN H (V.ref r) "list" := .inl ⟨rfl, _, b⟩
      refine ⟨_, rfl, ⟨_, _, _, _, false, rfl, .ty _, tyx hh, kit_ty (by decide +kernel), _, rfl, iteF ⟨_, rfl, ⟨_, _, _, _, true, rfl, .ty _, tyx hh, kit_ty (by decide +kernel), _, rfl, iteT ?_⟩⟩⟩⟩
      refine ⟨_, rfl, ⟨_, _, _, _, false, rfl, .ty _, tyx hh, kit_ty (by decide +kernel), _, rfl, ⟨_, _, _, _, false, rfl, .ty _, tyx h1, kit_ty (by decide +kernel), rfl, _, rfl, iteF ?_⟩⟩⟩
      refine ⟨_, rfl, ⟨_, _, _, _, true, rfl, .ty _, tyx hh, kit_ty (by decide +kernel), _, rfl, ⟨_, _, _, _, true, rfl, .ty _, tyx h1, kit_ty (by decide +kernel), rfl, _, rfl, iteF ?_⟩⟩⟩
      refine ⟨_, rfl, p, _, rfl, .inl (SqL.of a), _, rfl, r, _, rfl, .inl (SqL.of b), rfl, _, rfl, ?_⟩
      rw [hl, decide_eq_true rfl]
      exact iteF (seq (.inl (SqL.of a)) (.inl (SqL.of b)))
    · have h1 : TyN H (V.ref p) "tuple" := .inr (.inl ⟨rfl, _, a⟩)
      have hh : TyN H (V.ref r) "tuple" := .inr (.inl ⟨rfl, _, b⟩)
      refine ⟨_, rfl, ⟨_, _, _, _, true, rfl, .ty _, tyx hh, kit_ty (by decide +kernel), _, rfl, iteT (iteT ?_)⟩⟩
      refine ⟨_, rfl, ⟨_, _, _, _, true, rfl, .ty _, tyx hh, kit_ty (by decide +kernel), _, rfl, ⟨_, _, _, _, true, rfl, .ty _, tyx h1, kit_ty (by decide +kernel), rfl, _, rfl, iteF ?_⟩⟩⟩
      refine ⟨_, rfl, ⟨_, _, _, _, false, rfl, .ty _, tyx hh, kit_ty (by decide +kernel), _, rfl, ⟨_, _, _, _, false, rfl, .ty _, tyx h1, kit_ty (by decide +kernel), rfl, _, rfl, iteF ?_⟩⟩⟩
      refine ⟨_, rfl, p, _, rfl, .inr (SqT.of a), _, rfl, r, _, rfl, .inr (SqT.of b), rfl, _, rfl, ?_⟩
      rw [hl, decide_eq_true rfl]
      exact iteF (seq (.inr (SqT.of a)) (.inr (SqT.of b)))
theorem ok_same {f : Addr} {fd : FuncData} (F : Fun K "_law_same" "_law_same" sSame f fd) (B : Blt mg) (bR : Binds K fd ["actual", "due"] []) (mR : mg "_law_same" = some (.ref f)) : ∀ n : Nat, FnOk P w K mg base CX0 n f fd ["actual", "due"] (spSame n)
  | 0 => none_left fun vs H Q E h => by
    obtain ⟨x, y, _, h, _⟩ := h
    exact h
  | n + 1 => ok_same1 F B (ok_same F B bR mR n) bR mR
end
end Cf
namespace Cf
open PySem L2
abbrev sPool : Stmt := top 5
def spPool (K : PySem.W.Frag) : Sp := fun vs H Q _ => ∃ (a : Addr) (ns : List Int), vs = [.ref a] ∧ SqL K H a (ns.map V.int) ∧ ns.length ≤ 63 ∧ ∀ (p b : Addr) (H' : Hp), PoolAt H' p b → Same H H' → H p = none → Q (.ref p) H'
section
variable {P : Program} {w : World} {K : PySem.W.Frag} {mg : Str → Option Value} {base : Heap}
theorem scPool : FnScope ["script", "salt", "cell"] ["script"] (defScope sPool) := ⟨rfl, rfl, rfl, by decide +kernel, rfl, by decide +kernel, by decide +kernel⟩
theorem ok_pool {f : Addr} {fd : FuncData} (F : Fun K "_law_pool" "_law_pool" sPool f fd) (B : Blt mg) : FnOk P w K mg base CX0 1 f fd ["script"] (spPool K) := by
  refine F.ok scPool (fun vs H Q E h => ?_) (fun cdv A outer s H vs Q E hr h => ?_)
  · obtain ⟨a, ns, rfl, _⟩ := h
    rfl
  obtain ⟨a, ns, rfl, hS, hl, q⟩ := h
  have nd := scPool.nd
  refine ⟨_, pss_cons (ps_set (i := 1) nd rfl (.inl rfl) pe_int)
    (pss_cons (ps_for PassesOwn.never rfl (pi_list (pe_slice sl_list (pv 0) po_none (po_some pe_int))) (pg_name (i := 2) nd rfl (.inl rfl))
      (pss_one (ps_set (i := 1) nd rfl (.inl rfl) (pe_op op_mod (pe_callTy call_int1 (by rfl) B.int (by decide +kernel) (pa_cons (pe_op op_add (pe_op op_mul (pv 1) pe_int) (pv 2)) pa_nil)) pe_int))))
    (pss_one (ps_ret (pe_lst (pa_cons (pe_callTy call_list_of (by rfl) B.list (by decide +kernel) (pa_cons (pv 0) pa_nil)) (pa_cons pe_int (pa_cons pe_int (pa_cons pe_int (pa_cons (pv 1) pa_nil))))))))), ?_⟩
  refine ⟨_, rfl, 63, rfl, a, _, rfl, hS, fun p np => ?_⟩
  have sm := same_new np (HO.lst (cutV (ns.map V.int) none (some 63)))
  have hsub : ∀ v ∈ cutV (ns.map V.int) none (some 63), ∃ i : Int, v = .int i := fun v hv => by
    have h1 := List.mem_of_mem_drop (List.mem_of_mem_take hv)
    obtain ⟨i, _, e⟩ := List.mem_map.mp h1
    exact ⟨i, e.symm⟩
  refine ⟨p, rfl, ⟨_, SqL.of upd_same⟩, ?_⟩
  refine for_list (xs := cutV (ns.map V.int) none (some 63)) (fun i σ H' => H' = upd H p (.lst (cutV (ns.map V.int) none (some 63))) ∧ ∃ (t : Int) (c : Option V), σ = [some (.ref a), some (.int t), c])
    ⟨rfl, _, _, rfl⟩ (fun i σ H' _ hp => by rw [hp.1]; exact SqL.of upd_same) (fun i x σ H' hx hp => ?_) (fun σ H' hp => ?_)
  · obtain ⟨rfl, t, c, rfl⟩ := hp
    obtain ⟨i, rfl⟩ := hsub x (List.mem_of_getElem? hx)
    refine ⟨_, rfl, _, _, rfl, rfl, .inr ⟨by decide, by decide⟩, _, rfl, _, _, rfl, rfl, .inl ⟨_, rfl, _, _, rfl, rfl, (by show (0 : Int) < _; decide), ?_⟩⟩
    exact ⟨rfl, _, _, rfl⟩
  · obtain ⟨rfl, t, c, rfl⟩ := hp
    refine ⟨_, rfl, a, _, rfl, .inl (sm.seq hS), fun l nl => ?_⟩
    refine ⟨_, rfl, (by show 5 ≤ sizeLine; decide), fun m nm => ?_⟩
    have s2 := sm.trans ((same_new nl (HO.lst (ns.map V.int))).trans (same_new nm (HO.lst [.ref l, .int 0, .int 0, .int 0, .int t])))
    refine q m l _ ⟨ns, 0, 0, 0, t, upd_same, ?_, hl, Int.le_refl 0⟩ s2 ((sm.trans (same_new nl (HO.lst (ns.map V.int)))).free nm)
    rw [upd_ne (ne_of_none upd_same nm), upd_same]
end
end Cf
namespace Cr
open PySem PySem.Spec PyProof.Rows L2
/-! list.extend by a tuple -/
theorem ext_tup (l b : Addr) (items items2 : Array Value) (n n2 : Nat) (od : Option Addr) (sl : Array (Option Value)) (h0 : ¬(!items.isEmpty && Builtin.List.listTooLong (items.size + items2.size)) = true)
    (h1 : items.size ≤ sizeLine) (h2 : (items ++ items2).size ≤ sizeLine + 1) :
    Meets (Builtin.«list.extend» ⟨[.ref l, .ref b], []⟩) (fun _ R s =>
      s.heap.get? l = some { cls := .type "list", dict := none, data := .seq items n, slots := #[] } ∧
      s.heap.get? b = some ⟨.type "tuple", od, .seq items2 n2, sl⟩ ∧
      R (.ok (.ret Value.none)) { s with heap := s.heap.update l (Obj.mapSeq fun x => x ++ items2), toks := s.toks }) :=
  .of_wp fun prog w A R s h => by
    obtain ⟨hp, g, d, tk, os⟩ := s
    obtain ⟨hl, hb, h⟩ := h
    have f1 := AutoSeq1.idx_int
    have f2 := AutoSeq1.sub_tuple_tuple
    have f3 := AutoSeq1.sub_list_list
    have f4 := AutoSeq1.sub_tuple_list
    have f5 := AutoSeq1.sub_list_tuple
    wp_walk using (wpAny_updateSeq hl rfl (hz := h1) (_hz' := h2)), AutoSeq1.wpAny_loadPart' hl, AutoSeq1.wpAny_loadPart' hb
    exact ⟨_, rfl, h⟩
def rExtT (K : PySem.W.Frag) : V → List V → Hp → VK → Prop := fun x vs H Q => ∃ (l b : Addr) (xs zs : List V), x = .ref l ∧ vs = [.ref b] ∧ H l = some (.lst xs) ∧ H b = some (.tup zs) ∧ xs.length + zs.length ≤ sizeLine ∧ Q .non (upd H l (.lst (xs ++ zs)))
theorem mt_extT {X : Cx} : MtM X "list.extend" (rExtT X.K) := by
  intro pins s σ H x vs v us Q I rx rv ⟨l, b, xs, zs, ex, evs, hL, hB, hz, q⟩
  subst ex evs
  obtain rfl : v = Value.ref l := rx
  obtain ⟨u, rfl, ru⟩ := rv.one
  obtain rfl : u = Value.ref b := ru
  obtain ⟨z1, i1, n1, r1, len1, e1⟩ := I.lstM hL
  obtain ⟨z2, i2, r2, ob, e2, c2, n2, d2⟩ := (show ObjOk X.prog X.w H s.heap b (.tup zs) from I.hok b _ hB)
  obtain ⟨oc, od, dt, sl⟩ := ob
  simp only at c2 d2
  subst c2 d2
  have len2 := r2.length
  have hh : (i1.toArray ++ i2.toArray).size ≤ sizeLine := by rw [Array.size_append, List.size_toArray, List.size_toArray]; omega
  have h0 : ¬(!i1.toArray.isEmpty && Builtin.List.listTooLong (i1.toArray.size + i2.toArray.size)) = true := by
    rw [notLongL (by rw [← Array.size_append]; exact hh), Bool.and_false]
    exact Bool.false_ne_true
  refine call_meets F.slot_list_extend ⟨_, e1, rfl⟩ F.entry_list_extend (F.args_list_extend_2 _ _)
    (ext_tup l b i1.toArray i2.toArray n1 n2 od sl h0 (by rw [List.size_toArray]; omega) (by omega)) ⟨e1, e2, ?_⟩
  exact ⟨.non, _, I.lset (its' := i1 ++ i2) hL e1 (by simp) (r1.append r2) (by rw [List.length_append]; exact hz), rfl, q⟩
/-! t[::-1] and t[:0:-1] of a tuple -/
theorem back_adjust {hi : Option Int} {k n : Nat} (h : (hi = none ∧ k = 0) ∨ (hi = some 0 ∧ k = 1 ∧ 0 < n)) : Builtin.Slice.sliceAdjust none hi (-1) (n : Int) = ((n : Int) - 1, (k : Int) - 1) := by
  rcases h with ⟨rfl, rfl⟩ | ⟨rfl, rfl, h⟩
  · rfl
  · have e : ¬ ((0 : Int) < 0) := by decide
    show ((n : Int) - 1, if (0 : Int) < 0 then max (0 + (n : Int)) (-1) else min 0 ((n : Int) - 1)) = _
    rw [if_neg e]
    exact Prod.ext rfl (by show min 0 ((n : Int) - 1) = ((1 : Nat) : Int) - 1; omega)
theorem back_places (k n : Nat) : Builtin.Slice.slicePlaces ((n : Int) - 1) ((k : Int) - 1) (-1) = n - k := by
  have e : ¬ ((-1 : Int) > 0) := by decide
  unfold Builtin.Slice.slicePlaces
  rw [if_neg e]
  by_cases h : (n : Int) - 1 > (k : Int) - 1
  · rw [if_pos h]
    show (((n : Int) - 1 - ((k : Int) - 1) - 1) / 1 + 1).toNat = n - k
    rw [Int.ediv_one]
    omega
  · rw [if_neg h]
    show 0 = n - k
    omega
theorem back_pick (xs : Array Value) (k : Nat) : ∀ c : Nat, c ≤ xs.size - k → (List.range c).filterMap (fun (m : Nat) => xs[((xs.size : Int) - 1 + (m : Int) * (-1)).toNat]?) = ((xs.toList.drop k).reverse).take c
  | 0, _ => by simp
  | c + 1, h => by
    have hl : (xs.toList.drop k).length = xs.size - k := by rw [List.length_drop, Array.length_toList]
    have e : ((xs.size : Int) - 1 + (c : Int) * (-1)).toNat = xs.size - 1 - c := by omega
    rw [List.range_succ, List.filterMap_append, back_pick xs k c (by omega), List.take_add_one, List.getElem?_reverse (by omega), List.getElem?_drop, hl]
    have e2 : k + (xs.size - k - 1 - c) = xs.size - 1 - c := by omega
    rw [e2, Array.getElem?_toList]
    congr 1
    rw [List.filterMap_cons, e]
    cases xs[xs.size - 1 - c]? <;> rfl
section
variable {prog : Program} {w : World} {A : Around} {E : Value → Shared → Prop} {s : Shared}
theorem applied_back {sl : Addr} {vl vu vs : Value} {hi : Option Int} {n k : Nat} {Q : Int × Int × Nat → Shared → Prop} (hs : s.heap.IsSliceOf sl vl vu vs) (pl : IsPart vl none) (pu : IsPart vu hi) (ps : IsPart vs (some (-1)))
    (hk : (hi = none ∧ k = 0) ∨ (hi = some 0 ∧ k = 1 ∧ 0 < n)) (h : Q ((n : Int) - 1, -1, n - k) s) : wpAny (model prog w) A (Builtin.Slice.sliceApplied (.ref sl) (pure (n : Int))) Q E s := by
  obtain ⟨ob, hob, _, hd⟩ := id hs
  unfold Builtin.Slice.sliceApplied Builtin.Slice.sliceFields
  have f2 : ∀ {R : Value × Value × Value → Shared → Prop}, R (vl, vu, vs) s → wpAny (model prog w) A (do return (← field (.ref sl) 0, ← field (.ref sl) 1, ← field (.ref sl) 2)) R E s := fun hR =>
    wpAny_bind (wpAny_field hob hd (x := vl) rfl (wpAny_bind (wpAny_field hob hd (x := vu) rfl (wpAny_bind (wpAny_field hob hd (x := vs) rfl (wpAny_pure hR))))))
  refine wpAny_bind (f2 (wpAny_bind (HT.slicePart_ ps ?_)))
  show wpAny _ _ (if ((-1 : Int) == 0) = true then _ else _) _ _ s
  rw [if_neg (by decide)]
  refine wpAny_bind (HT.slicePart_ pl (wpAny_bind (HT.slicePart_ pu (wpAny_bind (wpAny_pure ?_)))))
  show wpAny _ _ (match Builtin.Slice.sliceAdjust none hi (-1) (n : Int) with | (lo, up) => pure (lo, (-1 : Int), Builtin.Slice.slicePlaces lo up (-1))) _ _ s
  rw [back_adjust hk]
  show wpAny _ _ (pure ((n : Int) - 1, (-1 : Int), Builtin.Slice.slicePlaces ((n : Int) - 1) ((k : Int) - 1) (-1))) _ _ s
  rw [back_places]
  exact wpAny_pure h
theorem item_back {t sl : Addr} {items : Array Value} {vl vu vs : Value} {hi : Option Int} {k : Nat} {Q : Value → Shared → Prop} (ht : IsTup s.heap t items) (hs : s.heap.IsSliceOf sl vl vu vs) (pl : IsPart vl none) (pu : IsPart vu hi) (ps : IsPart vs (some (-1)))
    (hk : (hi = none ∧ k = 0) ∨ (hi = some 0 ∧ k = 1 ∧ 0 < items.size)) (hz : items.size ≤ sizeLine)
    (h : Q (.ref s.heap.objs.size) { s with heap := s.heap.push { cls := .type "tuple", data := .seq ((items.toList.drop k).reverse).toArray } }) : wpAny (model prog w) A (getItem (.ref t) (.ref sl)) Q E s := by
  obtain ⟨ob, hob, hc, _⟩ := id hs
  have isl : s.TypeIs (.ref sl) "slice" := ⟨ob, hob, hc⟩
  have room : sizeOk (.seq ((items.toList.drop k).reverse).toArray) := by
    show ((items.toList.drop k).reverse).toArray.size ≤ sizeLine
    rw [List.size_toArray, List.length_reverse, List.length_drop, Array.length_toList]
    omega
  unfold getItem
  try with_reducible refine wpAny_holding ?_
  first | refine wpAny_bind (wpAny_pure ?_) | skip
  refine wpAny_bind (wpAny_sequenceKey ht.typeIs (by decide) (wpAny_bind ?_))
  refine wpAny_callSpecial?_slot (name := Str.ofString "__getitem__") ht.typeIs PyProof.Rows.slot_tuple_getitem ?_
  refine wpAny_call_entry PyProof.Rows.slot_tuple_getitem ht.typeIs entry_tuple_getitem ?_ (args_tuple_getitem _ _)
  show wpAny _ _ (Builtin.Tuple.tupleItemsOf (.ref t) >>= _) _ _ s
  refine wpAny_bind (tupleItemsOf_ ht (wpAny_bind (wpAny_typeOf isl ?_)))
  rw [if_pos (by decide)]
  refine wpAny_bind (applied_back hs pl pu ps hk ?_)
  have hno : ¬ ((((items.size : Int) - 1 == 0) && ((-1 : Int) == 1) && (items.size - k == items.size)) = true) := by
    rw [show ((-1 : Int) == 1) = false by decide, Bool.and_false, Bool.false_and]
    exact Bool.false_ne_true
  show wpAny _ _ (if (((items.size : Int) - 1 == 0) && ((-1 : Int) == 1) && (items.size - k == items.size)) = true then _ else _) _ _ s
  have hp := back_pick items k (items.size - k) (Nat.le_refl _)
  rw [List.take_of_length_le (by rw [List.length_reverse, List.length_drop, Array.length_toList]; exact Nat.le_refl _)] at hp
  rw [if_neg hno, hp]
  first
    | exact wpAny_bind (m := Builtin.Tuple.tupleExact _) (wpAny_newObj_type (wpAny_pure ⟨_, rfl, wpAny_pure h⟩) room)
    | exact wpAny_bind (m := Builtin.Tuple.tupleExact _) (wpAny_newObj_type (wpAny_bind (wpAny_pure (wpAny_pure ⟨_, rfl, wpAny_pure h⟩))) room)
    | exact wpAny_bind (wpAny_bind (m := Builtin.Tuple.tupleExact _) (wpAny_newObj_type (wpAny_pure (wpAny_pure ⟨_, rfl, wpAny_pure h⟩)) room))
    | exact wpAny_bind (wpAny_bind (m := Builtin.Tuple.tupleExact _) (wpAny_newObj_type (wpAny_pure ⟨_, rfl, wpAny_pure h⟩) room))
end
section
variable {X : Cx}
/-- t[:hi:-1], hi left out or 0: k items at the front are left out, the rest backwards -/
def tBack (K : PySem.W.Frag) (te : TE) (tu : TO) : TE := fun σ H Q => te σ H fun x H1 => tu σ H1 fun u H2 => ∃ (a : Addr) (xs : List V) (k : Nat), x = .ref a ∧ SqT K H2 a xs ∧ ((u = none ∧ k = 0) ∨ (u = some 0 ∧ k = 1 ∧ 0 < xs.length)) ∧
  ∀ p, H2 p = none → Q (.ref p) (upd H2 p (.tup (xs.drop k).reverse))
theorem pe_back {e : Expr} {hi : Option Expr} {te : TE} {tu : TO} {kk : Nat} {p1 p2 p3 pos : Pos} (he : PE X e te) (hu : PO X hi tu) :
    PE X (.Subscript e (.Slice none hi (some (.UnaryOp .USub (.Constant (.int 1) kk p1) p2)) p3) pos) (tBack X.K te tu) := by
  refine ⟨fun pins s0 σ H0 Q I0 h => Subscript_ (thn (he.run pins s0 σ H0 _ I0 h) fun v s1 ⟨x, H1, I1, rx, q1⟩ => ?_)⟩
  have hst : PO X (some (.UnaryOp .USub (.Constant (.int 1) kk p1) p2)) (tPart (tUn (rU fun i => .int (-i)) (tC (.int 1)))) := po_some (pe_un un_neg pe_int)
  refine wpAny_Slice (thn (po_none.run pins s1 σ H1 (fun o G => o = none ∧ G = H1) I1 ⟨rfl, rfl⟩) fun vl s2 ⟨o1, G, I2, pl, eo, eG⟩ => ?_)
  subst eo eG
  refine thn (hu.run pins s2 σ G _ I2 q1) fun vu s3 ⟨u, G2, I3, pu, q2⟩ => ?_
  refine thn (hst.run pins s3 σ G2 (fun o G => o = some (-1) ∧ G = G2) I3 ⟨1, rfl, -1, rfl, rfl, rfl⟩) fun vs s4 ⟨o2, G3, I4, ps, eo2, eG2⟩ => ?_
  subst eo2 eG2
  obtain ⟨a, xs, k, ex, hx, hk, q⟩ := q2
  subst ex
  obtain rfl : v = Value.ref a := rx
  have I5 : Inv X pins σ G3 { s4 with heap := s4.heap.push { cls := .type "slice", data := .fields #[vl, vu, vs] } } := I4.kept (t' := s4.toks) fun b ob q => Heap.get?_push_of_some _ q
  obtain ⟨its, r, ht, hz⟩ := I5.tuple hx
  have hlen := r.length
  show wpAny (model X.prog X.w) X.A (subscriptTail e (.Slice none hi (some (.UnaryOp .USub (.Constant (.int 1) kk p1) p2)) p3) (.ref a) (.ref s4.heap.objs.size)) (EP X pins σ Q) X.xe _
  refine tail_any (ops := [.ref a, .ref s4.heap.objs.size]) ht.typeIs PyProof.Rows.slot_tuple_getitem.lookup ?_ (by with_unfolding_all rfl)
  refine item_back (k := k) ht (Heap.IsSliceOf.new _ vl vu vs) pl pu ps ?_ (by rw [List.size_toArray]; omega) ?_
  · rcases hk with h | ⟨h1, h2, h3⟩
    · exact .inl h
    · exact .inr ⟨h1, h2, by rw [List.size_toArray]; omega⟩
  refine ⟨.ref _, _, I5.laid (t' := s4.toks) (o := .tup (xs.drop k).reverse) (fun b ob q => Heap.get?_push_of_some _ q) (Nat.le_refl _) ?_, rfl, q _ (I5.hok.fresh (Nat.le_refl _))⟩
  exact ⟨by rw [List.length_reverse, List.length_drop]; omega, _, (r.drop k).reverse, IsTup.new _ _⟩
end
end Cr
namespace Cr
open PySem PySem.Spec PyProof.Rows L2
section
variable {J : It} {n : Nat} {G : Hp → Prop} {Y : Nat → Hp → V → Hp → Prop}
/-- a dict comprehension over a walk: what holds (Pv) by the turn and the heap, the new dict at D within it -/
theorem dc_it (walk : Walk J n G Y) {g : TG} {tt : TT} {tk tv : TE} {vs : List Nat} {σ : L2.St} {H1 : Hp} {D : Addr} {Qd : Hp → Prop} (Pv : Nat → Hp → Prop) (start : Pv 0 (upd H1 D (.dK []))) (stays : ∀ i H, i ≤ n → Pv i H → G H)
    (turn : ∀ i x H H', i < n → Pv i H → Y i H x H' → g x (wipe σ vs) H' fun σ2 H2 => wipe σ2 vs = wipe σ vs ∧ tt σ2 H2 fun b H3 =>
      if b = true then tk σ2 H3 fun y H4 => tv σ2 H4 fun z H5 => ∃ kvs k, y = kV k ∧ H5 D = some (.dK kvs) ∧ kvs.length < sizeLine ∧ Pv (i + 1) (upd H5 D (.dK (putK kvs k z))) else Pv (i + 1) H3) (fin : ∀ H, Pv n H → Qd H) :
    ∃ W : Nat → Nat → Hp → Prop, (∃ m, W 0 m (upd H1 D (.dK []))) ∧ ∀ i m H, W i m H →
      (J.stop i H ∧ Qd H) ∨ (J.go i H ∧ ∃ Nx : Hp → Prop, (∀ H', Nx H' → ∃ m', m' < m ∧ W (i + 1) m' H') ∧ ∀ x H', J.yld i H x H' → g x (wipe σ vs) H' fun σ2 H2 => wipe σ2 vs = wipe σ vs ∧ tt σ2 H2 fun b H3 =>
        if b = true then tk σ2 H3 fun y H4 => tv σ2 H4 fun z H5 => ∃ kvs k, y = kV k ∧ H5 D = some (.dK kvs) ∧ kvs.length < sizeLine ∧ Nx (upd H5 D (.dK (putK kvs k z))) else Nx H3) := by
  refine ⟨fun i m G' => (i ≤ n ∧ m = n - i) ∧ Pv i G', ⟨n, ⟨Nat.zero_le _, rfl⟩, start⟩, fun i m G' hw => ?_⟩
  obtain ⟨⟨hi, rfl⟩, p⟩ := hw
  have st := stays i G' hi p
  rcases Nat.lt_or_ge i n with hlt | hge
  · exact .inr ⟨walk.goes i G' hlt st, Pv (i + 1), fun H' p' => ⟨n - (i + 1), by omega, ⟨hlt, rfl⟩, p'⟩, fun x H' y => turn i x G' H' hlt p (walk.yields i G' x H' hlt st y)⟩
  · obtain rfl : i = n := by omega
    exact .inl ⟨walk.stops G' st, fin G' p⟩
end
/-- how many different ints are in a list -/
def many (ns : List Int) : Nat := (firstMet (fun i => ns.getD i 0) ns.length).length
section
variable {X : Cx}
def tSize (K : PySem.W.Frag) (ta : TE) : TE := fun σ H Q => ta σ H fun x H1 => ∃ (l : Addr) (ns : List Int), x = .ref l ∧ SqL K H1 l (ns.map V.int) ∧ ns.length ≤ 4000 ∧ Q (.int (many ns : Nat)) H1
/-- len(set(xs)), xs a list of ints -/
theorem pe_lenSet {e : Expr} {ta : TE} {p p2 q pos : Pos} (gl : Gl X "len") (ml : X.mg "len" = none) (gs : Gl X "set") (ms : X.mg "set" = none) (ha : PE X e ta) (hc : X.calm = true := by rfl)
    (na : starEach [e] X.env = (false, eval e X.env) :: starEach [] X.env := by rfl) : PE X (.Call (.Name "len" p) [.Call (.Name "set" p2) [e] [] q] [] pos) (tSize X.K ta) := by
  refine ⟨fun pins s σ H Q I h => Call_ (ld_blt I gl ml boot_len (PyProof.Rows.callWith_builtin1 (PyProof.Rows.args_cons (Call_ (ld_blt I gs ms boot_set ?_)) rfl) rfl rfl))⟩
  refine PyProof.Rows.callWith_type1 (PyProof.Rows.args_cons (thn (ha.run pins s σ H _ I h) fun v s1 ⟨x, H1, I1, r1, q1⟩ => PyProof.Rows.args_nil ?_) na) na rfl
  obtain ⟨l, ns, ex, hq, hl, q1⟩ := q1
  subst ex
  obtain rfl : v = Value.ref l := r1
  obtain ⟨its, r, pl, hz⟩ := I1.list hq
  have es : its.toArray.size = ns.length := by rw [List.size_toArray, ← r.length, List.length_map]
  refine call_set_list (I1.ok.hd hc) pl.isList (by simpa using RZ.intsAre_vals r) (by rw [es]; unfold scanBound; omega) fun h' tk hS hk => PyProof.Rows.args_nil ?_
  rw [es] at hS
  obtain ⟨o, en, ep, t, ho, hex, hd, _, _, _, hf, hn⟩ := hS
  have lm := firstMet_length_le (fun i => ns.getD i 0) ns.length
  refine call_len_set ho hex hd hf (by rw [hn]; omega) ⟨.int (many ns : Nat), H1, (I1.kept (t' := tk) fun b o e => hk b o (Heap.lt_size e) e).tok _, ⟨_, by rw [hn]; rfl⟩, q1⟩
end
end Cr
namespace Cr
open PySem PySem.Spec PyProof.Rows L2
/-! list(zip(a, b)) of two tuples -/
theorem zip_len0 : typeLookup (.type "zip") "__len__" = pure none := by rw [typeLookup_type, builtinLookup_eq_fast]; kernel_rfl
theorem zip_hint0 : typeLookup (.type "zip") "__length_hint__" = pure none := by rw [typeLookup_type, builtinLookup_eq_fast]; kernel_rfl
section
variable {prog : Program} {w : World} {A : Around} {E : Value → Shared → Prop} {s : Shared}
theorem hintZ {z : Addr} (hT : s.TypeIs (.ref z) "zip") {Q : Bool → Shared → Prop} (q : Q true s) : wpAny (model prog w) A (Builtin.List.listLengthHint (.ref z)) Q E s := by
  unfold Builtin.List.listLengthHint
  refine wpAny_bind (wpAny_specialOf hT zip_len0 ?_)
  refine wpAny_bind (wpAny_specialOf hT zip_hint0 ?_)
  exact wpAny_pure q
variable {z I O T i1 i2 a b : Addr} {f : Bool} {o : Obj} {i j : Nat} {us vs : Array Value} {u v : Value}
/-- the next pair, the one before being held -/
theorem heldT {Q : Option Value → Shared → Prop} (D : ZipApart z I O i1 i2 a b) (hz : IsZipHeld s.heap z I O T f) (hT : s.heap.get? T = some o) (hI : IsPair s.heap I (.ref i1) (.ref i2)) (g1 : s.heap.IsTupleIter i1 a i) (g2 : s.heap.IsTupleIter i2 b j)
    (ha : s.heap.IsTuple a us) (hb : s.heap.IsTuple b vs) (eu : us[i]? = some u) (ev : vs[j]? = some v)
    (q : ∀ h', IsZipHeld h' z I O T true → h'.IsTupleIter i1 a (i + 1) → h'.IsTupleIter i2 b (j + 1) → IsPair h' s.heap.objs.size u v → h'.objs.size = s.heap.objs.size + 1 →
      (∀ c y, c ≠ z → c ≠ i1 → c ≠ i2 → s.heap.get? c = some y → h'.get? c = some y) → Q (some (.ref s.heap.objs.size)) { s with heap := h' }) : wpAny (model prog w) A (pyNext (.ref z)) Q E s := by
  have ty : s.TypeIs (.ref z) "zip" := ⟨_, hz, rfl⟩
  unfold pyNext
  refine wpAny_bind (wpAny_attempt (wpAny_callSpecial?_slot (name := Str.ofString "__next__") ty F.slot_zip_next (wpAny_call_entry F.slot_zip_next ty F.entry_zip_next ?_ (F.args_zip_next_1 _))))
  show wpAny _ _ (field (.ref z) 2 >>= fun _ => _) _ _ _
  refine wpAny_bind (wpAny_field hz rfl (x := .bool false) rfl ?_)
  show wpAny _ _ (field (.ref z) 3 >>= fun _ => _) _ _ _
  refine wpAny_bind (wpAny_field hz rfl (x := .ref I) rfl ?_)
  refine wpAny_bind (wpAny_seqItems hI rfl ?_)
  show wpAny _ _ (Builtin.SmallTypes.ownedTupleIsFree (.ref z) >>= fun _ => _) _ _ _
  refine wpAny_bind (wpAny_tupleHeld_zip hz hT fun p1 z1 c1 => ?_)
  simp only [Bool.false_eq_true, if_false]
  refine wpAny_bind ?_
  rw [← Array.forIn_toList]
  simp only [List.forIn_cons, List.forIn_nil]
  refine wpAny_bind (wpAny_bind (wpAny_holding ?_))
  show wpAny _ _ (Builtin.SmallTypes.nextOf (.ref i1) >>= fun _ => _) _ _ _
  refine wpAny_bind (RZ.nextOf_tuple_item (s := { s with heap := p1 }) (g1.extBut c1.extBut D.i1z) (ha.extBut c1.extBut D.l1z) eu fun p2 k2 c2 => wpAny_pure (wpAny_pure ?_))
  refine wpAny_bind (wpAny_bind (wpAny_holding ?_))
  show wpAny _ _ (Builtin.SmallTypes.nextOf (.ref i2) >>= fun _ => _) _ _ _
  refine wpAny_bind (RZ.nextOf_tuple_item (s := { s with heap := p2 }) ((g2.extBut c1.extBut D.i2z).extBut c2.extBut D.i12.symm) ((hb.extBut c1.extBut D.l2z).extBut c2.extBut D.l2i1) ev fun p3 k3 c3 => wpAny_pure (wpAny_pure (wpAny_pure ?_)))
  show wpAny _ _ (newTuple [u, v] >>= fun _ => _) _ _ _
  refine wpAny_bind (wpAny_newTuple ?_)
  have sz : p3.objs.size = s.heap.objs.size := by rw [c3.1, c2.1, c1.1]
  have z3 : IsZipHeld p3 z I O T true := c3.extBut _ _ D.i2z.symm (c2.extBut _ _ D.i1z.symm z1)
  have k1 : p3.IsTupleIter i1 a (i + 1) := k2.extBut c3.extBut D.i12
  have new : IsPair (p3.push { cls := .type "tuple", data := .seq #[u, v] }) p3.objs.size u v := Heap.get?_push_size _ rfl
  have s4 : (p3.push { cls := .type "tuple", data := .seq #[u, v] }).objs.size = p3.objs.size + 1 := Heap.size_push ..
  have fin := q (p3.push { cls := .type "tuple", data := .seq #[u, v] }) (Heap.get?_push_of_some _ z3) (k1.at fun y e => Heap.get?_push_of_some _ e) (k3.at fun y e => Heap.get?_push_of_some _ e) (sz ▸ new) (sz ▸ s4)
    fun c y h1 h2 h3 e => Heap.get?_push_of_some _ (c3.extBut _ _ h3 (c2.extBut _ _ h2 (c1.extBut _ _ h1 e)))
  rw [← sz] at fin
  exact wpAny_pure ⟨_, rfl, wpAny_pure fin⟩
theorem heldT_end {Q : Option Value → Shared → Prop} (hh : A.handled = none) (D : ZipApart z I O i1 i2 a b) (hz : IsZipHeld s.heap z I O T f) (hT : s.heap.get? T = some o) (hI : IsPair s.heap I (.ref i1) (.ref i2)) (g1 : s.heap.IsTupleIter i1 a i) (g2 : s.heap.IsTupleIter i2 b j)
    (ha : s.heap.IsTuple a us) (hb : s.heap.IsTuple b vs) (out : us[i]? = none ∨ vs[j]? = none)
    (q : ∀ h', (∀ c y, c ≠ z → c ≠ i1 → c ≠ i2 → s.heap.get? c = some y → h'.get? c = some y) → Q none { s with heap := h' }) : wpAny (model prog w) A (pyNext (.ref z)) Q E s := by
  have ty : s.TypeIs (.ref z) "zip" := ⟨_, hz, rfl⟩
  unfold pyNext
  have stop : ∀ (h' : Heap) (e : Addr), (∀ c y, c ≠ z → c ≠ i1 → c ≠ i2 → s.heap.get? c = some y → h'.get? c = some y) → (∃ y, h'.get? e = some y ∧ y.cls = .type "StopIteration") →
      wpAny (model prog w) A (do if ← isInstance (.ref e) (.type "StopIteration") then return (none : Option Value) else throw (.ref e)) Q E { s with heap := h' } := fun h' e k ⟨y, h1, h2⟩ =>
    wpAny_bind (wpAny_isInstance (T := "StopIteration") (b := true) ⟨y, h1, h2⟩ isSubtype_stop (wpAny_pure (q _ k)))
  refine wpAny_bind (wpAny_attempt (wpAny_callSpecial?_slot (name := Str.ofString "__next__") ty F.slot_zip_next (wpAny_call_entry F.slot_zip_next ty F.entry_zip_next ?_ (F.args_zip_next_1 _))))
  show wpAny _ _ (field (.ref z) 2 >>= fun _ => _) _ _ _
  refine wpAny_bind (wpAny_field hz rfl (x := .bool false) rfl ?_)
  show wpAny _ _ (field (.ref z) 3 >>= fun _ => _) _ _ _
  refine wpAny_bind (wpAny_field hz rfl (x := .ref I) rfl ?_)
  refine wpAny_bind (wpAny_seqItems hI rfl ?_)
  show wpAny _ _ (Builtin.SmallTypes.ownedTupleIsFree (.ref z) >>= fun _ => _) _ _ _
  refine wpAny_bind (wpAny_tupleHeld_zip hz hT fun p1 z1 c1 => ?_)
  simp only [Bool.false_eq_true, if_false]
  refine wpAny_bind ?_
  rw [← Array.forIn_toList]
  simp only [List.forIn_cons, List.forIn_nil]
  refine wpAny_bind (wpAny_bind (wpAny_holding ?_))
  show wpAny _ _ (Builtin.SmallTypes.nextOf (.ref i1) >>= fun _ => _) _ _ _
  cases eu : us[i]? with
  | none =>
    refine wpAny_bind (RZ.nextOf_tuple_end (s := { s with heap := p1 }) hh (g1.extBut c1.extBut D.i1z) (ha.extBut c1.extBut D.l1z) eu fun p2 e c2 he => ?_)
    exact stop p2 e (fun c y h1 h2 _ x => c2 _ _ h2 (c1.extBut _ _ h1 x)) he
  | some u =>
    have ev : vs[j]? = none := by rcases out with h | h; rw [eu] at h; cases h; exact h
    refine wpAny_bind (RZ.nextOf_tuple_item (s := { s with heap := p1 }) (g1.extBut c1.extBut D.i1z) (ha.extBut c1.extBut D.l1z) eu fun p2 k2 c2 => wpAny_pure (wpAny_pure ?_))
    refine wpAny_bind (wpAny_bind (wpAny_holding ?_))
    show wpAny _ _ (Builtin.SmallTypes.nextOf (.ref i2) >>= fun _ => _) _ _ _
    refine wpAny_bind (RZ.nextOf_tuple_end (s := { s with heap := p2 }) hh ((g2.extBut c1.extBut D.i2z).extBut c2.extBut D.i12.symm) ((hb.extBut c1.extBut D.l2z).extBut c2.extBut D.l2i1) ev fun p3 e c3 he => ?_)
    exact stop p3 e (fun c y h1 h2 h3 x => c3 _ _ h3 (c2.extBut _ _ h2 (c1.extBut _ _ h1 x))) he
/-- a zip of the tuples a and b, k pairs given out, the last one at lo or above -/
def ZSt (h : Heap) (z I O i1 i2 a b : Addr) (lo k : Nat) : Prop := IsPair h I (.ref i1) (.ref i2) ∧ h.IsTupleIter i1 a k ∧ h.IsTupleIter i2 b k ∧
  ((IsZip h z I O .none ∧ ∃ x y, IsPair h O x y) ∨ ∃ (T : Addr) (f : Bool) (o : Obj), IsZipHeld h z I O T f ∧ h.get? T = some o ∧ lo ≤ T)
theorem off {S T : Addr} {lo : Nat} (h : S < lo) (k : lo ≤ T) : T ≠ S := Nat.ne_of_gt (Nat.lt_of_lt_of_le h k)
theorem ZSt.keep {h h' : Heap} {lo k : Nat} {S : Addr} (x : ZSt h z I O i1 i2 a b lo k) (e : ∀ c y, c ≠ S → h.get? c = some y → h'.get? c = some y) (hS : S < lo) (n1 : z ≠ S) (n2 : I ≠ S) (n3 : O ≠ S) (n4 : i1 ≠ S) (n5 : i2 ≠ S) : ZSt h' z I O i1 i2 a b lo k := by
  obtain ⟨x1, x2, x3, x4⟩ := x
  refine ⟨e _ _ n2 x1, x2.at fun y q => e _ y n4 q, x3.at fun y q => e _ y n5 q, ?_⟩
  rcases x4 with ⟨x4, p, q, x5⟩ | ⟨T, f, o, x4, x5, x6⟩
  · exact .inl ⟨e _ _ n1 x4, p, q, e _ _ n3 x5⟩
  · exact .inr ⟨T, f, o, e _ _ n1 x4, e _ _ (off hS x6) x5, x6⟩
theorem ZSt.next {lo k : Nat} {Q : Option Value → Shared → Prop} (D : ZipApart z I O i1 i2 a b) (x : ZSt s.heap z I O i1 i2 a b lo k) (hlo : lo ≤ s.heap.objs.size) (lz : z < lo) (lI : I < lo) (l1 : i1 < lo) (l2 : i2 < lo) (ha : s.heap.IsTuple a us) (hb : s.heap.IsTuple b vs) (eu : us[k]? = some u) (ev : vs[k]? = some v)
    (q : ∀ h', ZSt h' z I O i1 i2 a b lo (k + 1) → IsPair h' s.heap.objs.size u v → h'.objs.size = s.heap.objs.size + 1 → (∀ c y, c ≠ z → c ≠ O → c ≠ i1 → c ≠ i2 → s.heap.get? c = some y → h'.get? c = some y) → Q (some (.ref s.heap.objs.size)) { s with heap := h' }) :
    wpAny (model prog w) A (pyNext (.ref z)) Q E s := by
  obtain ⟨x1, x2, x3, x4⟩ := x
  rcases x4 with ⟨x4, p, r, x5⟩ | ⟨T, f, o, x4, x5, x6⟩
  · exact RZ.pyNext_zipT_item D x4 x1 x5 x2 x3 ha hb eu ev fun h' y1 y2 y3 y4 y5 y6 y7 => q h' ⟨y7 _ _ D.TIz D.TITO D.TIi1 D.TIi2 x1, y3, y4, .inr ⟨_, false, _, y1, y5, hlo⟩⟩ y5 y6 y7
  · exact heldT D x4 x5 x1 x2 x3 ha hb eu ev fun h' y1 y3 y4 y5 y6 y7 => q h' ⟨y7 _ _ D.TIz D.TIi1 D.TIi2 x1, y3, y4, .inr ⟨T, true, o, y1, y7 _ _ (off lz x6) (off l1 x6) (off l2 x6) x5, x6⟩⟩ y5 y6 fun c y h1 _ h3 h4 e => y7 c y h1 h3 h4 e
theorem ZSt.stop {lo k : Nat} {Q : Option Value → Shared → Prop} (hh : A.handled = none) (D : ZipApart z I O i1 i2 a b) (x : ZSt s.heap z I O i1 i2 a b lo k) (ha : s.heap.IsTuple a us) (hb : s.heap.IsTuple b vs) (out : us[k]? = none ∨ vs[k]? = none)
    (q : ∀ h', (∀ c y, c ≠ z → c ≠ O → c ≠ i1 → c ≠ i2 → s.heap.get? c = some y → h'.get? c = some y) → Q none { s with heap := h' }) : wpAny (model prog w) A (pyNext (.ref z)) Q E s := by
  obtain ⟨x1, x2, x3, x4⟩ := x
  rcases x4 with ⟨x4, p, r, x5⟩ | ⟨T, f, o, x4, x5, x6⟩
  · exact RZ.pyNext_zipT_end hh D x4 x1 x5 x2 x3 ha hb out q
  · exact heldT_end hh D x4 x5 x1 x2 x3 ha hb out fun h' k => q h' fun c y h1 _ h3 h4 e => k c y h1 h3 h4 e
/-- the pairs made -/
def ZGot (h : Heap) (us vs : Array Value) (lo : Nat) (as : List Addr) : Prop := as.Nodup ∧ ∀ (j : Nat) (T : Addr), as[j]? = some T → lo ≤ T ∧ ∃ u v, us[j]? = some u ∧ vs[j]? = some v ∧ IsPair h T u v
theorem ZGot.keep {h h' : Heap} {lo : Nat} {as : List Addr} (g : ZGot h us vs lo as) (e : ∀ c y, lo ≤ c → h.get? c = some y → h'.get? c = some y) : ZGot h' us vs lo as :=
  ⟨g.1, fun j T t => by obtain ⟨h1, u, v, h2, h3, h4⟩ := g.2 j T t; exact ⟨h1, u, v, h2, h3, e _ _ h1 h4⟩⟩
theorem ZGot.there {h : Heap} {lo : Nat} {as : List Addr} (g : ZGot h us vs lo as) {T : Addr} (t : T ∈ as) : T < h.objs.size := by
  obtain ⟨j, hj⟩ := List.mem_iff_getElem?.mp t
  obtain ⟨_, _, _, _, _, e⟩ := g.2 j T hj
  exact Heap.lt_size e
theorem zloop {S lo n : Nat} {R : Result → Shared → Prop} (hh : A.handled = none) (D : ZipApart z I O i1 i2 a b) (lS : S < lo) (lz : z < lo) (lI : I < lo) (lO : O < lo) (l1 : i1 < lo) (l2 : i2 < lo) (n1 : z ≠ S) (n2 : I ≠ S) (n3 : O ≠ S) (n4 : i1 ≠ S) (n5 : i2 ≠ S)
    (na : a ≠ S) (nb : b ≠ S) (aO : a ≠ O) (bO : b ≠ O) (lu : n ≤ us.size) (lv : n ≤ vs.size) (end_ : us.size ≤ n ∨ vs.size ≤ n) (hn : n ≤ sizeLine) (res : Value) {h0 : Heap}
    (fin : ∀ h' tk acc c as, (∀ b o, b < lo → b ≠ S → b ≠ z → b ≠ O → b ≠ i1 → b ≠ i2 → h0.get? b = some o → h'.get? b = some o) → h'.get? S = some { cls := .type "list", dict := none, data := .seq acc c, slots := #[] } → as.length = n → ZGot h' us vs lo as →
      acc.toList = as.map Value.ref → R (.ok (.ret res)) { s with heap := h', toks := tk }) :
    ∀ (k i : Nat) (h : Heap) (tk c : Nat) (acc : Array Value) (as : List Addr), n - i = k → i ≤ n → lo ≤ h.objs.size → ZSt h z I O i1 i2 a b lo i → h.IsTuple a us → h.IsTuple b vs → (∀ b o, b < lo → b ≠ S → b ≠ z → b ≠ O → b ≠ i1 → b ≠ i2 → h0.get? b = some o → h.get? b = some o) →
      h.get? S = some { cls := .type "list", dict := none, data := .seq acc c, slots := #[] } → acc.toList = as.map Value.ref → as.length = i → ZGot h us vs lo as →
      codeAny (model prog w) A (.builtin "list.extend.loop" ⟨[.ref S, .ref z, res], []⟩) R { s with heap := h, toks := tk } := by
  intro k
  induction k with
  | zero =>
    intro i h tk c acc as hk hi hlo st ha hb keep hS hacc hal got
    refine codeAny_builtin PySem.F.entry_extend_loop ?_
    rw [Around.under_plainId PySem.F.plain_extend_loop _]
    show wpAny _ A.in1 (pyNext (.ref z) >>= fun _ => _) _ _ _
    have out : us[i]? = none ∨ vs[i]? = none := by
      rcases end_ with e | e
      · exact .inl (Array.getElem?_eq_none (by omega))
      · exact .inr (Array.getElem?_eq_none (by omega))
    refine wpAny_bind (ZSt.stop (s := { s with heap := h, toks := tk }) (A := A.in1) hh D st ha hb out fun h' e => ?_)
    exact wpAny_pure (fin h' tk acc c as (fun b o h1 h2 h3 h4 h5 h6 q => e b o h3 h4 h5 h6 (keep b o h1 h2 h3 h4 h5 h6 q)) (e S _ n1.symm n3.symm n4.symm n5.symm hS) (by omega) (got.keep fun c y hc q => e c y (off lz hc) (off lO hc) (off l1 hc) (off l2 hc) q) hacc)
  | succ k ih =>
    intro i h tk c acc as hk hi hlo st ha hb keep hS hacc hal got
    have eu : us[i]? = some us[i] := Array.getElem?_eq_getElem (by omega)
    have ev : vs[i]? = some vs[i] := Array.getElem?_eq_getElem (by omega)
    have hsz : acc.size = i := by rw [← Array.length_toList, hacc, List.length_map, hal]
    refine codeAny_builtin PySem.F.entry_extend_loop ?_
    rw [Around.under_plainId PySem.F.plain_extend_loop _]
    show wpAny _ A.in1 (pyNext (.ref z) >>= fun _ => _) _ _ _
    refine wpAny_bind (ZSt.next (s := { s with heap := h, toks := tk }) D st hlo lz lI l1 l2 ha hb eu ev fun h' st' new sz e => ?_)
    dsimp only at new sz e ⊢
    have hS' := e S _ n1.symm n3.symm n4.symm n5.symm hS
    have up : ∀ b o, b ≠ S → h'.get? b = some o → (h'.update S (Obj.mapSeq (·.push (Value.ref h.objs.size)))).get? b = some o := fun b o hb q => (Heap.get?_update_other _ _ (Ne.symm hb)).trans q
    have two : ∀ c y, lo ≤ c → h.get? c = some y → (h'.update S (Obj.mapSeq (·.push (Value.ref h.objs.size)))).get? c = some y := fun c y hc q => up c y (off lS hc) (e c y (off lz hc) (off lO hc) (off l1 hc) (off l2 hc) q)
    show wpAny _ A.in1 (updateSeq S (·.push (Value.ref h.objs.size)) >>= fun _ => _) _ _ _
    refine wpAny_bind (wpAny_updateSeq hS' rfl (wpAny_pure ⟨plainId_quiet PySem.F.plain_extend_loop _, ih (i + 1) _ tk _ (acc.push (Value.ref h.objs.size)) (as ++ [h.objs.size]) (by omega) (by omega) ?_ (st'.keep up lS n1 n2 n3 n4 n5)
      ((ha.at fun o q => e a o D.l1z aO D.l1i1 D.l1i2 q).at fun o q => up a o na q) ((hb.at fun o q => e b o D.l2z bO D.l2i1 D.l2i2 q).at fun o q => up b o nb q) (fun b o h1 h2 h3 h4 h5 h6 q => up b o h2 (e b o h3 h4 h5 h6 (keep b o h1 h2 h3 h4 h5 h6 q))) (Heap.get?_update_self _ hS' rfl)
      (by rw [Array.toList_push, hacc, List.map_append]; rfl) (by rw [List.length_append, hal]; rfl) ?_⟩) (by rw [hsz]; omega) (by show (acc.push (Value.ref h.objs.size)).size ≤ sizeLine + 1; rw [Array.size_push]; omega))
    · have := Heap.lt_size (up _ _ (off lS hlo) new)
      exact Nat.le_of_lt (Nat.lt_of_le_of_lt hlo this)
    · refine ⟨?_, fun j T t => ?_⟩
      · refine List.nodup_append.mpr ⟨got.1, (by simp), fun x hx y hy z => ?_⟩
        have := got.there hx
        rw [List.mem_singleton.mp hy] at z
        exact absurd z (Nat.ne_of_lt this)
      · rcases Nat.lt_trichotomy j as.length with h1 | h1 | h1
        · rw [List.getElem?_append_left h1] at t
          obtain ⟨h2, u, v, h3, h4, h5⟩ := got.2 j T t
          exact ⟨h2, u, v, h3, h4, two _ _ h2 h5⟩
        · subst h1
          have e1 : h.objs.size = T := by simpa using t
          subst e1
          rw [hal]
          exact ⟨hlo, _, _, eu, ev, up _ _ (off lS hlo) new⟩
        · rw [List.getElem?_eq_none (by rw [List.length_append, List.length_singleton]; omega)] at t
          cases t
/-- list(z), z a zip of two tuples that has given nothing out -/
theorem call_listZ {n : Nat} {Q : Value → Shared → Prop} (hh : A.handled = none) (D : ZipApart z I O i1 i2 a b) (lz : z < s.heap.objs.size) (lI : I < s.heap.objs.size) (lO : O < s.heap.objs.size) (l1 : i1 < s.heap.objs.size) (l2 : i2 < s.heap.objs.size)
    (st : ZSt s.heap z I O i1 i2 a b (s.heap.objs.size + 1) 0) (ha : s.heap.IsTuple a us) (hb : s.heap.IsTuple b vs) (lu : n ≤ us.size) (lv : n ≤ vs.size) (end_ : us.size ≤ n ∨ vs.size ≤ n) (hn : n ≤ sizeLine)
    (q : ∀ h' tk acc c as, (∀ b o, b ≠ z → b ≠ O → b ≠ i1 → b ≠ i2 → s.heap.get? b = some o → h'.get? b = some o) → h'.get? s.heap.objs.size = some { cls := .type "list", dict := none, data := .seq acc c, slots := #[] } → as.length = n → ZGot h' us vs (s.heap.objs.size + 1) as →
      acc.toList = as.map Value.ref → Q (.ref s.heap.objs.size) { s with heap := h', toks := tk }) : wpAny (model prog w) A (call (.type "list") [.ref z]) Q E s := by
  refine callType_codes (Q₁ := fun x t => x = .ref s.heap.objs.size ∧ t = { s with heap := s.heap.push { cls := .type "list", data := .seq #[] } }) PySem.F.called_list (PySem.F.typeCall_list_1 _) PySem.F.entry_list_init (code_list_new _ ⟨rfl, rfl⟩) fun x t ht => ?_
  obtain ⟨rfl, rfl⟩ := ht
  have hS : (s.heap.push { cls := .type "list", data := .seq #[] }).get? s.heap.objs.size = some { cls := .type "list", data := .seq #[] } := Heap.get?_push_size _ rfl
  have old : ∀ (c : Addr) (y : Obj), s.heap.get? c = some y → c ≠ s.heap.objs.size := fun c y e => Nat.ne_of_lt (Heap.lt_size e)
  have la : a < s.heap.objs.size := let ⟨_, e, _⟩ := ha; Heap.lt_size e
  have lb : b < s.heap.objs.size := let ⟨_, e, _⟩ := hb; Heap.lt_size e
  refine ⟨⟨_, hS, rfl⟩, PySem.F.args_list_init_2 _ _, ?_⟩
  generalize hSz : s.heap.objs.size = S at *
  have tyz : ∃ y, s.heap.get? z = some y ∧ y.cls = .type "zip" := by
    rcases st.2.2.2 with ⟨x, _⟩ | ⟨_, _, _, x, _, _⟩
    · exact ⟨_, x, rfl⟩
    · exact ⟨_, x, rfl⟩
  have nzS : z ≠ S := Nat.ne_of_lt lz
  -- from a heap with the empty list at S and all else kept, the loop
  have go : ∀ (R : Result → Shared → Prop) (_ : ∀ t, Q (.ref S) t → R (.ok (.ret .none)) t) (h : Heap) (c tk : Nat), (∀ b o, b ≠ S → s.heap.get? b = some o → h.get? b = some o) → h.get? S = some { cls := .type "list", data := .seq #[] c } → h.objs.size = S + 1 →
      codeAny (model prog w) A.in1 (.builtin "list.extend.loop" ⟨[.ref S, .ref z, .none], []⟩) R { s with heap := h, toks := tk } := by
    intro R hR h c tk k hS' hz
    refine zloop (A := A.in1) (h0 := s.heap) (lo := S + 1) (n := n) hh D (Nat.lt_succ_self _) (Nat.lt_succ_of_lt lz) (Nat.lt_succ_of_lt lI) (Nat.lt_succ_of_lt lO) (Nat.lt_succ_of_lt l1) (Nat.lt_succ_of_lt l2) nzS (Nat.ne_of_lt lI) (Nat.ne_of_lt lO) (Nat.ne_of_lt l1) (Nat.ne_of_lt l2)
      (Nat.ne_of_lt la) (Nat.ne_of_lt lb) D.l1TO D.l2TO lu lv end_ hn .none (fun h' tk' acc c' as e hS2 hl got hacc => hR _ (q h' tk' acc c' as (fun b o h3 h4 h5 h6 x => e b o ?_ ?_ h3 h4 h5 h6 x) hS2 hl got hacc))
      n 0 h tk c #[] [] (Nat.sub_zero _) (Nat.zero_le _) (by rw [hz]; exact Nat.le_refl _) (st.keep k (Nat.lt_succ_self _) nzS (Nat.ne_of_lt lI) (Nat.ne_of_lt lO) (Nat.ne_of_lt l1) (Nat.ne_of_lt l2)) (ha.at fun o x => k a o (Nat.ne_of_lt la) x) (hb.at fun o x => k b o (Nat.ne_of_lt lb) x)
      (fun b o _ h2 _ _ _ _ x => k b o h2 x) hS' rfl rfl ⟨List.nodup_nil, fun j T t => by simp at t⟩
    · have := Heap.lt_size x
      rw [hSz] at this
      exact Nat.lt_succ_of_lt this
    · exact old b o x
  show wpAny _ _ (do let old ← Builtin.List.listItems (.ref S); Builtin.List.listUpdate (.ref S) (fun _ => #[]); letGo old.toList.reverse; Builtin.List.listExtendWith (.ref S) (.ref z) .none) _ _ _
  refine wpAny_bind ?_
  unfold Builtin.List.listItems
  refine wpAny_bind (wpAny_seqItems hS rfl (wpAny_pure ?_))
  show wpAny _ _ (updateSeq S (fun _ => #[]) >>= fun _ => letGo (#[] : Array Value).toList.reverse >>= fun _ => Builtin.List.listExtendWith (.ref S) (.ref z) .none) _ _ _
  refine wpAny_bind (wpAny_updateSeq hS rfl ?_)
  have hS2 := Heap.get?_update_self (Obj.mapSeq (fun _ => (#[] : Array Value))) hS rfl
  have oth : ∀ b o, b ≠ S → s.heap.get? b = some o → ((s.heap.push { cls := .type "list", data := .seq #[] }).update S (Obj.mapSeq (fun _ => (#[] : Array Value)))).get? b = some o := fun b o hb e =>
    (Heap.get?_update_other _ _ (Ne.symm hb)).trans (Heap.get?_push_of_some _ e)
  refine wpAny_bind (wpAny_letGo ?_)
  unfold Builtin.List.listExtendWith
  obtain ⟨oz, hoz, tz⟩ := tyz
  have hoz2 := oth z oz nzS hoz
  refine wpAny_bind (wpAny_typeOf (T := "zip") ⟨oz, hoz2, tz⟩ ?_)
  have e1 : Builtin.List.listSameRef (.ref S) (.ref z) = false := by simp [Builtin.List.listSameRef, nzS.symm]
  have e2 : (Value.type "zip" == Value.type "list") = false := by decide
  have e3 : (Value.type "zip" == Value.type "tuple") = false := by decide
  simp only [e1, e2, e3, Bool.or_false, Bool.false_eq_true, if_false]
  have iter : ∀ {A' : Around} {E' : Value → Shared → Prop} {R' : Value → Shared → Prop} {t : Shared}, (∀ b o, b ≠ S → s.heap.get? b = some o → t.heap.get? b = some o) → R' (.ref z) t → wpAny (model prog w) A' (pyIter (.ref z)) R' E' t := fun k r => by
    rcases st.2.2.2 with ⟨x, _⟩ | ⟨T, f, o, x, _, _⟩
    · exact wpAny_pyIter_zip (k _ _ nzS x) r
    · have hT : Shared.TypeIs _ (.ref z) "zip" := ⟨_, k _ _ nzS x, rfl⟩
      refine wpAny_pyIter_slot hT F.slot_zip_iter (wpAny_call_entry F.slot_zip_iter hT F.entry_zip_iter ?_ (F.args_zip_iter_1 _))
      exact wpAny_pure ⟨_, rfl, "zip", _, hT, F.slot_zip_next.lookup, r⟩
  refine wpAny_bind (iter oth ?_)
  refine wpAny_bind (wpAny_holding (hintZ ⟨oz, hoz2, tz⟩ ?_))
  refine wpAny_ite_split (fun _ => ?_) (fun c => absurd rfl c)
  refine wpAny_bind (wpAny_rule ?_)
  refine wpAny_bind ?_
  show wpAny _ _ (updateSeq S (·.push .none) >>= fun _ => updateSeq S (·.pop)) _ _ _
  refine wpAny_bind (wpAny_updateSeq hS2 rfl ?_)
  have hS3 := Heap.get?_update_self (Obj.mapSeq (·.push Value.none)) hS2 rfl
  refine wpAny_updateSeq (hz := by seq_fits) hS3 rfl ?_
  have hS4 := Heap.get?_update_self (Obj.mapSeq (·.pop)) hS3 rfl
  refine wpAny_pure ⟨plainId_quiet PySem.F.plain_extend_loop _, go _ (fun t x => ⟨rfl, x⟩) _ _ _ (fun b o hb e => ?_) hS4 ?_⟩
  · exact (Heap.get?_update_other _ _ (Ne.symm hb)).trans ((Heap.get?_update_other _ _ (Ne.symm hb)).trans (oth b o hb e))
  · rw [Heap.size_update, Heap.size_update, Heap.size_update, Heap.size_push, hSz]
end
section
variable {X : Cx} {pins : List (Addr × Obj)} {σ : L2.St} {H H' : Hp} {s : Shared} {h' : Heap}
/-- several new things laid at once -/
theorem inv_many {t' : Nat} (I : Inv X pins σ H s) (k : ∀ b u, s.heap.get? b = some u → h'.get? b = some u) (same : ∀ b o, H b = some o → H' b = some o) (new : ∀ b o, H' b = some o → H b = none → s.heap.objs.size ≤ b ∧ ObjOk X.prog X.w H' h' b o) :
    Inv X pins σ H' { s with heap := h', toks := t' } := by
  refine I.un ⟨fun b u q _ _ _ => k b u q, fun b u q _ _ _ => ⟨u.slots, k b u q⟩, fun b u q n _ => ?_, fun b u q _ => ⟨u, k b u q⟩, fun b xs q => same _ _ q, fun b u xs q => same _ _ q, fun b ps q => ⟨#[], by rw [same _ _ q]; simp⟩⟩ fun b u e => ?_
  · cases hb : H' b with
    | none => rfl
    | some o => exact absurd (Heap.lt_size q) (Nat.not_lt.mpr (new b o hb n).1)
  · cases hb : H b with
    | none => exact (new b u e hb).2
    | some o =>
      have e2 := (same b o hb).symm.trans e
      cases e2
      exact (I.hok b u hb).stay (fun c v _ q => k c v q) (fun c q => same _ _ q) fun c xs q => same _ _ q
theorem refs_vals : ∀ as : List Addr, Vals (as.map V.ref) (as.map Value.ref)
  | [] => .nil
  | _ :: r => .cons rfl (refs_vals r)
/-- the pair that stands at an address -/
def zlook : List Addr → List V → List V → Addr → Option (V × V)
  | T :: Ts, x :: xs, y :: ys, b => if b = T then some (x, y) else zlook Ts xs ys b
  | _, _, _, _ => none
theorem zlook_some {b : Addr} {x y : V} : ∀ {Ts : List Addr} {xs ys : List V}, zlook Ts xs ys b = some (x, y) → ∃ j : Nat, Ts[j]? = some b ∧ xs[j]? = some x ∧ ys[j]? = some y
  | [], _, _, h => by simp [zlook] at h
  | _ :: _, [], _, h => by simp [zlook] at h
  | _ :: _, _ :: _, [], h => by simp [zlook] at h
  | T :: Ts, x' :: xs, y' :: ys, h => by
    unfold zlook at h
    by_cases e : b = T
    · rw [if_pos e] at h
      cases h
      exact ⟨0, by rw [e]; rfl, rfl, rfl⟩
    · rw [if_neg e] at h
      obtain ⟨j, h1, h2, h3⟩ := zlook_some h
      exact ⟨j + 1, by simpa using h1, by simpa using h2, by simpa using h3⟩
theorem zlook_at {b : Addr} {x y : V} : ∀ {Ts : List Addr} {xs ys : List V} {j : Nat}, Ts.Nodup → Ts[j]? = some b → xs[j]? = some x → ys[j]? = some y → zlook Ts xs ys b = some (x, y)
  | [], _, _, _, _, h, _, _ => by simp at h
  | _ :: _, [], _, _, _, _, h, _ => by simp at h
  | _ :: _, _ :: _, [], _, _, _, _, h => by simp at h
  | T :: Ts, x' :: xs, y' :: ys, 0, n, h1, h2, h3 => by
    simp at h1 h2 h3
    subst h1 h2 h3
    unfold zlook
    rw [if_pos rfl]
  | T :: Ts, x' :: xs, y' :: ys, j + 1, n, h1, h2, h3 => by
    obtain ⟨n1, n2⟩ := List.nodup_cons.mp n
    have h1' : Ts[j]? = some b := by simpa using h1
    unfold zlook
    rw [if_neg fun (e : b = T) => n1 (e ▸ List.mem_of_getElem? h1')]
    exact zlook_at n2 h1' (by simpa using h2) (by simpa using h3)
/-- the pairs of two rows stand at these addresses -/
def PairsAt (H : Hp) (Ts : List Addr) (xs ys : List V) : Prop := Ts.length = min xs.length ys.length ∧ ∀ (j : Nat) (T : Addr) (x y : V), Ts[j]? = some T → xs[j]? = some x → ys[j]? = some y → H T = some (.tup [x, y])
def tListZip (K : PySem.W.Frag) (ta : TA) : TE := fun σ H Q => ta σ H fun vs H1 => ∃ (a b : Addr) (xs ys : List V), vs = [.ref a, .ref b] ∧ SqT K H1 a xs ∧ SqT K H1 b ys ∧
  ∀ (p : Addr) (Ts : List Addr) (H2 : Hp), H1 p = none → Same H1 H2 → H2 p = some (.lst (Ts.map V.ref)) → PairsAt H2 Ts xs ys → Q (.ref p) H2
theorem pe_listZip {e e2 : Expr} {ta : TA} {p p2 q pos : Pos} (gl : Gl X "list") (ml : X.mg "list" = none) (gz : Gl X "zip") (mz : X.mg "zip" = none) (ha : PA X [e, e2] ta) (hc : X.calm = true := by rfl)
    (hs : starEach [e, e2] X.env = (false, eval e X.env) :: starEach [e2] X.env := by rfl) (hpl : (backTo q (starEach [e2] X.env)).any (·.1) = false := by rfl) :
    PE X (.Call (.Name "list" p) [.Call (.Name "zip" p2) [e, e2] [] q] [] pos) (tListZip X.K ta) := by
  refine ⟨fun pins s σ H Q I h => Call_ (ld_blt I gl ml boot_list (PyProof.Rows.callWith_type1 (PyProof.Rows.args_cons (Call_ (ld_blt I gz mz PyProof.Rows.boot_zip (PyProof.Rows.callWith_type1 (thn (ha.run q pins s σ H _ I h) fun us s1 ⟨vs, H1, I1, r1, q1⟩ => ?_) hs hpl))) rfl) rfl rfl))⟩
  obtain ⟨a, b, xs, ys, rfl, hx, hy, q1⟩ := q1
  cases r1 with
  | cons r rr =>
  cases rr with
  | cons r' rr =>
  cases rr
  cases r
  cases r'
  obtain ⟨its, rv, t1, _⟩ := I1.tuple hx
  obtain ⟨its2, rv2, t2, _⟩ := I1.tuple hy
  have l1 := rv.length
  have l2 := rv2.length
  have zx := (I1.tuple hx).choose_spec.2.2
  obtain ⟨o1, ho1, _⟩ := id t1
  obtain ⟨o2, ho2, _⟩ := id t2
  refine RZ.call_zipT (show s1.heap.IsTuple a its.toArray from t1) (show s1.heap.IsTuple b its2.toArray from t2) fun h' hz hTI hTO h1 h2 hsz hk => PyProof.Rows.args_nil ?_
  have t1' : h'.IsTuple a its.toArray := Heap.IsTuple.at (show s1.heap.IsTuple a its.toArray from t1) fun o q => hk _ _ q
  have t2' : h'.IsTuple b its2.toArray := Heap.IsTuple.at (show s1.heap.IsTuple b its2.toArray from t2) fun o q => hk _ _ q
  have above : ∀ k, k < 5 → s1.heap.objs.size + k < h'.objs.size := fun k hk => by rw [hsz]; omega
  refine call_listZ (s := { s1 with heap := h' }) (n := min xs.length ys.length) (us := its.toArray) (vs := its2.toArray) (I1.ok.hd hc) (PySem.W.ktu_apart s1.heap.objs.size a b (Heap.lt_size ho1) (Heap.lt_size ho2)) (above 4 (by decide)) (above 2 (by decide)) (above 3 (by decide)) (above 0 (by decide)) (above 1 (by decide))
    ⟨hTI, h1, h2, .inl ⟨hz, _, _, hTO⟩⟩ t1' t2' (by rw [List.size_toArray, ← l1]; exact Nat.min_le_left _ _) (by rw [List.size_toArray, ← l2]; exact Nat.min_le_right _ _)
    (by rw [List.size_toArray, List.size_toArray, ← l1, ← l2]; omega) (by omega) fun h3 tk acc c as k3 hS hl got hacc => ?_
  dsimp only at hS got k3
  have kept : ∀ (b : Addr) (u : Obj), s1.heap.get? b = some u → h3.get? b = some u := fun b u q => by
    have lt := Heap.lt_size q
    exact k3 b u (Nat.ne_of_lt (Nat.lt_of_lt_of_le lt (Nat.le_add_right _ 4))) (Nat.ne_of_lt (Nat.lt_of_lt_of_le lt (Nat.le_add_right _ 3))) (Nat.ne_of_lt lt) (Nat.ne_of_lt (Nat.lt_of_lt_of_le lt (Nat.le_add_right _ 1))) (hk _ _ q)
  have low : s1.heap.objs.size ≤ h'.objs.size := by rw [hsz]; exact Nat.le_add_right _ _
  have hp0 : H1 h'.objs.size = none := I1.hok.fresh low
  have inAs : ∀ {T : Addr}, T ∈ as → h'.objs.size + 1 ≤ T := fun ht => by
    obtain ⟨j, hj⟩ := List.mem_iff_getElem?.mp ht
    exact (got.2 j _ hj).1
  have get_x : ∀ {j : Nat} {T : Addr}, as[j]? = some T → ∃ x y u v, xs[j]? = some x ∧ ys[j]? = some y ∧ RelV x u ∧ RelV y v ∧ IsPair h3 T u v := fun {j T} hj => by
    obtain ⟨_, u, v, hu, hv, hpr⟩ := got.2 j T hj
    have hjx : j < xs.length := by rw [l1]; have := (Array.getElem?_eq_some_iff.mp hu).1; simpa using this
    have hjy : j < ys.length := by rw [l2]; have := (Array.getElem?_eq_some_iff.mp hv).1; simpa using this
    obtain ⟨u', e1, ru⟩ := rv.get (List.getElem?_eq_getElem hjx)
    obtain ⟨v', e2, rv'⟩ := rv2.get (List.getElem?_eq_getElem hjy)
    have e1' : u' = u := by rw [List.getElem?_toArray] at hu; exact Option.some.inj (e1.symm.trans hu)
    have e2' : v' = v := by rw [List.getElem?_toArray] at hv; exact Option.some.inj (e2.symm.trans hv)
    subst e1' e2'
    exact ⟨_, _, _, _, List.getElem?_eq_getElem hjx, List.getElem?_eq_getElem hjy, ru, rv', hpr⟩
  let H2 : Hp := fun b => if b = h'.objs.size then some (.lst (as.map V.ref)) else match zlook as xs ys b with | some (x, y) => some (.tup [x, y]) | none => H1 b
  have zl0 : ∀ b o, H1 b = some o → zlook as xs ys b = none := fun b o hb => by
    cases hz : zlook as xs ys b with
    | none => rfl
    | some r =>
      obtain ⟨x, y⟩ := r
      obtain ⟨j, hj, _, _⟩ := zlook_some hz
      have l := inAs (List.mem_of_getElem? hj)
      have := I1.hok.fresh (a := b) (Nat.le_trans low (Nat.le_of_succ_le l))
      rw [hb] at this; cases this
  have same : ∀ b o, H1 b = some o → H2 b = some o := fun b o hb => by
    show (if b = h'.objs.size then _ else _) = _
    rw [if_neg (ne_of_none hb hp0), zl0 b o hb]
    exact hb
  have I2 : Inv X pins σ H2 { s1 with heap := h3, toks := tk } := inv_many I1 kept same fun b o hb hn => by
    by_cases e : b = h'.objs.size
    · subst e
      have e2 : some (HO.lst (as.map V.ref)) = some o := by rw [← hb]; exact (if_pos rfl).symm
      cases e2
      refine ⟨low, by rw [List.length_map, hl]; omega, acc.toList, c, ?_, by rw [Array.toArray_toList]; exact hS⟩
      rw [hacc]
      exact refs_vals as
    · have hb2 : (match zlook as xs ys b with | some (x, y) => some (HO.tup [x, y]) | none => H1 b) = some o := by rw [← hb]; exact (if_neg e).symm
      cases hz : zlook as xs ys b with
      | none => rw [hz] at hb2; exact absurd (hn.symm.trans hb2) (by intro z; cases z)
      | some r =>
        obtain ⟨x, y⟩ := r
        rw [hz] at hb2
        cases hb2
        obtain ⟨j, hj, hxj, hyj⟩ := zlook_some hz
        obtain ⟨x', y', u, v, g1, g2, g3, g4, g5⟩ := get_x hj
        cases hxj.symm.trans g1
        cases hyj.symm.trans g2
        exact ⟨Nat.le_trans low (Nat.le_of_succ_le (inAs (List.mem_of_getElem? hj))), by show 2 ≤ sizeLine; decide, [u, v], .cons g3 (.cons g4 .nil), ⟨_, g5, rfl, _, rfl⟩⟩
  refine ⟨.ref h'.objs.size, H2, I2, rfl, q1 h'.objs.size as H2 hp0 same (if_pos rfl) ⟨hl, fun j T x y hj hx' hy' => ?_⟩⟩
  have hT : T ≠ h'.objs.size := Nat.ne_of_gt (inAs (List.mem_of_getElem? hj))
  show (if T = h'.objs.size then _ else _) = _
  rw [if_neg hT, zlook_at got.1 hj hx' hy']
end
end Cr
namespace Cf
open PySem L2
mutual
def Tm.size : Tm → Nat
  | .var _ => 1
  | .node _ ps => 1 + Tm.sizes ps
def Tm.sizes : List Tm → Nat
  | [] => 0
  | t :: ts => t.size + Tm.sizes ts
end
mutual
def Tm.high : Tm → Nat
  | .var _ => 1
  | .node _ ps => 1 + Tm.highs ps
def Tm.highs : List Tm → Nat
  | [] => 0
  | t :: ts => max t.high (Tm.highs ts)
end
mutual
def Tm.occ : Tm → List Int
  | .var n => [n]
  | .node _ ps => Tm.occs ps
def Tm.occs : List Tm → List Int
  | [] => []
  | t :: ts => t.occ ++ Tm.occs ts
end
theorem Tm.size_pos (t : Tm) : 0 < t.size := by
  cases t with
  | var n => exact Nat.succ_pos 0
  | node w ps => show 0 < 1 + Tm.sizes ps; omega
theorem Tm.high_pos (t : Tm) : 0 < t.high := by
  cases t with
  | var n => exact Nat.succ_pos 0
  | node w ps => show 0 < 1 + Tm.highs ps; omega
theorem Tm.sizes_append : ∀ (ts rs : List Tm), Tm.sizes (ts ++ rs) = Tm.sizes ts + Tm.sizes rs
  | [], rs => by show Tm.sizes rs = 0 + Tm.sizes rs; omega
  | t :: ts, rs => by
    show t.size + Tm.sizes (ts ++ rs) = t.size + Tm.sizes ts + Tm.sizes rs
    rw [Tm.sizes_append ts rs]; omega
theorem Tm.sizes_rev : ∀ ts : List Tm, Tm.sizes ts.reverse = Tm.sizes ts
  | [] => rfl
  | t :: ts => by
    rw [List.reverse_cons, Tm.sizes_append, Tm.sizes_rev ts]
    show Tm.sizes ts + (t.size + 0) = t.size + Tm.sizes ts
    omega
theorem Tm.sizes_len : ∀ ts : List Tm, ts.length ≤ Tm.sizes ts
  | [] => Nat.le_refl _
  | t :: ts => by
    have h := t.size_pos
    have ih := Tm.sizes_len ts
    show ts.length + 1 ≤ t.size + Tm.sizes ts
    omega
theorem Tm.occs_append : ∀ (ts rs : List Tm), Tm.occs (ts ++ rs) = Tm.occs ts ++ Tm.occs rs
  | [], rs => rfl
  | t :: ts, rs => by
    show t.occ ++ Tm.occs (ts ++ rs) = (t.occ ++ Tm.occs ts) ++ Tm.occs rs
    rw [Tm.occs_append ts rs, List.append_assoc]
mutual
theorem Tm.occ_len : ∀ t : Tm, t.occ.length ≤ t.size
  | .var n => Nat.le_refl _
  | .node w ps => by
    have h := Tm.occs_len ps
    show (Tm.occs ps).length ≤ 1 + Tm.sizes ps
    omega
theorem Tm.occs_len : ∀ ts : List Tm, (Tm.occs ts).length ≤ Tm.sizes ts
  | [] => Nat.le_refl _
  | t :: ts => by
    have h := Tm.occ_len t
    have h2 := Tm.occs_len ts
    show (t.occ ++ Tm.occs ts).length ≤ t.size + Tm.sizes ts
    rw [List.length_append]
    omega
end
theorem TmsAt.last {H : Hp} : ∀ {us : List V} {v : V} {ts : List Tm}, TmsAt H (us ++ [v]) ts → ∃ rs t, ts = rs ++ [t] ∧ TmsAt H us rs ∧ TmAt H v t
  | [], v, _, h => by
    cases h with
    | cons h1 h2 => cases h2; exact ⟨[], _, rfl, .nil, h1⟩
  | u :: us, v, _, h => by
    cases h with
    | cons h1 h2 =>
      obtain ⟨rs, t, rfl, a, b⟩ := TmsAt.last h2
      exact ⟨_ :: rs, t, rfl, .cons h1 a, b⟩
theorem TmsAt.rev {H : Hp} : ∀ {vs : List V} {ts : List Tm}, TmsAt H vs ts → TmsAt H vs.reverse ts.reverse
  | [], _, h => by cases h; exact .nil
  | v :: vs, _, h => by
    cases h with
    | cons h1 h2 =>
      rw [List.reverse_cons, List.reverse_cons]
      exact (TmsAt.rev h2).snoc h1
theorem cut1 (x : V) (vs : List V) : cutV (x :: vs) (some 1) none = vs := by
  unfold cutV
  have e : HT.sIx (x :: vs).length 0 (some 1) = 1 := by
    show (if (1 : Int) < 0 then ((1 : Int) + ((vs.length + 1 : Nat) : Int)).toNat else min (1 : Int).toNat (vs.length + 1)) = 1
    rw [if_neg (by decide)]
    show min 1 (vs.length + 1) = 1
    omega
  rw [e, HT.sIx_none]
  show vs.take (vs.length + 1 - 1) = vs
  rw [Nat.add_sub_cancel, List.take_length]
theorem notWhole (x : V) (vs : List V) : ¬ (HT.sIx (x :: vs).length 0 (some 1) = 0 ∧ HT.sIx (x :: vs).length (x :: vs).length none = (x :: vs).length) := by
  intro h
  have e : HT.sIx (x :: vs).length 0 (some 1) = 1 := by
    show (if (1 : Int) < 0 then ((1 : Int) + ((vs.length + 1 : Nat) : Int)).toNat else min (1 : Int).toNat (vs.length + 1)) = 1
    rw [if_neg (by decide)]
    show min 1 (vs.length + 1) = 1
    omega
  omega
theorem pop_at (us : List V) (v : V) : (us ++ [v])[(us ++ [v]).length - 1]? = some v := by
  rw [List.length_append]
  show (us ++ [v])[us.length + 1 - 1]? = some v
  rw [Nat.add_sub_cancel, List.getElem?_append_right (Nat.le_refl _), Nat.sub_self]
  rfl
theorem last_cases (vs : List V) : vs = [] ∨ ∃ us v, vs = us ++ [v] := by
  rcases List.eq_nil_or_concat vs with h | ⟨us, v, h⟩
  · exact .inl h
  · exact .inr ⟨us, v, by rw [h, List.concat_eq_append]⟩
def spSize : Sp := fun vs H Q _ => ∃ (v : V) (t : Tm), vs = [v] ∧ TmAt H v t ∧ t.size ≤ 1000 ∧ ∀ H', Same H H' → Q (nV t.size) H'
section
variable {P : Program} {w : World} {K : PySem.W.Frag} {mg : Str → Option Value} {base : Heap}
end
end Cf
namespace Cf
open PySem L2
/-- the different ones, in the order in which they come first -/
def addNew (acc : List Int) (n : Int) : List Int := if n ∈ acc then acc else acc ++ [n]
def firsts (ns : List Int) : List Int := ns.foldl addNew []
theorem firsts_take {ns : List Int} {i : Nat} {n : Int} (h : ns[i]? = some n) : firsts (ns.take (i + 1)) = addNew (firsts (ns.take i)) n := by
  unfold firsts
  rw [List.take_add_one, h, List.foldl_append]
  rfl
theorem addNew_len (acc : List Int) (n : Int) : (addNew acc n).length ≤ acc.length + 1 := by
  unfold addNew
  split
  · exact Nat.le_succ _
  · rw [List.length_append]; exact Nat.le_refl _
theorem firsts_len (ns : List Int) : (firsts ns).length ≤ ns.length := by
  have h : ∀ (ns acc : List Int), (ns.foldl addNew acc).length ≤ acc.length + ns.length := by
    intro ns
    induction ns with
    | nil => intro acc; exact Nat.le_refl _
    | cons n r ih =>
      intro acc
      have h1 := ih (addNew acc n)
      have h2 := addNew_len acc n
      show (r.foldl addNew (addNew acc n)).length ≤ acc.length + (r.length + 1)
      omega
  have e := h ns []
  rw [List.length_nil, Nat.zero_add] at e
  exact e
theorem keys_new {kvs : List (Key × V)} {acc : List Int} (h : kvs.map (·.1) = acc.map Sum.inl) (n : Int) (v : V) : (putK kvs (Sum.inl n : Key) v).map (·.1) = (addNew acc n).map Sum.inl := by
  unfold putK addNew
  by_cases hn : n ∈ acc
  · have e : (kvs.any fun kv => decide (kv.1 = (Sum.inl n : Key))) = true := by
      have hm : (Sum.inl n : Key) ∈ kvs.map (·.1) := by rw [h]; exact List.mem_map.mpr ⟨n, hn, rfl⟩
      obtain ⟨kv, h1, h2⟩ := List.mem_map.mp hm
      exact List.any_eq_true.mpr ⟨kv, h1, decide_eq_true h2⟩
    rw [if_pos e, if_pos hn, List.map_map, ← h]
    refine List.map_congr_left fun kv _ => ?_
    show (if kv.1 = (Sum.inl n : Key) then (kv.1, v) else kv).1 = kv.1
    split <;> rfl
  · have e : ¬ (kvs.any fun kv => decide (kv.1 = (Sum.inl n : Key))) = true := fun z => by
      obtain ⟨kv, h1, h2⟩ := List.any_eq_true.mp z
      have hm : (Sum.inl n : Key) ∈ acc.map Sum.inl := by rw [← h]; exact List.mem_map.mpr ⟨kv, h1, of_decide_eq_true h2⟩
      obtain ⟨m, h3, h4⟩ := List.mem_map.mp hm
      cases h4
      exact hn h3
    rw [if_neg e, if_neg hn, List.map_append, List.map_append, h]
    rfl
def spOcc : Sp := fun vs H Q _ => ∃ (p : Addr) (us : List V) (ts : List Tm), vs = [.ref p] ∧ H p = some (.tup us) ∧ TmsAt H us ts ∧ Tm.sizes ts ≤ 1000 ∧
  ∀ (q : Addr) (H' : Hp), H q = none → H' q = some (.lst ((Tm.occs ts).map V.int)) → Same H H' → Q (.ref q) H'
def spVarsIn : Sp := fun vs H Q _ => ∃ (p : Addr) (us : List V) (ts : List Tm), vs = [.ref p] ∧ H p = some (.tup us) ∧ TmsAt H us ts ∧ Tm.sizes ts ≤ 1000 ∧
  ∀ (q : Addr) (H' : Hp), H q = none → H' q = some (.lst ((firsts (Tm.occs ts)).map V.int)) → Same H H' → Q (.ref q) H'
def spVars : Sp := fun vs H Q _ => ∃ (v : V) (t : Tm), vs = [v] ∧ TmAt H v t ∧ t.size ≤ 1000 ∧
  ∀ (q : Addr) (H' : Hp), H q = none → H' q = some (.lst ((firsts t.occ).map V.int)) → Same H H' → Q (.ref q) H'
def spLinear : Sp := fun vs H Q _ => ∃ (v : V) (t : Tm), vs = [v] ∧ TmAt H v t ∧ t.size ≤ 1000 ∧
  ∀ H', Same H H' → Q (.bl (decide (Cr.many t.occ = t.occ.length))) H'
section
variable {P : Program} {w : World} {K : PySem.W.Frag} {mg : Str → Option Value} {base : Heap}
end
end Cf
namespace Cf
open PySem L2
abbrev sLOcc : Stmt := top 13
abbrev sUnlike : Stmt := top 14
theorem Tm.occs_take {ps : List Tm} {i : Nat} {t : Tm} (h : ps[i]? = some t) : Tm.occs (ps.take (i + 1)) = Tm.occs (ps.take i) ++ t.occ := by
  rw [List.take_add_one, h, Tm.occs_append]
  show _ ++ (t.occ ++ []) = _
  rw [List.append_nil]
theorem Tm.size_mem : ∀ {ps : List Tm} {t : Tm}, t ∈ ps → t.size ≤ Tm.sizes ps
  | p :: ps, t, h => by
    show t.size ≤ p.size + Tm.sizes ps
    rcases List.mem_cons.mp h with rfl | h
    · omega
    · have := Tm.size_mem h; omega
theorem Tm.high_mem : ∀ {ps : List Tm} {t : Tm}, t ∈ ps → t.high ≤ Tm.highs ps
  | p :: ps, t, h => by
    show t.high ≤ max p.high (Tm.highs ps)
    rcases List.mem_cons.mp h with rfl | h
    · omega
    · have := Tm.high_mem h; omega
theorem sum_sizes : ∀ ps : List Tm, (ps.map fun p => (p.size : Int)).sum = ((Tm.sizes ps : Nat) : Int)
  | [] => rfl
  | p :: ps => by
    rw [List.map_cons, List.sum_cons, sum_sizes ps]
    show (p.size : Int) + ((Tm.sizes ps : Nat) : Int) = ((p.size + Tm.sizes ps : Nat) : Int)
    omega
theorem max_highs {ps : List Tm} {m : Int} (h : m ∈ ps.map fun p => (p.high : Int)) (g : ∀ y ∈ ps.map (fun p => (p.high : Int)), y ≤ m) : m = ((Tm.highs ps : Nat) : Int) := by
  obtain ⟨t, ht, rfl⟩ := List.mem_map.mp h
  have h1 := Tm.high_mem ht
  have h2 : ∀ (qs : List Tm), (∀ x ∈ qs, (x.high : Int) ≤ (t.high : Int)) → Tm.highs qs ≤ t.high := by
    intro qs
    induction qs with
    | nil => intro _; exact Nat.zero_le _
    | cons q r ih =>
      intro z
      have a := z q List.mem_cons_self
      have b := ih fun x hx => z x (List.mem_cons_of_mem _ hx)
      show max q.high (Tm.highs r) ≤ t.high
      omega
  have h3 := h2 ps fun x hx => g _ (List.mem_map.mpr ⟨x, hx, rfl⟩)
  omega
theorem inV_int (n : Int) (ns : List Int) : inV (.int n) (ns.map V.int) = decide (n ∈ ns) := by
  unfold inV
  induction ns with
  | nil => rfl
  | cons m r ih =>
    rw [List.map_cons, List.any_cons, ih]
    show ((m == n) || decide (n ∈ r)) = decide (n ∈ m :: r)
    by_cases e : n = m
    · subst e; simp
    · have e' : ¬ m = n := fun z => e z.symm
      simp [e, e']
theorem flat_int (ns : List Int) : (ns.map V.int).all flatV = true := by simp [flatV]
def spLOcc (n : Nat) : Sp := fun vs H Q _ => ∃ (v : V) (t : Tm), vs = [v] ∧ TmAt H v t ∧ t.high ≤ n ∧ t.size ≤ 1000 ∧ ∀ (q : Addr) (H' : Hp), H q = none → H' q = some (.lst (t.occ.map V.int)) → Same H H' → Q (.ref q) H'
def spUnlike (K : PySem.W.Frag) : Sp := fun vs H Q _ => ∃ (p : Addr) (ns : List Int), vs = [.ref p] ∧ SqL K H p (ns.map V.int) ∧ ns.length ≤ 1000 ∧ ∀ (q : Addr) (H' : Hp), H q = none → H' q = some (.lst ((firsts ns).map V.int)) → Same H H' → Q (.ref q) H'
def spLSize (n : Nat) : Sp := fun vs H Q _ => ∃ (v : V) (t : Tm), vs = [v] ∧ TmAt H v t ∧ t.high ≤ n ∧ t.size ≤ 1000 ∧ ∀ H', Same H H' → Q (nV t.size) H'
def spLHeight (n : Nat) : Sp := fun vs H Q _ => ∃ (v : V) (t : Tm), vs = [v] ∧ TmAt H v t ∧ t.high ≤ n ∧ t.size ≤ 1000 ∧ ∀ H', Same H H' → Q (nV t.high) H'
theorem TmAt.name {H : Hp} {v : V} {t : Tm} (h : TmAt H v t) : TyN H v (match t with | .var _ => "int" | .node _ _ => "tuple") := by
  cases h with
  | var n => exact rfl
  | node h1 h2 => exact .inr (.inl ⟨rfl, _, h1⟩)
section
variable {P : Program} {w : World} {K : PySem.W.Frag} {mg : Str → Option Value} {base : Heap}
theorem scLOcc : FnScope ["term", "row", "part"] ["term"] (defScope sLOcc) := ⟨rfl, rfl, rfl, by decide +kernel, rfl, by decide +kernel, by decide +kernel⟩
theorem ok_lOcc1 {n : Nat} {f g : Addr} {fd gd : FuncData} (F : Fun K "_law_occurrences" "_law_occurrences" sLOcc f fd) (G : FnOk P w K mg base CX0 1 g gd ["actual"] spIsInt) (bG : Binds K gd ["actual"] [])
    (kG : PySem.W.keepIn K (.ref g) = true) (mG : mg "_law_is_integer" = some (.ref g)) (R : FnOk P w K mg base CX0 (n + 1) f fd ["term"] (spLOcc n)) (bR : Binds K fd ["term"] []) (mR : mg "_law_occurrences" = some (.ref f)) :
    FnOk P w K mg base CX0 (n + 2) f fd ["term"] (spLOcc (n + 1)) := by
  have kR := F.kp
  refine F.ok scLOcc (fun vs H Q E h => ?_) (fun cdv A outer s H vs Q E hr h => ?_)
  · obtain ⟨v, t, rfl, _⟩ := h
    rfl
  obtain ⟨v, t, rfl, ht, hh, hz, q⟩ := h
  have nd := scLOcc.nd
  refine ⟨_, pss_cons (ps_if (pt_val (pe_call G (hr.mono (by omega)) rfl mG kG bG .nil pass0 (pa_cons (pv 0) pa_nil))) (pss_one (ps_ret (pe_lst (pa_cons (pv 0) pa_nil)))) pss_nil)
    (pss_cons (ps_set (i := 1) nd rfl (.inl rfl) (pe_lst pa_nil))
    (pss_cons (ps_for PassesOwn.never rfl (pi_tup (pe_slice sl_tup (pv 0) (po_some pe_int) po_none)) (pg_name (i := 2) nd rfl (.inl rfl))
      (pss_one (ps_set (i := 1) nd rfl (.inl rfl) (pe_op op_cat (pv 1) (pe_call R hr rfl mR kR bR .nil pass0 (pa_cons (pv 2) pa_nil))))))
    (pss_one (ps_ret (pv 1))))), ?_⟩
  cases ht with
  | var m =>
    refine ⟨_, rfl, _, "int", rfl, rfl, _, rfl, iteT ?_⟩
    exact ⟨_, rfl, (by show 1 ≤ sizeLine; decide), fun p np => q p _ np upd_same (same_new np _)⟩
  | @node z w vs ps h1 h2 =>
    refine ⟨_, rfl, _, "tuple", rfl, .inr (.inl ⟨rfl, _, h1⟩), _, rfl, iteF ?_⟩
    refine ⟨(by show 0 ≤ sizeLine; decide), fun r nr => ?_⟩
    have s1 := same_new nr (HO.lst [])
    refine ⟨_, rfl, 1, rfl, z, _, rfl, SqT.of (s1 _ _ h1), notWhole _ _, fun d nd' => ?_⟩
    rw [cut1]
    have s2 := s1.trans (same_new nd' (HO.tup vs))
    have e1 : Tm.high (.node w ps) = 1 + Tm.highs ps := rfl
    have e2 : Tm.size (.node w ps) = 1 + Tm.sizes ps := rfl
    have hol := Tm.occs_len ps
    have lv := h2.length
    refine ⟨d, rfl, ⟨_, SqT.of upd_same⟩, ?_⟩
    refine for_tup (xs := vs) (fun i σ H1 => ∃ (r : Addr) (pt : Option V), σ = [some (.ref z), some (.ref r), pt] ∧ H r = none ∧ H1 r = some (.lst ((Tm.occs (ps.take i)).map V.int)) ∧ Same H H1 ∧ H1 d = some (.tup vs))
      ⟨r, none, rfl, nr, by rw [upd_ne (ne_of_none upd_same nd')]; exact upd_same, s2, upd_same⟩ (fun i σ H1 _ hp => by obtain ⟨_, _, _, _, _, _, h⟩ := hp; exact SqT.of h) (fun i x σ H1 hx hp => ?_) (fun σ H1 hp => ?_)
    · obtain ⟨r1, pt, rfl, g0, g1, g2, g3⟩ := hp
      have hil : i < ps.length := by rw [← lv]; exact (List.getElem?_eq_some_iff.mp hx).1
      have hpi : ps[i]? = some ps[i] := List.getElem?_eq_getElem hil
      obtain ⟨c, hc1, hc2⟩ := h2.get hpi
      obtain rfl : x = c := Option.some.inj (hx.symm.trans hc1)
      have m1 := Tm.size_mem (List.getElem_mem hil)
      have m2 := Tm.high_mem (List.getElem_mem hil)
      refine ⟨_, rfl, _, rfl, x, ps[i], rfl, TmAt.keep (KeepT.of g2) _ _ hc2, by omega, by omega, fun o H2 no ho sm => ?_⟩
      have ol := Tm.occs_len (ps.take i)
      have hlen : ((Tm.occs (ps.take i)).map V.int).length + (ps[i].occ.map V.int).length ≤ sizeLine := by
        have h3 : Tm.occs ps = Tm.occs (ps.take (i + 1)) ++ Tm.occs (ps.drop (i + 1)) := by rw [← Tm.occs_append, List.take_append_drop]
        have h4 := congrArg List.length h3
        rw [Tm.occs_take hpi, List.length_append, List.length_append] at h4
        rw [List.length_map, List.length_map]
        exact Nat.le_of_lt (small1000 (by omega))
      refine ⟨r1, o, _, _, rfl, rfl, sm _ _ g1, ho, hlen, fun y ny => ?_⟩
      have s3 := g2.trans (sm.trans (same_new ny (HO.lst ((Tm.occs (ps.take i)).map V.int ++ ps[i].occ.map V.int))))
      refine ⟨y, some x, rfl, (g2.trans sm).free ny, ?_, s3, (sm.trans (same_new ny _)) _ _ g3⟩
      rw [upd_same, Tm.occs_take hpi, List.map_append]
    · obtain ⟨r1, pt, rfl, g0, g1, g2, g3⟩ := hp
      rw [lv, List.take_length] at g1
      exact ⟨_, rfl, q r1 H1 g0 g1 g2⟩
theorem ok_lOcc {f g : Addr} {fd gd : FuncData} (F : Fun K "_law_occurrences" "_law_occurrences" sLOcc f fd) (G : FnOk P w K mg base CX0 1 g gd ["actual"] spIsInt) (bG : Binds K gd ["actual"] [])
    (kG : PySem.W.keepIn K (.ref g) = true) (mG : mg "_law_is_integer" = some (.ref g)) (bR : Binds K fd ["term"] []) (mR : mg "_law_occurrences" = some (.ref f)) : ∀ n : Nat, FnOk P w K mg base CX0 (n + 1) f fd ["term"] (spLOcc n)
  | 0 => none_left fun vs H Q E h => by
    obtain ⟨v, t, _, _, h1, _⟩ := h
    have := t.high_pos
    omega
  | n + 1 => ok_lOcc1 F G bG kG mG (ok_lOcc F G bG kG mG bR mR n) bR mR
theorem scUnlike : FnScope ["row", "seen", "item"] ["row"] (defScope sUnlike) := ⟨rfl, rfl, rfl, by decide +kernel, rfl, by decide +kernel, by decide +kernel⟩
theorem ok_unlike {f : Addr} {fd : FuncData} (F : Fun K "_law_unlike" "_law_unlike" sUnlike f fd) : FnOk P w K mg base CX0 1 f fd ["row"] (spUnlike K) := by
  refine F.ok scUnlike (fun vs H Q E h => ?_) (fun cdv A outer s H vs Q E hr h => ?_)
  · obtain ⟨p, ns, rfl, _⟩ := h
    rfl
  obtain ⟨p, ns, rfl, hp, hl, q⟩ := h
  have nd := scUnlike.nd
  refine ⟨_, pss_cons (ps_set (i := 1) nd rfl (.inl rfl) (pe_lst pa_nil))
    (pss_cons (ps_for PassesOwn.never rfl (pi_list (pv 0)) (pg_name (i := 2) nd rfl (.inl rfl))
      (pss_one (ps_if (pt_cmpR op_notIn_seq (pv 2) (pv 1) (by rfl)) (pss_one (ps_expr (pe_bm PySem.F.plainAttrs_list PySem.F.slot_list_append PySem.F.type_list_append mt_append (pv 1) (pa_cons (pv 2) pa_nil)))) pss_nil)))
    (pss_one (ps_ret (pv 1)))), ?_⟩
  refine ⟨(by show 0 ≤ sizeLine; decide), fun r nr => ?_⟩
  have s1 := same_new nr (HO.lst [])
  refine ⟨_, rfl, p, rfl, ⟨_, s1.seq hp⟩, ?_⟩
  refine for_list (xs := ns.map V.int) (fun i σ H1 => ∃ (pt : Option V), σ = [some (.ref p), some (.ref r), pt] ∧ H1 r = some (.lst ((firsts (ns.take i)).map V.int)) ∧ Same H H1)
    ⟨none, rfl, upd_same, s1⟩ (fun i σ H1 _ hh => by obtain ⟨_, _, _, h⟩ := hh; exact h.seq hp) (fun i x σ H1 hx hh => ?_) (fun σ H1 hh => ?_)
  · obtain ⟨pt, rfl, g1, g2⟩ := hh
    rw [List.getElem?_map] at hx
    obtain ⟨m, hm, rfl⟩ := Option.map_eq_some_iff.mp hx
    refine ⟨_, rfl, _, rfl, r, _, rfl, .inl (SqL.of g1), rfl, flat_int _, _, rfl, ?_⟩
    show if (!inV (.int m) ((firsts (ns.take i)).map V.int)) = true then _ else _
    rw [inV_int]
    have fl := firsts_len (ns.take i)
    rw [List.length_take] at fl
    by_cases c : m ∈ firsts (ns.take i)
    · rw [decide_eq_true c]
      refine iteF ⟨some (.int m), rfl, ?_, g2⟩
      rw [g1, firsts_take hm]
      unfold addNew
      rw [if_pos c]
    · rw [decide_eq_false c]
      refine iteT ⟨_, rfl, .inl ⟨rfl, _, SqL.of g1⟩, _, rfl, r, _, _, rfl, rfl, g1, by rw [List.length_map]; exact small1000 (by omega), some (.int m), rfl, ?_, ?_⟩
      · rw [upd_same, firsts_take hm]
        unfold addNew
        rw [if_neg c, List.map_append]
        all_goals rfl
      · exact fun b u hb => by rw [upd_ne (ne_of_none hb nr)]; exact g2 _ _ hb
  · obtain ⟨pt, rfl, g1, g2⟩ := hh
    rw [List.length_map, List.take_length] at g1
    exact ⟨_, rfl, q r H1 nr g1 g2⟩
end
end Cf
namespace Cf
open PySem L2
theorem over_small {cs : List (Str × Nat)} {ns : List Int} (h : ∀ c ∈ cs, c.2 ≤ 2) : ∀ (d : Nat) (t : Tm), TmOver cs ns d t → t.size + 1 ≤ 2 ^ d ∧ t.high ≤ d
  | 0, _, o => o.elim
  | d + 1, .var n, _ => ⟨by show 1 + 1 ≤ 2 ^ (d + 1); have := Nat.pow_le_pow_right (n := 2) (by decide) (show 1 ≤ d + 1 by omega); omega, by show 1 ≤ d + 1; omega⟩
  | d + 1, .node w ps, o => by
    have h2 : ps.length ≤ 2 := h _ o.1
    have all : ∀ (qs : List Tm), (∀ p ∈ qs, TmOver cs ns d p) → Tm.sizes qs ≤ qs.length * (2 ^ d - 1) ∧ Tm.highs qs ≤ d := by
      intro qs
      induction qs with
      | nil => intro _; exact ⟨Nat.zero_le _, Nat.zero_le _⟩
      | cons p r ih =>
        intro z
        have a := over_small h d p (z p List.mem_cons_self)
        have b := ih fun x hx => z x (List.mem_cons_of_mem _ hx)
        refine ⟨?_, ?_⟩
        · show p.size + Tm.sizes r ≤ (r.length + 1) * (2 ^ d - 1)
          rw [Nat.succ_mul]
          omega
        · show max p.high (Tm.highs r) ≤ d
          omega
    have k := all ps o.2
    have k2 : ps.length * (2 ^ d - 1) ≤ 2 * (2 ^ d - 1) := Nat.mul_le_mul_right _ h2
    have k3 : 0 < 2 ^ d := Nat.pow_pos (by decide)
    refine ⟨?_, ?_⟩
    · show 1 + Tm.sizes ps + 1 ≤ 2 ^ (d + 1)
      rw [Nat.pow_succ]
      omega
    · show 1 + Tm.highs ps ≤ d + 1
      omega
theorem cutV_map (ns : List Int) (lo hi : Option Int) : ∃ ms : List Int, cutV (ns.map V.int) lo hi = ms.map V.int ∧ ms.length ≤ ns.length ∧ ∀ m ∈ ms, m ∈ ns := by
  refine ⟨(ns.drop (HT.sIx (ns.map V.int).length 0 lo)).take (HT.sIx (ns.map V.int).length (ns.map V.int).length hi - HT.sIx (ns.map V.int).length 0 lo), ?_, ?_, ?_⟩
  · unfold cutV
    rw [List.map_take, List.map_drop]
  · rw [List.length_take, List.length_drop]; omega
  · intro m hm
    exact List.mem_of_mem_drop (List.mem_of_mem_take hm)
end Cf
namespace Cf
open PySem L2
mutual
def Tm.sub (f : Int → Tm) : Tm → Tm
  | .var n => f n
  | .node w ps => .node w (Tm.subs f ps)
def Tm.subs (f : Int → Tm) : List Tm → List Tm
  | [] => []
  | t :: ts => t.sub f :: Tm.subs f ts
end
theorem Tm.subs_map (f : Int → Tm) : ∀ ts : List Tm, Tm.subs f ts = ts.map fun t => t.sub f
  | [] => rfl
  | t :: ts => congrArg (t.sub f :: ·) (Tm.subs_map f ts)
/-- a substitution stands at d: its pairs in order -/
def SubAt (H : Hp) (d : Addr) (σ : List (Int × Tm)) : Prop := ∃ kvs : List (Key × V), H d = some (.dK kvs) ∧ Paired (fun (p : Key × V) (x : Int × Tm) => p.1 = Sum.inl x.1 ∧ TmAt H p.2 x.2) kvs σ
def onv (σ : List (Int × Tm)) (n : Int) : Tm := (σ.lookup n).getD (.var n)
theorem SubAt.keep {H H' : Hp} {d : Addr} {σ : List (Int × Tm)} (h : SubAt H d σ) (e : Same H H') : SubAt H' d σ := by
  obtain ⟨kvs, h1, h2⟩ := h
  exact ⟨kvs, e _ _ h1, Paired.mapP h2 fun _ _ q => ⟨q.1, TmAt.keep (KeepT.of e) _ _ q.2⟩⟩
theorem look_pairs {H : Hp} {n : Int} : ∀ {kvs : List (Key × V)} {σ : List (Int × Tm)}, Paired (fun (p : Key × V) (x : Int × Tm) => p.1 = Sum.inl x.1 ∧ TmAt H p.2 x.2) kvs σ →
    (∃ v t, valV kvs (Sum.inl n : Key) = some v ∧ σ.lookup n = some t ∧ TmAt H v t) ∨ (valV kvs (Sum.inl n : Key) = none ∧ σ.lookup n = none)
  | _, _, .nil => .inr ⟨rfl, rfl⟩
  | (k, v) :: kvs, (m, t) :: σ, .cons h r => by
    obtain ⟨h1, h2⟩ := h
    have hk : k = Sum.inl m := h1
    subst hk
    by_cases e : n = m
    · subst e
      exact .inl ⟨v, t, valV_pos rfl, by rw [List.lookup_cons, beq_self_eq_true], h2⟩
    · have e1 : ¬ (Sum.inl m : Key) = Sum.inl n := fun z => e (Sum.inl.inj z).symm
      have e2 : (n == m) = false := beq_eq_false_iff_ne.mpr e
      have e3 : valV ((Sum.inl m, v) :: kvs) (Sum.inl n : Key) = valV kvs (Sum.inl n : Key) := valV_neg e1
      have e4 : ((m, t) :: σ).lookup n = σ.lookup n := by rw [List.lookup_cons, e2]
      rw [e3, e4]
      exact look_pairs r
theorem SubAt.look {H : Hp} {d : Addr} {σ : List (Int × Tm)} (h : SubAt H d σ) (n : Int) : ∃ kvs, H d = some (.dK kvs) ∧
    ((∃ v t, valV kvs (Sum.inl n : Key) = some v ∧ σ.lookup n = some t ∧ TmAt H v t) ∨ (valV kvs (Sum.inl n : Key) = none ∧ σ.lookup n = none)) := by
  obtain ⟨kvs, h1, h2⟩ := h
  exact ⟨kvs, h1, look_pairs h2⟩
abbrev sReplace : Stmt := top 16
def spReplace (n : Nat) : Sp := fun vs H Q _ => ∃ (v : V) (t : Tm) (x : Addr × List (Int × Tm)), vs = [v, .ref x.1] ∧ TmAt H v t ∧ t.high ≤ n ∧ t.size ≤ 1000 ∧ SubAt H x.1 x.2 ∧ ∀ (v' : V) (H' : Hp), TmAt H' v' (t.sub (onv x.2)) → Same H H' → Q v' H'
section
variable {P : Program} {w : World} {K : PySem.W.Frag} {mg : Str → Option Value} {base : Heap}
theorem scReplace : FnScope ["term", "given", "part"] ["term", "given"] (defScope sReplace) := ⟨rfl, rfl, rfl, by decide +kernel, rfl, by decide +kernel, by decide +kernel⟩
theorem ok_Replace1 {n : Nat} {f g : Addr} {fd gd : FuncData} (F : Fun K "_law_replace" "_law_replace" sReplace f fd) (B : Blt mg) (G : FnOk P w K mg base CX0 1 g gd ["actual"] spIsInt) (bG : Binds K gd ["actual"] [])
    (kG : PySem.W.keepIn K (.ref g) = true) (mG : mg "_law_is_integer" = some (.ref g)) (R : FnOk P w K mg base CX0 (n + 1) f fd ["term", "given"] (spReplace n)) (bR : Binds K fd ["term", "given"] []) (mR : mg "_law_replace" = some (.ref f)) :
    FnOk P w K mg base CX0 (n + 2) f fd ["term", "given"] (spReplace (n + 1)) := by
  have kR := F.kp
  refine F.ok scReplace (fun vs H Q E h => ?_) (fun cdv A outer s H vs Q E hr h => ?_)
  · obtain ⟨v, t, x, rfl, _⟩ := h
    rfl
  obtain ⟨v, t, x, rfl, ht, hh, hz, hx, q⟩ := h
  have nd := scReplace.nd
  have hu := hu_of hr
  refine ⟨_, pss_cons (ps_if (pt_val (pe_call G (hr.mono (by omega)) rfl mG kG bG .nil pass0 (pa_cons (pv 0) pa_nil))) (pss_one (ps_ret (pe_ifExp (pt_cmp (pc_din hu (pv 0) (pv 1))) (pe_dget hu (pv 1) (pv 0) (fun _ _ => rfl)) (pv 0)))) pss_nil)
    (pss_one (ps_ret (pe_op op_catA (pe_tup (pa_cons (pe_ix ix_tup (pv 0) pe_int (fun _ _ => rfl)) pa_nil)) (pe_callTy call_tuple_of (by rfl) B.tuple (by decide +kernel) (pa_cons
      (pe_lc (own := [("part", 2)]) (g := gName 2) (tt := tYes) rfl nd (pi_tup (pe_slice sl_tup (pv 0) (po_some pe_int) po_none)) (blkOk_by (N := ["term", "given", "part"]) (sc := defScope sReplace) (by decide +kernel))
        (fun _ _ _ _ _ => pg_name (i := 2) nd rfl (.inl rfl)) (fun _ _ _ _ _ => pts_nil) (fun _ _ _ _ _ => pe_call R hr rfl mR kR bR .nil pass0 (pa_cons (pv 2) (pa_cons (pv 1) pa_nil)))) pa_nil))))), ?_⟩
  cases ht with
  | var m =>
    refine ⟨_, rfl, _, "int", rfl, rfl, _, rfl, iteT ?_⟩
    obtain ⟨kvs, hd, hl⟩ := hx.look m
    refine ⟨_, rfl, _, rfl, x.1, _, rfl, DGet.k (k := Sum.inl m) hd, _, rfl, ?_⟩
    rcases hl with ⟨v, t, e1, e2, e3⟩ | ⟨e1, e2⟩
    · rw [e1]
      refine iteT ⟨_, rfl, _, rfl, x.1, v, rfl, ?_, ?_⟩
      · rw [← e1]
        exact DGet.k (k := Sum.inl m) hd
      refine q v H ?_ (Same.refl H)
      show TmAt H v ((x.2.lookup m).getD (.var m))
      rw [e2]
      exact e3
    · rw [e1]
      refine iteF ⟨_, rfl, ?_⟩
      refine q (.int m) H ?_ (Same.refl H)
      show TmAt H _ ((x.2.lookup m).getD (.var m))
      rw [e2]
      exact .var m
  | @node z w vs ps h1 h2 =>
    refine ⟨_, rfl, _, "tuple", rfl, .inr (.inl ⟨rfl, _, h1⟩), _, rfl, iteF ?_⟩
    have e1 : Tm.high (.node w ps) = 1 + Tm.highs ps := rfl
    have e2 : Tm.size (.node w ps) = 1 + Tm.sizes ps := rfl
    have lv := h2.length
    have lps := Tm.sizes_len ps
    refine ⟨_, rfl, _, _, _, _, rfl, rfl, SqT.of h1, at_of (j := 0) rfl rfl, (by show 1 ≤ sizeLine; decide), fun u nu => ?_⟩
    have s0 := same_new nu (HO.tup [V.str w])
    have h1' := s0 _ _ h1
    refine ⟨_, rfl, 1, rfl, z, _, rfl, SqT.of h1', notWhole _ _, fun d nd' => ?_⟩
    rw [cut1]
    have s1 := s0.trans (same_new nd' (HO.tup vs))
    refine ⟨d, rfl, ⟨_, SqT.of upd_same⟩, fun D nD => ?_⟩
    have hdD : d ≠ D := ne_of_none upd_same nD
    have hud : u ≠ d := ne_of_none upd_same nd'
    have hu0 : upd (upd H u (.tup [V.str w])) d (.tup vs) u = some (.tup [V.str w]) := by rw [upd_ne hud]; exact upd_same
    have huD : u ≠ D := ne_of_none hu0 nD
    refine lc_tup (xs := vs) (fun i H' => ∃ us : List V, H' D = some (.lst us) ∧ us.length = i ∧ TmsAt H' us ((ps.take i).map fun p => p.sub (onv x.2)) ∧ H' d = some (.tup vs) ∧ H' u = some (.tup [V.str w]) ∧ Same (upd (upd H u (.tup [V.str w])) d (.tup vs)) H')
      ⟨[], upd_same, rfl, .nil, by rw [upd_ne hdD]; exact upd_same, by rw [upd_ne huD]; exact hu0, same_new nD _⟩ (fun i H' _ hh => by obtain ⟨_, _, _, _, h, _⟩ := hh; exact SqT.of h) (fun i y H' hy hh => ?_) (fun H' hh => ?_)
    · obtain ⟨us, g1, g2, g3, g4, g5, g6⟩ := hh
      have hil : i < ps.length := by rw [← lv]; exact (List.getElem?_eq_some_iff.mp hy).1
      have hpi : ps[i]? = some ps[i] := List.getElem?_eq_getElem hil
      obtain ⟨c, hc1, hc2⟩ := h2.get hpi
      obtain rfl : y = c := Option.some.inj (hy.symm.trans hc1)
      have m1 := Tm.size_mem (List.getElem_mem hil)
      have m2 := Tm.high_mem (List.getElem_mem hil)
      have sm := s1.trans g6
      refine ⟨rfl, _, rfl, _, rfl, y, ps[i], x, rfl, TmAt.keep (KeepT.of sm) _ _ hc2, by omega, by omega, hx.keep sm, fun v' H2 hv' sm2 => ?_⟩
      have gD := sm2 _ _ g1
      have kz : KeepT H2 (upd H2 D (.lst (us ++ [v']))) := fun b xs hb => by rw [upd_ne (ne_of hb gD (by intro z; cases z))]; exact hb
      refine ⟨us, gD, small1000 (by omega), us ++ [v'], upd_same, by rw [List.length_append, g2]; rfl, ?_, kz _ _ (sm2 _ _ g4), kz _ _ (sm2 _ _ g5), ?_⟩
      · rw [List.take_add_one, hpi, List.map_append]
        exact (TmsAt.keep kz _ _ (TmsAt.keep (KeepT.of sm2) _ _ g3)).snoc (TmAt.keep kz _ _ hv')
      · exact fun b o hb => by rw [upd_ne (ne_of_none hb nD)]; exact sm2 _ _ (g6 _ _ hb)
    · obtain ⟨us, g1, g2, g3, g4, g5, g6⟩ := hh
      rw [lv, List.take_length, ← Tm.subs_map] at g3
      refine ⟨D, us, rfl, .inl ⟨SqL.of g1, fun l nl => ?_⟩⟩
      have kl := same_new nl (HO.tup us)
      have sm := s1.trans g6
      refine ⟨u, l, _, _, rfl, rfl, SqT.of (kl _ _ g5), SqT.of upd_same, ?_, fun z => (by cases z), fun _ z => ?_, fun _ z p np' => ?_⟩
      · show 1 + us.length ≤ sizeLine
        exact Nat.le_of_lt (small1000 (by omega))
      · subst z
        have hn := g3.length
        rw [List.length_nil] at hn
        have e3 : Tm.subs (onv x.2) ps = [] := List.length_eq_zero_iff.mp hn.symm
        refine q (.ref u) _ ?_ (sm.trans kl)
        show TmAt _ _ (.node w (Tm.subs (onv x.2) ps))
        rw [e3]
        exact .node (kl _ _ g5) .nil
      · have kp := kl.trans (same_new np' (HO.tup (V.str w :: us)))
        exact q (.ref p) _ (.node upd_same (TmsAt.keep (KeepT.of kp) _ _ g3)) (sm.trans kp)
theorem ok_Replace {f g : Addr} {fd gd : FuncData} (F : Fun K "_law_replace" "_law_replace" sReplace f fd) (B : Blt mg) (G : FnOk P w K mg base CX0 1 g gd ["actual"] spIsInt) (bG : Binds K gd ["actual"] [])
    (kG : PySem.W.keepIn K (.ref g) = true) (mG : mg "_law_is_integer" = some (.ref g)) (bR : Binds K fd ["term", "given"] []) (mR : mg "_law_replace" = some (.ref f)) : ∀ n : Nat, FnOk P w K mg base CX0 (n + 1) f fd ["term", "given"] (spReplace n)
  | 0 => none_left fun vs H Q E h => by
    obtain ⟨v, t, x, _, _, h1, _⟩ := h
    have := t.high_pos
    omega
  | n + 1 => ok_Replace1 F B G bG kG mG (ok_Replace F B G bG kG mG bR mR n) bR mR
end
end Cf
namespace Cf
open PySem L2
/-! renaming of variables -/
mutual
theorem Tm.sub_congr {f g : Int → Tm} : ∀ t : Tm, (∀ n ∈ t.occ, f n = g n) → t.sub f = t.sub g
  | .var n, h => h n (List.mem_singleton.mpr rfl)
  | .node w ps, h => by
    show Tm.node w (Tm.subs f ps) = Tm.node w (Tm.subs g ps)
    rw [Tm.subs_congr ps h]
theorem Tm.subs_congr {f g : Int → Tm} : ∀ ts : List Tm, (∀ n ∈ Tm.occs ts, f n = g n) → Tm.subs f ts = Tm.subs g ts
  | [], _ => rfl
  | t :: ts, h => by
    show t.sub f :: Tm.subs f ts = t.sub g :: Tm.subs g ts
    rw [Tm.sub_congr t fun n hn => h n (List.mem_append_left _ hn), Tm.subs_congr ts fun n hn => h n (List.mem_append_right _ hn)]
end
def ren (r : Int → Int) : Tm → Tm := Tm.sub fun n => .var (r n)
mutual
theorem ren_sub (r : Int → Int) (g : Int → Tm) : ∀ t : Tm, (ren r t).sub g = t.sub fun n => g (r n)
  | .var n => rfl
  | .node w ps => by
    show Tm.node w (Tm.subs g (Tm.subs (fun n => .var (r n)) ps)) = Tm.node w (Tm.subs (fun n => g (r n)) ps)
    rw [rens_sub r g ps]
theorem rens_sub (r : Int → Int) (g : Int → Tm) : ∀ ts : List Tm, Tm.subs g (Tm.subs (fun n => .var (r n)) ts) = Tm.subs (fun n => g (r n)) ts
  | [] => rfl
  | t :: ts => by
    have h1 := ren_sub r g t
    have h2 := rens_sub r g ts
    show (t.sub fun n => .var (r n)).sub g :: Tm.subs g (Tm.subs (fun n => .var (r n)) ts) = _
    rw [h2]
    exact congrArg (· :: _) h1
end
mutual
theorem ren_occ (r : Int → Int) : ∀ t : Tm, (ren r t).occ = t.occ.map r
  | .var n => rfl
  | .node w ps => rens_occ r ps
theorem rens_occ (r : Int → Int) : ∀ ts : List Tm, Tm.occs (Tm.subs (fun n => .var (r n)) ts) = (Tm.occs ts).map r
  | [] => rfl
  | t :: ts => by
    have h1 := ren_occ r t
    have h2 := rens_occ r ts
    show (t.sub fun n => .var (r n)).occ ++ Tm.occs (Tm.subs (fun n => .var (r n)) ts) = (t.occ ++ Tm.occs ts).map r
    rw [h2, List.map_append]
    exact congrArg (· ++ _) h1
end
mutual
theorem ren_size (r : Int → Int) : ∀ t : Tm, (ren r t).size = t.size
  | .var n => rfl
  | .node w ps => congrArg (1 + ·) (rens_size r ps)
theorem rens_size (r : Int → Int) : ∀ ts : List Tm, Tm.sizes (Tm.subs (fun n => .var (r n)) ts) = Tm.sizes ts
  | [] => rfl
  | t :: ts => by
    have h1 := ren_size r t
    have h2 := rens_size r ts
    show (t.sub fun n => .var (r n)).size + Tm.sizes (Tm.subs (fun n => .var (r n)) ts) = t.size + Tm.sizes ts
    rw [h2]
    exact congrArg (· + _) h1
end
mutual
theorem ren_high (r : Int → Int) : ∀ t : Tm, (ren r t).high = t.high
  | .var n => rfl
  | .node w ps => congrArg (1 + ·) (rens_high r ps)
theorem rens_high (r : Int → Int) : ∀ ts : List Tm, Tm.highs (Tm.subs (fun n => .var (r n)) ts) = Tm.highs ts
  | [] => rfl
  | t :: ts => by
    have h1 := ren_high r t
    have h2 := rens_high r ts
    show max (t.sub fun n => .var (r n)).high (Tm.highs (Tm.subs (fun n => .var (r n)) ts)) = max t.high (Tm.highs ts)
    rw [h2]
    exact congrArg (fun x => max x _) h1
end
/-! the numbers 0, 1, 2, .. of the different ones of a list -/
def numFrom (k : Nat) : List Int → List (Int × Tm)
  | [] => []
  | n :: r => (n, .var (k : Int)) :: numFrom (k + 1) r
def posFrom (k : Nat) : List Int → Int → Int
  | [], n => n
  | m :: r, n => if n = m then (k : Int) else posFrom (k + 1) r n
theorem onv_num : ∀ (xs : List Int) (k : Nat) (n : Int), onv (numFrom k xs) n = .var (posFrom k xs n)
  | [], _, _ => rfl
  | m :: r, k, n => by
    have ih := onv_num r (k + 1) n
    unfold onv at ih ⊢
    show (((m, Tm.var (k : Int)) :: numFrom (k + 1) r).lookup n).getD (.var n) = .var (if n = m then (k : Int) else posFrom (k + 1) r n)
    rw [List.lookup_cons]
    by_cases e : n = m
    · subst e
      rw [beq_self_eq_true, if_pos rfl]
      rfl
    · rw [beq_eq_false_iff_ne.mpr e, if_neg e]
      exact ih
theorem numFrom_snoc : ∀ (xs : List Int) (k : Nat) (n : Int), numFrom k (xs ++ [n]) = numFrom k xs ++ [(n, .var ((k + xs.length : Nat) : Int))]
  | [], _, _ => rfl
  | m :: r, k, n => by
    show (m, Tm.var (k : Int)) :: numFrom (k + 1) (r ++ [n]) = (m, Tm.var (k : Int)) :: (numFrom (k + 1) r ++ [(n, .var ((k + (r.length + 1) : Nat) : Int))])
    rw [numFrom_snoc r (k + 1) n]
    have e : k + 1 + r.length = k + (r.length + 1) := by omega
    rw [e]
theorem pos_map {r : Int → Int} {n : Int} : ∀ (xs : List Int) (k : Nat), n ∈ xs → (∀ m ∈ xs, r n = r m → n = m) → posFrom k (xs.map r) (r n) = posFrom k xs n
  | m :: xs, k, h, inj => by
    show (if r n = r m then (k : Int) else posFrom (k + 1) (xs.map r) (r n)) = if n = m then (k : Int) else posFrom (k + 1) xs n
    by_cases e : n = m
    · subst e; rw [if_pos rfl, if_pos rfl]
    · rw [if_neg e, if_neg fun z => e (inj m List.mem_cons_self z)]
      exact pos_map xs (k + 1) ((List.mem_cons.mp h).resolve_left e) fun m' hm z => inj m' (List.mem_cons_of_mem _ hm) z
theorem pos_ge : ∀ (xs : List Int) (k : Nat) (n : Int), n ∈ xs → (k : Int) ≤ posFrom k xs n
  | m :: xs, k, n, h => by
    show (k : Int) ≤ if n = m then (k : Int) else posFrom (k + 1) xs n
    by_cases e : n = m
    · rw [if_pos e]; exact Int.le_refl _
    · rw [if_neg e]
      have := pos_ge xs (k + 1) n ((List.mem_cons.mp h).resolve_left e)
      omega
theorem pos_inj : ∀ (xs : List Int) (k : Nat) (n m : Int), n ∈ xs → m ∈ xs → posFrom k xs n = posFrom k xs m → n = m
  | x :: xs, k, n, m, hn, hm, h => by
    have h' : (if n = x then (k : Int) else posFrom (k + 1) xs n) = if m = x then (k : Int) else posFrom (k + 1) xs m := h
    by_cases e1 : n = x
    · by_cases e2 : m = x
      · rw [e1, e2]
      · rw [if_pos e1, if_neg e2] at h'
        have := pos_ge xs (k + 1) m ((List.mem_cons.mp hm).resolve_left e2)
        omega
    · by_cases e2 : m = x
      · rw [if_neg e1, if_pos e2] at h'
        have := pos_ge xs (k + 1) n ((List.mem_cons.mp hn).resolve_left e1)
        omega
      · rw [if_neg e1, if_neg e2] at h'
        exact pos_inj xs (k + 1) n m ((List.mem_cons.mp hn).resolve_left e1) ((List.mem_cons.mp hm).resolve_left e2) h'
theorem addNew_mem {acc : List Int} {n m : Int} : m ∈ addNew acc n ↔ m ∈ acc ∨ m = n := by
  unfold addNew
  by_cases h : n ∈ acc
  · rw [if_pos h]
    exact ⟨.inl, fun z => z.elim id fun e => e ▸ h⟩
  · rw [if_neg h, List.mem_append, List.mem_singleton]
theorem fold_mem : ∀ (ns acc : List Int) (m : Int), m ∈ ns.foldl addNew acc ↔ m ∈ acc ∨ m ∈ ns
  | [], acc, m => by simp
  | n :: r, acc, m => by
    show m ∈ r.foldl addNew (addNew acc n) ↔ _
    rw [fold_mem r, addNew_mem, List.mem_cons, or_assoc]
theorem firsts_mem {ns : List Int} {m : Int} : m ∈ firsts ns ↔ m ∈ ns := by
  unfold firsts
  rw [fold_mem]
  simp
theorem addNew_nd {acc : List Int} {n : Int} (h : acc.Nodup) : (addNew acc n).Nodup := by
  unfold addNew
  by_cases e : n ∈ acc
  · rw [if_pos e]; exact h
  · rw [if_neg e]
    exact List.nodup_append.mpr ⟨h, by simp, fun u hu v hv => by rw [List.mem_singleton.mp hv]; rintro rfl; exact e hu⟩
theorem fold_nd : ∀ (ns acc : List Int), acc.Nodup → (ns.foldl addNew acc).Nodup
  | [], _, h => h
  | n :: r, acc, h => fold_nd r _ (addNew_nd h)
theorem firsts_nd (ns : List Int) : (firsts ns).Nodup := fold_nd ns [] List.nodup_nil
theorem fold_map {r : Int → Int} : ∀ (ns acc : List Int), (∀ n ∈ ns, ∀ m ∈ acc ++ ns, r n = r m → n = m) → (ns.map r).foldl addNew (acc.map r) = (ns.foldl addNew acc).map r
  | [], acc, _ => rfl
  | n :: ns, acc, inj => by
    have e : addNew (acc.map r) (r n) = (addNew acc n).map r := by
      unfold addNew
      by_cases h : n ∈ acc
      · rw [if_pos h, if_pos (List.mem_map.mpr ⟨n, h, rfl⟩)]
      · rw [if_neg h, if_neg, List.map_append]
        · rfl
        · intro z
          obtain ⟨m, hm, e⟩ := List.mem_map.mp z
          exact h (inj n List.mem_cons_self m (List.mem_append_left _ hm) e.symm ▸ hm)
    show (ns.map r).foldl addNew (addNew (acc.map r) (r n)) = (ns.foldl addNew (addNew acc n)).map r
    rw [e]
    refine fold_map ns (addNew acc n) fun a ha m hm z => inj a (List.mem_cons_of_mem _ ha) m ?_ z
    rcases List.mem_append.mp hm with h | h
    · rcases addNew_mem.mp h with h | rfl
      · exact List.mem_append_left _ h
      · exact List.mem_append_right _ List.mem_cons_self
    · exact List.mem_append_right _ (List.mem_cons_of_mem _ h)
theorem firsts_map {r : Int → Int} {ns : List Int} (inj : ∀ n ∈ ns, ∀ m ∈ ns, r n = r m → n = m) : firsts (ns.map r) = (firsts ns).map r := fold_map ns [] fun n hn m hm z => inj n hn m (by simpa using hm) z
/-- terms with their variables numbered from 0 -/
def tidy (ts : List Tm) : List Tm := ts.map (ren (posFrom 0 (firsts (Tm.occs ts))))
theorem occ_sub {ts : List Tm} {t : Tm} {n : Int} (h : t ∈ ts) (hn : n ∈ t.occ) : n ∈ Tm.occs ts := by
  induction ts with
  | nil => cases h
  | cons p ps ih =>
    show n ∈ p.occ ++ Tm.occs ps
    rcases List.mem_cons.mp h with rfl | h
    · exact List.mem_append_left _ hn
    · exact List.mem_append_right _ (ih h)
theorem tidy_ren {r : Int → Int} {ts : List Tm} (inj : ∀ n ∈ Tm.occs ts, ∀ m ∈ Tm.occs ts, r n = r m → n = m) : tidy (ts.map (ren r)) = tidy ts := by
  have e : Tm.occs (ts.map (ren r)) = (Tm.occs ts).map r := by
    rw [← rens_occ, Tm.subs_map]
    rfl
  unfold tidy
  rw [e, firsts_map inj, List.map_map]
  refine List.map_congr_left fun t ht => ?_
  show (ren r t).sub (fun n => .var (posFrom 0 ((firsts (Tm.occs ts)).map r) n)) = t.sub (fun n => .var (posFrom 0 (firsts (Tm.occs ts)) n))
  rw [ren_sub]
  refine Tm.sub_congr t fun n hn => ?_
  have hm := occ_sub ht hn
  show Tm.var (posFrom 0 ((firsts (Tm.occs ts)).map r) (r n)) = Tm.var (posFrom 0 (firsts (Tm.occs ts)) n)
  rw [pos_map _ _ (firsts_mem.mpr hm) fun m hm' z => inj n hm m (firsts_mem.mp hm') z]
theorem tidy_tidy (ts : List Tm) : tidy (tidy ts) = tidy ts :=
  tidy_ren fun n hn m hm z => pos_inj _ 0 n m (firsts_mem.mpr hn) (firsts_mem.mpr hm) z
theorem tidy_subst (ts : List Tm) : (ts.map fun t => t.sub (onv (numFrom 0 (firsts (Tm.occs ts))))) = tidy ts := by
  unfold tidy ren
  refine List.map_congr_left fun t _ => Tm.sub_congr t fun n _ => onv_num _ _ _
theorem sizes_map {f : Tm → Tm} (h : ∀ t, (f t).size = t.size) : ∀ ts : List Tm, Tm.sizes (ts.map f) = Tm.sizes ts
  | [] => rfl
  | t :: ts => by
    show (f t).size + Tm.sizes (ts.map f) = t.size + Tm.sizes ts
    rw [h, sizes_map h ts]
/-- the same term twice is the same data -/
theorem eqd_tm {H : Hp} : ∀ (n : Nat) (t : Tm) (u v : V), TmAt H u t → TmAt H v t → t.high ≤ n → t.size ≤ 1000 → Eqd H (n + 1) u v
  | n, .var m, u, v, h1, h2, _, _ => by cases h1; cases h2; exact .flat rfl
  | 0, .node w ps, u, v, h1, h2, hh, _ => by
    have := Tm.high_pos (.node w ps)
    omega
  | n + 1, .node w ps, u, v, h1, h2, hh, hz => by
    cases h1 with
    | @node p _ us _ a1 b1 =>
      cases h2 with
      | @node q _ vs _ a2 b2 =>
        have e1 : Tm.high (.node w ps) = 1 + Tm.highs ps := rfl
        have e2 : Tm.size (.node w ps) = 1 + Tm.sizes ps := rfl
        have l1 := b1.length
        have l2 := b2.length
        have l3 := Tm.sizes_len ps
        refine .tup a1 a2 (by rw [List.length_cons, List.length_cons, l1, l2]) (by rw [List.length_cons]; omega) fun i x y hx hy => ?_
        match i, hx, hy with
        | 0, hx, hy => cases hx; cases hy; exact .flat rfl
        | i + 1, hx, hy =>
          have hx' : us[i]? = some x := hx
          have hy' : vs[i]? = some y := hy
          have hil : i < ps.length := by rw [← l1]; exact (List.getElem?_eq_some_iff.mp hx').1
          have hpi : ps[i]? = some ps[i] := List.getElem?_eq_getElem hil
          obtain ⟨x', k1, k2⟩ := b1.get hpi
          obtain rfl : x = x' := Option.some.inj (hx'.symm.trans k1)
          obtain ⟨y', k3, k4⟩ := b2.get hpi
          obtain rfl : y = y' := Option.some.inj (hy'.symm.trans k3)
          have m1 := Tm.size_mem (List.getElem_mem hil)
          have m2 := Tm.high_mem (List.getElem_mem hil)
          exact eqd_tm n ps[i] x y k2 k4 (by omega) (by omega)
/-- tuples of the same terms -/
theorem eqd_tms {H : Hp} {n : Nat} {p q : Addr} {us vs : List V} {ts : List Tm} (h1 : H p = some (.tup us)) (h2 : H q = some (.tup vs)) (a : TmsAt H us ts) (b : TmsAt H vs ts) (hh : ∀ t ∈ ts, t.high ≤ n) (hz : Tm.sizes ts ≤ 1000) : Eqd H (n + 2) (.ref p) (.ref q) := by
  have l1 := a.length
  have l2 := b.length
  have l3 := Tm.sizes_len ts
  refine .tup h1 h2 (by rw [l1, l2]) (by omega) fun i x y hx hy => ?_
  have hil : i < ts.length := by rw [← l1]; exact (List.getElem?_eq_some_iff.mp hx).1
  have hpi : ts[i]? = some ts[i] := List.getElem?_eq_getElem hil
  obtain ⟨x', k1, k2⟩ := a.get hpi
  obtain rfl : x = x' := Option.some.inj (hx.symm.trans k1)
  obtain ⟨y', k3, k4⟩ := b.get hpi
  obtain rfl : y = y' := Option.some.inj (hy.symm.trans k3)
  have m1 := Tm.size_mem (List.getElem_mem hil)
  exact eqd_tm n ts[i] x y k2 k4 (hh _ (List.getElem_mem hil)) (by omega)
theorem sizes_le {k : Nat} : ∀ ts : List Tm, (∀ t ∈ ts, t.size ≤ k) → Tm.sizes ts ≤ ts.length * k
  | [], _ => Nat.zero_le _
  | t :: ts, h => by
    have a := h t List.mem_cons_self
    have b := sizes_le ts fun x hx => h x (List.mem_cons_of_mem _ hx)
    show t.size + Tm.sizes ts ≤ (ts.length + 1) * k
    rw [Nat.succ_mul]
    omega
mutual
theorem over_occ {cs : List (Str × Nat)} {ns : List Int} : ∀ (t : Tm) (d : Nat), TmOver cs ns d t → ∀ n ∈ t.occ, n ∈ ns
  | .var m, d, h, n, hn => by
    cases d with
    | zero => exact h.elim
    | succ d =>
      rw [List.mem_singleton.mp hn]
      exact h
  | .node w ps, d, h, n, hn => by
    cases d with
    | zero => exact h.elim
    | succ d => exact overs_occ ps d h.2 n hn
theorem overs_occ {cs : List (Str × Nat)} {ns : List Int} : ∀ (ts : List Tm) (d : Nat), (∀ t ∈ ts, TmOver cs ns d t) → ∀ n ∈ Tm.occs ts, n ∈ ns
  | [], _, _, n, hn => by cases hn
  | t :: ts, d, h, n, hn => by
    rcases List.mem_append.mp hn with z | z
    · exact over_occ t d (h t List.mem_cons_self) n z
    · exact overs_occ ts d (fun x hx => h x (List.mem_cons_of_mem _ hx)) n z
end
end Cf
namespace Cf
open PySem L2
abbrev sNumbers : Stmt := top 15
/-- the terms stand in a tuple or a list -/
def SeqAt (H : Hp) (p : Addr) (us : List V) : Prop := H p = some (.tup us) ∨ H p = some (.lst us)
def spNumbers (n : Nat) : Sp := fun vs H Q _ => ∃ (p : Addr) (us : List V) (ts : List Tm), vs = [.ref p] ∧ H p = some (.lst us) ∧ TmsAt H us ts ∧ Tm.sizes ts ≤ 1000 ∧ (∀ t ∈ ts, t.high ≤ n) ∧
  ∀ (q : Addr) (H' : Hp), H q = none → H' q = some (.lst ((firsts (Tm.occs ts)).map V.int)) → Same H H' → Q (.ref q) H'
section
variable {P : Program} {w : World} {K : PySem.W.Frag} {mg : Str → Option Value} {base : Heap}
theorem scNumbers : FnScope ["terms", "row", "term"] ["terms"] (defScope sNumbers) := ⟨rfl, rfl, rfl, by decide +kernel, rfl, by decide +kernel, by decide +kernel⟩
theorem ok_numbers {n : Nat} {f g e : Addr} {fd gd ed : FuncData} (F : Fun K "_law_numbers" "_law_numbers" sNumbers f fd) (G : FnOk P w K mg base CX0 (n + 1) g gd ["term"] (spLOcc n)) (bG : Binds K gd ["term"] [])
    (kG : PySem.W.keepIn K (.ref g) = true) (mG : mg "_law_occurrences" = some (.ref g)) (S : FnOk P w K mg base CX0 1 e ed ["row"] (spUnlike K)) (bS : Binds K ed ["row"] []) (kS : PySem.W.keepIn K (.ref e) = true) (mS : mg "_law_unlike" = some (.ref e)) :
    FnOk P w K mg base CX0 (n + 2) f fd ["terms"] (spNumbers n) := by
  refine F.ok scNumbers (fun vs H Q E h => ?_) (fun cdv A outer s H vs Q E hr h => ?_)
  · obtain ⟨p, us, ts, rfl, _⟩ := h
    rfl
  obtain ⟨a, us, ts, rfl, ha, hts, hz, hh, q⟩ := h
  have nd := scNumbers.nd
  refine ⟨_, pss_cons (ps_set (i := 1) nd rfl (.inl rfl) (pe_lst pa_nil))
    (pss_cons (ps_for PassesOwn.never rfl (pi_list (pv 0)) (pg_name (i := 2) nd rfl (.inl rfl))
      (pss_one (ps_set (i := 1) nd rfl (.inl rfl) (pe_op op_cat (pv 1) (pe_call G hr rfl mG kG bG .nil pass0 (pa_cons (pv 2) pa_nil))))))
    (pss_one (ps_ret (pe_call S (hr.mono (by omega)) rfl mS kS bS .nil pass0 (pa_cons (pv 1) pa_nil))))), ?_⟩
  refine ⟨(by show 0 ≤ sizeLine; decide), fun r nr => ?_⟩
  have s1 := same_new nr (HO.lst [])
  have lv := hts.length
  have hol := Tm.occs_len ts
  refine ⟨_, rfl, a, rfl, ⟨_, SqL.of (s1 _ _ ha)⟩, ?_⟩
  refine for_list (xs := us) (fun i σ H1 => ∃ (r : Addr) (pt : Option V), σ = [some (.ref a), some (.ref r), pt] ∧ H r = none ∧ H1 r = some (.lst ((Tm.occs (ts.take i)).map V.int)) ∧ Same H H1)
    ⟨r, none, rfl, nr, upd_same, s1⟩ (fun i σ H1 _ hp => by obtain ⟨_, _, _, _, _, h⟩ := hp; exact SqL.of (h _ _ ha)) (fun i x σ H1 hx hp => ?_) (fun σ H1 hp => ?_)
  · obtain ⟨r1, pt, rfl, g0, g1, g2⟩ := hp
    have hil : i < ts.length := by rw [← lv]; exact (List.getElem?_eq_some_iff.mp hx).1
    have hpi : ts[i]? = some ts[i] := List.getElem?_eq_getElem hil
    obtain ⟨c, hc1, hc2⟩ := hts.get hpi
    obtain rfl : x = c := Option.some.inj (hx.symm.trans hc1)
    have m1 := Tm.size_mem (List.getElem_mem hil)
    refine ⟨_, rfl, _, rfl, x, ts[i], rfl, TmAt.keep (KeepT.of g2) _ _ hc2, hh _ (List.getElem_mem hil), by omega, fun o H2 no ho sm => ?_⟩
    have hlen : ((Tm.occs (ts.take i)).map V.int).length + (ts[i].occ.map V.int).length ≤ sizeLine := by
      have h3 : Tm.occs ts = Tm.occs (ts.take (i + 1)) ++ Tm.occs (ts.drop (i + 1)) := by rw [← Tm.occs_append, List.take_append_drop]
      have h4 := congrArg List.length h3
      rw [Tm.occs_take hpi, List.length_append, List.length_append] at h4
      rw [List.length_map, List.length_map]
      exact Nat.le_of_lt (small1000 (by omega))
    refine ⟨r1, o, _, _, rfl, rfl, sm _ _ g1, ho, hlen, fun y ny => ?_⟩
    have s3 := g2.trans (sm.trans (same_new ny (HO.lst ((Tm.occs (ts.take i)).map V.int ++ ts[i].occ.map V.int))))
    refine ⟨y, some x, rfl, (g2.trans sm).free ny, ?_, s3⟩
    rw [upd_same, Tm.occs_take hpi, List.map_append]
  · obtain ⟨r1, pt, rfl, g0, g1, g2⟩ := hp
    rw [lv, List.take_length] at g1
    refine ⟨_, rfl, r1, Tm.occs ts, rfl, SqL.of g1, by omega, fun o H2 no ho sm => ?_⟩
    exact q o H2 (g2.free no) ho (g2.trans sm)
end
end Cf
namespace Cf
open PySem L2
mutual
/-- a term as nested data -/
def Tm.data : Tm → PyData
  | .var n => .int n
  | .node w ps => .tuple (.str w :: Tm.datas ps)
def Tm.datas : List Tm → List PyData
  | [] => []
  | t :: ts => t.data :: Tm.datas ts
end
mutual
/-- a term whose words have their arities -/
def Tm.In (f : Str → Nat) : Tm → Prop
  | .var _ => True
  | .node w ps => ps.length = f w ∧ WordOk w ∧ Tm.Ins f ps
def Tm.Ins (f : Str → Nat) : List Tm → Prop
  | [] => True
  | t :: ts => t.In f ∧ Tm.Ins f ts
end
theorem Tm.ins_of {f : Str → Nat} : ∀ {ts : List Tm}, (∀ t ∈ ts, t.In f) → Tm.Ins f ts
  | [], _ => trivial
  | t :: ts, h => ⟨h t List.mem_cons_self, Tm.ins_of fun x hx => h x (List.mem_cons_of_mem _ hx)⟩
theorem Tm.ins_mem {f : Str → Nat} {t : Tm} : ∀ {ts : List Tm}, Tm.Ins f ts → t ∈ ts → t.In f
  | u :: ts, h, m => by
    rcases List.mem_cons.mp m with rfl | m
    · exact h.1
    · exact Tm.ins_mem h.2 m
theorem word_lay {w : Str} (h : WordOk w) : PyData.strOk w = true := by
  unfold PyData.strOk
  rw [Array.all_eq_true_iff_forall_mem]
  intro c hc
  have := (h.2.2 c (by simpa using hc)).2
  exact decide_eq_true (by omega)
mutual
theorem Tm.lay0 {f : Str → Nat} : ∀ t : Tm, t.In f → t.data.canLay0 = true
  | .var n, _ => by simp [Tm.data, PyData.canLay0]
  | .node w ps, h => by
    have h2 := Tm.lays0 ps h.2.2
    have h1 := word_lay h.2.1
    simp [Tm.data, PyData.canLay0, PyData.canLayAll0, h1, h2]
theorem Tm.lays0 {f : Str → Nat} : ∀ ts : List Tm, Tm.Ins f ts → PyData.canLayAll0 (Tm.datas ts) = true
  | [], _ => by simp [Tm.datas, PyData.canLayAll0]
  | t :: ts, h => by
    have h1 := Tm.lay0 t h.1
    have h2 := Tm.lays0 ts h.2
    simp [Tm.datas, PyData.canLayAll0, h1, h2]
end
mutual
theorem Tm.deep : ∀ t : Tm, t.data.depth ≤ t.high
  | .var n => by simp [Tm.data, PyData.depth]
  | .node w ps => by
    have h := Tm.deeps ps
    have e : Tm.high (.node w ps) = 1 + Tm.highs ps := rfl
    simp [Tm.data, PyData.depth, PyData.depthAll]
    omega
theorem Tm.deeps : ∀ ts : List Tm, PyData.depthAll (Tm.datas ts) ≤ Tm.highs ts
  | [] => by simp [Tm.datas, PyData.depthAll]
  | t :: ts => by
    have h1 := Tm.deep t
    have h2 := Tm.deeps ts
    have e : Tm.highs (t :: ts) = max t.high (Tm.highs ts) := rfl
    simp [Tm.datas, PyData.depthAll]
    omega
end
theorem Tm.shaped {f : Str → Nat} {t : Tm} (i : t.In f) (h : t.high ≤ 64) : SeqAt.shaped t.data = true := by
  unfold SeqAt.shaped
  rw [Tm.lay0 t i]
  have := Tm.deep t
  simp
  omega
mutual
theorem Tm.eqv : ∀ t u : Tm, PyData.eqv t.data u.data = true ↔ t = u
  | .var n, .var m => by simp [Tm.data, PyData.eqv]
  | .var n, .node w ps => by simp [Tm.data, PyData.eqv]
  | .node w ps, .var n => by simp [Tm.data, PyData.eqv]
  | .node w ps, .node x qs => by
    have h := Tm.eqvs ps qs
    simp [Tm.data, PyData.eqv, PyData.eqvAll, h]
theorem Tm.eqvs : ∀ ts us : List Tm, PyData.eqvAll (Tm.datas ts) (Tm.datas us) = true ↔ ts = us
  | [], [] => by simp [Tm.datas, PyData.eqvAll]
  | [], _ :: _ => by simp [Tm.datas, PyData.eqvAll]
  | _ :: _, [] => by simp [Tm.datas, PyData.eqvAll]
  | t :: ts, u :: us => by
    have h1 := Tm.eqv t u
    have h2 := Tm.eqvs ts us
    simp [Tm.datas, PyData.eqvAll, h1, h2]
end
mutual
theorem TmAt.dp {K : PySem.W.Frag} {H : Hp} : ∀ {v : V} {t : Tm}, TmAt H v t → Dp K H v t.data
  | _, .var n, h => by cases h; exact .int n
  | _, .node w ps, h => by
    cases h with
    | node h1 h2 => exact .tup (SqT.of h1) (.cons (.str w) (TmsAt.dp h2))
theorem TmsAt.dp {K : PySem.W.Frag} {H : Hp} : ∀ {vs : List V} {ts : List Tm}, TmsAt H vs ts → DpAll K H vs (Tm.datas ts)
  | _, [], h => by cases h; exact .nil
  | _, t :: ts, h => by
    cases h with
    | cons h1 h2 => exact .cons (TmAt.dp h1) (TmsAt.dp h2)
end
/-- two terms compared -/
theorem eq_tm {K : PySem.W.Frag} {H : Hp} {x y : V} {t u : Tm} {f : Str → Nat} {Q : VK} (hx : TmAt H x t) (hy : TmAt H y u) (i1 : t.In f) (i2 : u.In f) (h1 : t.high ≤ 64) (h2 : u.high ≤ 64) (q1 : t = u → Q (.bl true) H) (q2 : t ≠ u → Q (.bl false) H) : rEqD K x y H Q := by
  refine ⟨t.data, u.data, hx.dp, hy.dp, Tm.shaped i1 h1, Tm.shaped i2 h2, ?_⟩
  cases z : PyData.eqv t.data u.data with
  | true => exact q1 ((Tm.eqv t u).mp z)
  | false => exact q2 fun e => by rw [(Tm.eqv t u).mpr e] at z; cases z
theorem ne_tm {K : PySem.W.Frag} {H : Hp} {x y : V} {t u : Tm} {f : Str → Nat} {Q : VK} (hx : TmAt H x t) (hy : TmAt H y u) (i1 : t.In f) (i2 : u.In f) (h1 : t.high ≤ 64) (h2 : u.high ≤ 64) (q1 : t = u → Q (.bl false) H) (q2 : t ≠ u → Q (.bl true) H) : rNeD K x y H Q := by
  refine ⟨t.data, u.data, hx.dp, hy.dp, Tm.shaped i1 h1, Tm.shaped i2 h2, ?_⟩
  cases z : PyData.eqv t.data u.data with
  | true => exact q1 ((Tm.eqv t u).mp z)
  | false => exact q2 fun e => by rw [(Tm.eqv t u).mpr e] at z; cases z
end Cf
namespace Cf
open PySem L2
def keysOf (M : List (Int × Tm)) : List Int := M.map (·.1)
/-- what these pairs ask of a substitution -/
def Ext (M : List (Int × Tm)) (θ : Int → Tm) : Prop := ∀ e ∈ M, θ e.1 = e.2
def MOk (f : Str → Nat) (M : List (Int × Tm)) : Prop := (keysOf M).Nodup ∧ ∀ e ∈ M, e.2.In f ∧ e.2.high ≤ 64
/-- b: whether a pattern fits a term beside the pairs M; M' the pairs then -/
structure Fit (b : Bool) (M M' : List (Int × Tm)) (p t : Tm) : Prop where
  yes : b = true → (∀ n, n ∈ keysOf M' ↔ n ∈ keysOf M ∨ n ∈ p.occ) ∧ ∀ θ, Ext M' θ ↔ Ext M θ ∧ p.sub θ = t
  no : b = false → ∀ θ, Ext M θ → p.sub θ ≠ t
theorem snoc_inj {α : Type} {a b : List α} {x y : α} : a ++ [x] = b ++ [y] ↔ a = b ∧ x = y := by
  constructor
  · intro h
    obtain ⟨h1, h2⟩ := List.append_inj' h rfl
    exact ⟨h1, by simpa using h2⟩
  · rintro ⟨rfl, rfl⟩
    rfl
theorem look_mem {M : List (Int × Tm)} {n : Int} {t : Tm} (h : M.lookup n = some t) : (n, t) ∈ M := by
  induction M with
  | nil => cases h
  | cons e M ih =>
    obtain ⟨m, u⟩ := e
    rw [List.lookup_cons] at h
    by_cases z : n = m
    · subst z
      rw [beq_self_eq_true] at h
      cases h
      exact List.mem_cons_self
    · rw [beq_eq_false_iff_ne.mpr z] at h
      exact List.mem_cons_of_mem _ (ih h)
theorem look_no {M : List (Int × Tm)} {n : Int} (h : M.lookup n = none) : n ∉ keysOf M := by
  induction M with
  | nil => intro z; cases z
  | cons e M ih =>
    obtain ⟨m, u⟩ := e
    rw [List.lookup_cons] at h
    by_cases z : n = m
    · subst z
      rw [beq_self_eq_true] at h
      cases h
    · rw [beq_eq_false_iff_ne.mpr z] at h
      intro y
      rcases List.mem_cons.mp y with y | y
      · exact z y
      · exact ih h y
theorem look_at {M : List (Int × Tm)} {n : Int} {t : Tm} (nd : (keysOf M).Nodup) (h : (n, t) ∈ M) : M.lookup n = some t := by
  induction M with
  | nil => cases h
  | cons e M ih =>
    obtain ⟨m, u⟩ := e
    obtain ⟨n1, n2⟩ := List.nodup_cons.mp nd
    rw [List.lookup_cons]
    rcases List.mem_cons.mp h with h | h
    · cases h
      rw [beq_self_eq_true]
    · have z : ¬ n = m := fun z => n1 (z ▸ List.mem_map.mpr ⟨_, h, rfl⟩)
      rw [beq_eq_false_iff_ne.mpr z]
      exact ih n2 h
theorem ext_onv {M : List (Int × Tm)} (nd : (keysOf M).Nodup) : Ext M (onv M) := fun e he => by
  show (M.lookup e.1).getD _ = _
  rw [look_at nd (t := e.2) he]
  rfl
theorem ext_snoc {M : List (Int × Tm)} {n : Int} {t : Tm} {θ : Int → Tm} : Ext (M ++ [(n, t)]) θ ↔ Ext M θ ∧ θ n = t := by
  constructor
  · exact fun h => ⟨fun e he => h e (List.mem_append_left _ he), h (n, t) (List.mem_append_right _ (List.mem_singleton_self _))⟩
  · rintro ⟨h1, h2⟩ e he
    rcases List.mem_append.mp he with he | he
    · exact h1 e he
    · rw [List.mem_singleton.mp he]
      exact h2
theorem keys_snoc (M : List (Int × Tm)) (n : Int) (t : Tm) : keysOf (M ++ [(n, t)]) = keysOf M ++ [n] := by
  unfold keysOf
  rw [List.map_append]
  rfl
theorem MOk.snoc {f : Str → Nat} {M : List (Int × Tm)} {n : Int} {t : Tm} (h : MOk f M) (hn : M.lookup n = none) (h1 : t.In f) (h2 : t.high ≤ 64) : MOk f (M ++ [(n, t)]) := by
  refine ⟨?_, fun e he => ?_⟩
  · rw [keys_snoc]
    refine List.nodup_append.mpr ⟨h.1, (by simp), fun x hx y hy z => ?_⟩
    rw [List.mem_singleton.mp hy] at z
    exact look_no hn (z ▸ hx)
  · rcases List.mem_append.mp he with he | he
    · exact h.2 e he
    · rw [List.mem_singleton.mp he]
      exact ⟨h1, h2⟩
theorem fit_var_new {M : List (Int × Tm)} {n : Int} {t : Tm} : Fit true M (M ++ [(n, t)]) (.var n) t := by
  refine ⟨fun _ => ⟨fun m => ?_, fun θ => ext_snoc⟩, fun h => by cases h⟩
  rw [keys_snoc, List.mem_append]
  exact Iff.rfl
theorem fit_var_old {M : List (Int × Tm)} {n : Int} {t : Tm} (h : M.lookup n = some t) : Fit true M M (.var n) t := by
  have hm := look_mem h
  refine ⟨fun _ => ⟨fun m => ⟨.inl, fun z => ?_⟩, fun θ => ⟨fun e => ⟨e, e _ hm⟩, fun e => e.1⟩⟩, fun h => by cases h⟩
  rcases z with z | z
  · exact z
  · rw [List.mem_singleton.mp z]
    exact List.mem_map.mpr ⟨_, hm, rfl⟩
theorem fit_var_not {M : List (Int × Tm)} {n : Int} {t u : Tm} (h : M.lookup n = some u) (ne : u ≠ t) : Fit false M M (.var n) t :=
  ⟨(fun h => by cases h), fun _ θ e z => ne ((e _ (look_mem h)).symm.trans z)⟩
theorem sub_node {θ : Int → Tm} {w x : Str} {ps qs : List Tm} : (Tm.node w ps).sub θ = .node x qs ↔ w = x ∧ ps.map (fun p => p.sub θ) = qs := by
  show Tm.node w (Tm.subs θ ps) = _ ↔ _
  rw [Tm.subs_map]
  constructor
  · intro h; cases h; exact ⟨rfl, rfl⟩
  · rintro ⟨rfl, rfl⟩; rfl
theorem fit_apart {M : List (Int × Tm)} {p t : Tm} (h : ∀ θ, p.sub θ ≠ t) : Fit false M M p t := ⟨(fun z => by cases z), fun _ θ _ => h θ⟩
/-- what two substitutions that agree on a term do to its variables -/
theorem sub_agree {θ η : Int → Tm} : ∀ t : Tm, t.sub θ = t.sub η → ∀ n ∈ t.occ, θ n = η n
  | .var m, h, n, hn => by
    rw [List.mem_singleton.mp hn]
    exact h
  | .node w ps, h, n, hn => by
    have h' : Tm.subs θ ps = Tm.subs η ps := by
      have h2 : Tm.node w (Tm.subs θ ps) = Tm.node w (Tm.subs η ps) := h
      injection h2
    exact go ps h' n hn
where
  go : ∀ ps : List Tm, Tm.subs θ ps = Tm.subs η ps → ∀ n ∈ Tm.occs ps, θ n = η n
    | [], _, n, hn => by cases hn
    | p :: ps, h, n, hn => by
      have h2 : p.sub θ :: Tm.subs θ ps = p.sub η :: Tm.subs η ps := h
      injection h2 with a b
      rcases List.mem_append.mp hn with hn | hn
      · exact sub_agree p a n hn
      · exact go ps b n hn
/-- a pair more in a dict -/
theorem SubAt.put {H : Hp} {d : Addr} {M : List (Int × Tm)} {kvs : List (Key × V)} {n : Int} {v : V} {t : Tm} (h1 : H d = some (.dK kvs)) (h2 : Paired (fun (p : Key × V) (x : Int × Tm) => p.1 = Sum.inl x.1 ∧ TmAt H p.2 x.2) kvs M)
    (hn : valV kvs (Sum.inl n : Key) = none) (ht : TmAt H v t) : SubAt (upd H d (.dK (putK kvs (Sum.inl n) v))) d (M ++ [(n, t)]) := by
  have kz : ∀ o, KeepT H (upd H d (.dK o)) := fun o b xs hb => by rw [upd_ne (ne_of hb h1 (by intro z; cases z))]; exact hb
  refine ⟨kvs ++ [(Sum.inl n, v)], by rw [upd_same, putK_new _ hn], Paired.snoc (Paired.mapP h2 fun _ _ h => ⟨h.1, TmAt.keep (kz _) _ _ h.2⟩) ⟨rfl, TmAt.keep (kz _) _ _ ht⟩⟩
theorem SubAt.but {H H' : Hp} {d e : Addr} {M : List (Int × Tm)} (h : SubAt H d M) (b : But e H H') (ne : d ≠ e) (k : KeepT H H') : SubAt H' d M := by
  obtain ⟨kvs, h1, h2⟩ := h
  exact ⟨kvs, b _ _ ne h1, Paired.mapP h2 fun _ _ q => ⟨q.1, TmAt.keep k _ _ q.2⟩⟩
theorem KeepT.dict {H H' : Hp} {d : Addr} {M : List (Int × Tm)} (b : But d H H') (h : SubAt H d M) : KeepT H H' := fun q xs hq => by
  obtain ⟨kvs, h1, _⟩ := h
  exact b q _ (ne_of hq h1 (by intro z; cases z)) hq
theorem SubAt.len {H : Hp} {d : Addr} {M : List (Int × Tm)} {kvs : List (Key × V)} (h : SubAt H d M) (e : H d = some (.dK kvs)) : kvs.length = M.length := by
  obtain ⟨ks, h1, h2⟩ := h
  cases e.symm.trans h1
  exact Paired.length h2
theorem onv_in {M : List (Int × Tm)} {n : Int} (h : n ∈ keysOf M) : ∃ e ∈ M, onv M n = e.2 := by
  cases z : M.lookup n with
  | none => exact absurd h (look_no z)
  | some t => exact ⟨(n, t), look_mem z, by unfold onv; rw [z]; rfl⟩
theorem sorted_same {xs ys zs ws : List Int} (h1 : ys.Perm xs) (h2 : ws.Perm zs) (s1 : ys.Pairwise (· ≤ ·)) (s2 : ws.Pairwise (· ≤ ·)) (d1 : xs.Nodup) (d2 : zs.Nodup) (e : ∀ n, n ∈ xs ↔ n ∈ zs) : ys = ws := by
  have p : xs.Perm zs := (List.perm_ext_iff_of_nodup d1 d2).mpr e
  exact List.Perm.eq_of_pairwise (le := fun a b => a ≤ b) (fun a b _ _ h k => Int.le_antisymm h k) s1 s2 (h1.trans (p.trans h2.symm))
theorem keys_kvs {H : Hp} : ∀ {kvs : List (Key × V)} {M : List (Int × Tm)}, Paired (fun (p : Key × V) (x : Int × Tm) => p.1 = Sum.inl x.1 ∧ TmAt H p.2 x.2) kvs M → kvs.map (·.1) = (keysOf M).map Sum.inl
  | _, _, .nil => rfl
  | _, _, .cons h t => List.cons_eq_cons.mpr ⟨h.1, keys_kvs t⟩
theorem ne_of_none_of_some {H : Hp} {d e : Addr} {o : HO} (h : H d = none) (k : H e = some o) : d ≠ e := fun z => by rw [z, k] at h; cases h
end Cf
namespace Cf
open PySem L2
abbrev sTaken : Stmt := top 17
def spTaken (n : Nat) : Sp := fun vs H Q _ => ∃ (v u : V) (d : Addr) (p t : Tm) (f : Str → Nat) (M : List (Int × Tm)), vs = [v, u, .ref d] ∧ TmAt H v p ∧ TmAt H u t ∧ p.In f ∧ t.In f ∧ p.high ≤ n ∧ t.high ≤ 64 ∧ SubAt H d M ∧ MOk f M ∧ M.length + p.size ≤ 1000 ∧
  ∀ (b : Bool) (M' : List (Int × Tm)) (H' : Hp), SubAt H' d M' → MOk f M' → M'.length ≤ M.length + p.size → But d H H' → Fit b M M' p t → Q (.bl b) H'
section
variable {P : Program} {w : World} {K : PySem.W.Frag} {mg : Str → Option Value} {base : Heap}
theorem scTaken : FnScope ["general", "term", "given", "k"] ["general", "term", "given"] (defScope sTaken) := ⟨rfl, rfl, rfl, by decide +kernel, rfl, by decide +kernel, by decide +kernel⟩
theorem ok_taken1 {n : Nat} {f g : Addr} {fd gd : FuncData} (F : Fun K "_law_taken" "_law_taken" sTaken f fd) (B : Blt mg) (G : FnOk P w K mg base CX0 1 g gd ["actual"] spIsInt) (bG : Binds K gd ["actual"] [])
    (kG : PySem.W.keepIn K (.ref g) = true) (mG : mg "_law_is_integer" = some (.ref g)) (R : FnOk P w K mg base CX0 (n + 1) f fd ["general", "term", "given"] (spTaken n)) (bR : Binds K fd ["general", "term", "given"] []) (mR : mg "_law_taken" = some (.ref f)) :
    FnOk P w K mg base CX0 (n + 2) f fd ["general", "term", "given"] (spTaken (n + 1)) := by
  have kR := F.kp
  refine F.ok scTaken (fun vs H Q E h => ?_) (fun cdv A outer s H vs Q E hr h => ?_)
  · obtain ⟨v, u, d, p, t, ar, M, rfl, _⟩ := h
    rfl
  obtain ⟨v, u, d, p, t, ar, M, rfl, hp, ht, ip, it, hh, ht64, hd, hM, hz, q⟩ := h
  have nd := scTaken.nd
  have hu := hu_of hr
  refine ⟨_, pss_cons (ps_if (pt_val (pe_call G (hr.mono (by omega)) rfl mG kG bG .nil pass0 (pa_cons (pv 0) pa_nil)))
      (pss_cons (ps_if (pt_cmp (pc_din hu (pv 0) (pv 2))) (pss_one (ps_ret (pe_cmpR (op_eqD hr.units) (pe_dget hu (pv 2) (pv 0) (fun _ _ => rfl)) (pv 1) (nomark _)))) pss_nil)
      (pss_cons (ps_dput hu (pv 2) (pv 0) (pv 1) rfl) (pss_one (ps_ret pe_bl)))) pss_nil)
    (pss_cons (ps_if (PW.pt (pw_or (pt_val (pe_call G (hr.mono (by omega)) rfl mG kG bG .nil pass0 (pa_cons (pv 1) pa_nil))) (pw_or (pt_cmpR op_ne (pe_ix ix_tup (pv 0) pe_int (fun _ _ => rfl)) (pe_ix ix_tup (pv 1) pe_int (fun _ _ => rfl)) (nomark _))
        (pw_or1 (pt_cmpR op_ne (pe_callB call_len_seq (by rfl) B.len PySem.boot_len (pa_cons (pv 0) pa_nil)) (pe_callB call_len_seq (by rfl) B.len PySem.boot_len (pa_cons (pv 1) pa_nil)) (nomark _))))))
      (pss_one (ps_ret pe_bl)) pss_nil)
    (pss_cons (ps_for PassesOwn.never rfl (pi_range2 rfl B.range (pa_cons pe_int (pa_cons (pe_callB call_len_seq (by rfl) B.len PySem.boot_len (pa_cons (pv 1) pa_nil)) pa_nil))) (pg_name (i := 3) nd rfl (.inl rfl))
      (pss_one (ps_if (pt_not (pt_val (pe_call R hr rfl mR kR bR .nil pass0 (pa_cons (pe_ix ix_tup (pv 0) (pv 3) (fun _ _ => rfl)) (pa_cons (pe_ix ix_tup (pv 1) (pv 3) (fun _ _ => rfl)) (pa_cons (pv 2) pa_nil)))))) (pss_one (ps_ret pe_bl)) pss_nil)))
    (pss_one (ps_ret pe_bl)))), ?_⟩
  have hlen := fun kvs e => hd.len (kvs := kvs) e
  cases hp with
  | var m =>
    refine ⟨_, rfl, _, "int", rfl, rfl, _, rfl, iteT ?_⟩
    obtain ⟨kvs, hk, hl⟩ := hd.look m
    refine ⟨_, rfl, _, rfl, d, _, rfl, DGet.k (k := Sum.inl m) hk, _, rfl, ?_⟩
    rcases hl with ⟨v', t', e1, e2, e3⟩ | ⟨e1, e2⟩
    · rw [e1]
      refine iteT ⟨_, rfl, _, rfl, d, v', rfl, by rw [← e1]; exact DGet.k (k := Sum.inl m) hk, _, rfl, ?_⟩
      have hM' := hM.2 _ (look_mem e2)
      exact eq_tm e3 ht hM'.1 it hM'.2 ht64 (fun e => q true M H hd hM (Nat.le_add_right _ _) (But.refl _ _) (fit_var_old (e ▸ e2))) fun e => q false M H hd hM (Nat.le_add_right _ _) (But.refl _ _) (fit_var_not e2 e)
    · rw [e1]
      have hl2 := hlen _ hk
      have hsz : Tm.size (.var m) = 1 := rfl
      refine iteF ⟨_, rfl, _, rfl, _, rfl, d, _, rfl, DPut.k (k := Sum.inl m) hk (small1000 (by omega)), ?_⟩
      obtain ⟨ks, h1, h2⟩ := hd
      cases hk.symm.trans h1
      exact q true _ _ (SubAt.put hk h2 e1 ht) (hM.snoc e2 it ht64) (by rw [List.length_append]; exact Nat.le_refl _) But.put fit_var_new
  | @node z x vs ps h1 h2 =>
    refine ⟨_, rfl, _, "tuple", rfl, .inr (.inl ⟨rfl, _, h1⟩), _, rfl, iteF ?_⟩
    cases ht with
    | var m =>
      refine ⟨_, rfl, _, "int", rfl, rfl, _, rfl, iteT ?_⟩
      exact q false M H hd hM (Nat.le_add_right _ _) (But.refl _ _) (fit_apart fun θ z => by cases z)
    | @node z2 y us qs g1 g2 =>
      refine ⟨_, rfl, _, "tuple", rfl, .inr (.inl ⟨rfl, _, g1⟩), _, rfl, iteF ?_⟩
      refine ⟨_, rfl, z, _, 0, _, rfl, rfl, SqT.of h1, at_of (j := 0) rfl rfl, _, rfl, z2, _, 0, _, rfl, rfl, SqT.of g1, at_of (j := 0) rfl rfl, ?_⟩
      have e1 : Tm.high (.node x ps) = 1 + Tm.highs ps := rfl
      have e2 : Tm.size (.node x ps) = 1 + Tm.sizes ps := rfl
      have e3 : Tm.high (.node y qs) = 1 + Tm.highs qs := rfl
      have lv := h2.length
      have lu := g2.length
      have lps := Tm.sizes_len ps
      refine ⟨rfl, _, rfl, ite2 (fun c => ?_) (fun c => ?_)⟩
      · refine q false M H hd hM (Nat.le_add_right _ _) (But.refl _ _) (fit_apart fun θ e => ?_)
        obtain ⟨e, _⟩ := sub_node.mp e
        subst e
        simp at c
      have exy : x = y := by
        have c' : V.str x = V.str y := by simpa using c
        exact V.str.inj c'
      subst exy
      have hpq : ps.length = qs.length := by rw [ip.1, it.1]
      refine ⟨_, rfl, z, _, rfl, .inr (SqT.of h1), _, rfl, z2, _, rfl, .inr (SqT.of g1), rfl, _, rfl, ite2 (fun c => ?_) (fun c => ?_)⟩
      · exfalso
        rw [List.length_cons, List.length_cons, lv, lu, hpq] at c
        simp at c
      have hul : us.length ≤ 1000 := by omega
      refine ⟨_, rfl, z2, _, rfl, .inr (SqT.of g1), 1, _, rfl, ⟨by omega, by omega, by rw [List.length_cons]; omega, by rw [List.length_cons]; omega⟩, ?_⟩
      have en : ((((V.str x :: us).length : Nat) : Int) - 1).toNat = vs.length := by rw [List.length_cons]; omega
      rw [en]
      refine for_range (n := vs.length) (fun i σ H' => ∃ (x3 : Option V) (Mi : List (Int × Tm)), σ = [some (.ref z), some (.ref z2), some (.ref d), x3] ∧ SubAt H' d Mi ∧ MOk ar Mi ∧ Mi.length ≤ M.length + Tm.sizes (ps.take i) ∧ But d H H' ∧
          (∀ n, n ∈ keysOf Mi ↔ n ∈ keysOf M ∨ n ∈ Tm.occs (ps.take i)) ∧ ∀ θ, Ext Mi θ ↔ Ext M θ ∧ (ps.take i).map (fun p => p.sub θ) = qs.take i)
        ⟨none, M, rfl, hd, hM, Nat.le_add_right _ _, But.refl _ _, fun n => ⟨.inl, fun h => h.elim id fun h => by cases h⟩, fun θ => ⟨fun e => ⟨e, rfl⟩, fun e => e.1⟩⟩ (fun i σ H' hi hp => ?_) (fun σ H' hp => ?_)
      · obtain ⟨x3, Mi, rfl, k1, k2, k3, k4, k5, k6⟩ := hp
        have hil : i < ps.length := by omega
        have hiq : i < qs.length := by omega
        have hpi : ps[i]? = some ps[i] := List.getElem?_eq_getElem hil
        have hqi : qs[i]? = some qs[i] := List.getElem?_eq_getElem hiq
        obtain ⟨a, ha1, ha2⟩ := h2.get hpi
        obtain ⟨b, hb1, hb2⟩ := g2.get hqi
        have kk := KeepT.dict k4 hd
        have m1 := Tm.size_mem (List.getElem_mem hil)
        have m2 := Tm.high_mem (List.getElem_mem hil)
        have m3 := Tm.high_mem (List.getElem_mem hiq)
        have sz : Tm.sizes (ps.take i) + ps[i].size = Tm.sizes (ps.take (i + 1)) := by
          rw [List.take_add_one, hpi, Tm.sizes_append]
          rfl
        have sz2 : Tm.sizes (ps.take (i + 1)) ≤ Tm.sizes ps := by
          have e := congrArg Tm.sizes (List.take_append_drop (i + 1) ps)
          rw [Tm.sizes_append] at e
          omega
        have ei : (1 : Int) + (i : Int) = ((i + 1 : Nat) : Int) := by omega
        refine ⟨_, rfl, _, rfl, z, _, 1 + (i : Int), a, rfl, rfl, SqT.of (kk _ _ h1), by rw [ei]; exact atI_nat (by simpa using ha1), ?_⟩
        refine ⟨_, rfl, _, rfl, z2, _, 1 + (i : Int), b, rfl, rfl, SqT.of (kk _ _ g1), by rw [ei]; exact atI_nat (by simpa using hb1), ?_⟩
        refine ⟨_, rfl, a, b, d, ps[i], qs[i], ar, Mi, rfl, TmAt.keep kk _ _ ha2, TmAt.keep kk _ _ hb2, Tm.ins_mem ip.2.2 (List.getElem_mem hil), Tm.ins_mem it.2.2 (List.getElem_mem hiq), by omega, by omega, k1, k2, by omega, fun ok M2 H2 j1 j2 j3 j4 j5 => ?_⟩
        have k4' := k4.trans j4
        cases ok with
        | false =>
          refine ⟨_, rfl, iteT (q false M2 H2 j1 j2 (by omega) k4' ⟨(fun h => by cases h), fun _ θ e1 e2 => ?_⟩)⟩
          obtain ⟨_, e3⟩ := sub_node.mp e2
          subst e3
          refine j5.no rfl θ ((k6 θ).mpr ⟨e1, ?_⟩) ?_
          · rw [List.map_take]
          · rw [List.getElem_map]
        | true =>
          obtain ⟨y1, y2⟩ := j5.yes rfl
          refine ⟨_, rfl, iteF ⟨some (.int (1 + (i : Int))), M2, rfl, j1, j2, by omega, k4', fun n => ?_, fun θ => ?_⟩⟩
          · rw [y1 n, k5 n, List.take_add_one, hpi, Tm.occs_append, List.mem_append]
            show _ ↔ _ ∨ _ ∨ n ∈ ps[i].occ ++ []
            rw [List.append_nil, or_assoc]
          · rw [y2 θ, k6 θ, List.take_add_one, hpi, List.map_append, List.take_add_one, hqi]
            show _ ↔ _ ∧ _ ++ [ps[i].sub θ] = _ ++ [qs[i]]
            rw [snoc_inj, and_assoc]
      · obtain ⟨x3, Mi, rfl, k1, k2, k3, k4, k5, k6⟩ := hp
        rw [lv, List.take_length] at k3 k5
        refine (q true Mi H' k1 k2 (by omega) k4 ⟨fun _ => ⟨k5, fun θ => ?_⟩, fun h => by cases h⟩)
        rw [k6 θ, lv, List.take_length, hpq, List.take_length, sub_node]
        exact ⟨fun e => ⟨e.1, rfl, e.2⟩, fun e => ⟨e.1, e.2.2⟩⟩
theorem ok_taken {f g : Addr} {fd gd : FuncData} (F : Fun K "_law_taken" "_law_taken" sTaken f fd) (B : Blt mg) (G : FnOk P w K mg base CX0 1 g gd ["actual"] spIsInt) (bG : Binds K gd ["actual"] [])
    (kG : PySem.W.keepIn K (.ref g) = true) (mG : mg "_law_is_integer" = some (.ref g)) (bR : Binds K fd ["general", "term", "given"] []) (mR : mg "_law_taken" = some (.ref f)) : ∀ n : Nat, FnOk P w K mg base CX0 (n + 1) f fd ["general", "term", "given"] (spTaken n)
  | 0 => none_left fun vs H Q E h => by
    obtain ⟨v, u, d, p, t, ar, M, _, _, _, _, _, h1, _⟩ := h
    have := p.high_pos
    omega
  | n + 1 => ok_taken1 F B G bG kG mG (ok_taken F B G bG kG mG bR mR n) bR mR
end
end Cf
namespace Cf
open PySem L2
theorem paired_append {α β : Type} {F : α → β → Prop} : ∀ {xs us : List α} {ys ws : List β}, Paired F xs ys → Paired F us ws → Paired F (xs ++ us) (ys ++ ws)
  | _, _, _, _, .nil, k => k
  | _, _, _, _, .cons h t, k => .cons h (paired_append t k)
theorem paired_last {α β : Type} {F : α → β → Prop} : ∀ {us : List α} {v : α} {ts : List β}, Paired F (us ++ [v]) ts → ∃ rs t, ts = rs ++ [t] ∧ Paired F us rs ∧ F v t
  | [], _, _, .cons h .nil => ⟨[], _, rfl, .nil, h⟩
  | u :: us, _, _, .cons h t => by
    obtain ⟨rs, x, rfl, a, b⟩ := paired_last t
    exact ⟨_ :: rs, x, rfl, .cons h a, b⟩
end Cf
namespace Cf
open PySem L2
abbrev sMatch : Stmt := top 1
/-- a pair of terms stands at a value -/
def PrAt (H : Hp) (v : V) (x : Tm × Tm) : Prop := ∃ (T : Addr) (a b : V), v = .ref T ∧ H T = some (.tup [a, b]) ∧ TmAt H a x.1 ∧ TmAt H b x.2
theorem PrAt.keep {H H' : Hp} (e : KeepT H H') {v : V} {x : Tm × Tm} (h : PrAt H v x) : PrAt H' v x := by
  obtain ⟨T, a, b, rfl, h1, h2, h3⟩ := h
  exact ⟨T, a, b, rfl, e _ _ h1, TmAt.keep e _ _ h2, TmAt.keep e _ _ h3⟩
def lefts (W : List (Tm × Tm)) : List Tm := W.map (·.1)
def Sol (W : List (Tm × Tm)) (θ : Int → Tm) : Prop := ∀ e ∈ W, e.1.sub θ = e.2
theorem sol_append {W U : List (Tm × Tm)} {θ : Int → Tm} : Sol (W ++ U) θ ↔ Sol W θ ∧ Sol U θ :=
  ⟨fun h => ⟨fun e he => h e (List.mem_append_left _ he), fun e he => h e (List.mem_append_right _ he)⟩, fun h e he => (List.mem_append.mp he).elim (h.1 e) (h.2 e)⟩
theorem sol_one {a b : Tm} {θ : Int → Tm} : Sol [(a, b)] θ ↔ a.sub θ = b :=
  ⟨fun h => h (a, b) (List.mem_singleton_self _), fun h e he => by rw [List.mem_singleton.mp he]; exact h⟩
theorem sol_zip {θ : Int → Tm} : ∀ {ps qs : List Tm}, ps.length = qs.length → (Sol (ps.zip qs) θ ↔ ps.map (fun p => p.sub θ) = qs)
  | [], [], _ => ⟨fun _ => rfl, fun _ e he => by cases he⟩
  | [], _ :: _, h => by cases h
  | _ :: _, [], h => by cases h
  | p :: ps, q :: qs, h => by
    have ih := sol_zip (θ := θ) (ps := ps) (qs := qs) (Nat.succ.inj h)
    rw [List.zip_cons_cons, List.map_cons, List.cons.injEq, ← ih]
    exact ⟨fun z => ⟨z (p, q) List.mem_cons_self, fun e he => z e (List.mem_cons_of_mem _ he)⟩, fun z e he => (List.mem_cons.mp he).elim (fun x => by rw [x]; exact z.1) (z.2 e)⟩
theorem lefts_append (W U : List (Tm × Tm)) : lefts (W ++ U) = lefts W ++ lefts U := List.map_append
theorem lefts_zip {ps qs : List Tm} (h : ps.length = qs.length) : lefts (ps.zip qs) = ps := List.map_fst_zip (by omega)
theorem lefts_len (W : List (Tm × Tm)) : W.length ≤ Tm.sizes (lefts W) := by
  have h := Tm.sizes_len (lefts W)
  unfold lefts at h
  rw [List.length_map] at h
  exact h
def PrOk (f : Str → Nat) (e : Tm × Tm) : Prop := e.1.In f ∧ e.2.In f ∧ e.1.high ≤ 64 ∧ e.2.high ≤ 64
/-- the parts of two terms, paired -/
theorem parts_at {H : Hp} : ∀ {Ts : List Addr} {vs us : List V} {ps qs : List Tm}, Ts.length = min vs.length us.length → ps.length = qs.length →
    (∀ (j : Nat) (T : Addr) (x y : V), Ts[j]? = some T → vs[j]? = some x → us[j]? = some y → H T = some (.tup [x, y])) → TmsAt H vs ps → TmsAt H us qs → Paired (PrAt H) (Ts.map V.ref) (ps.zip qs)
  | [], [], _, _, _, _, _, _, h1, _ => by cases h1; exact .nil
  | [], v :: vs, [], _, _, _, hl, _, h1, h2 => by
    have e1 := h1.length
    have e2 := h2.length
    rw [← e1, ← e2] at hl
    cases hl
  | [], v :: vs, u :: us, _, _, h, _, _, _, _ => by
    rw [List.length_cons, List.length_cons, List.length_nil] at h
    omega
  | T :: Ts, [], _, _, _, h, _, _, _, _ => by
    rw [List.length_cons, List.length_nil] at h
    omega
  | T :: Ts, v :: vs, [], _, _, h, _, _, _, _ => by
    rw [List.length_cons, List.length_nil] at h
    omega
  | T :: Ts, v :: vs, u :: us, _, _, h, hl, k, h1, h2 => by
    cases h1 with
    | cons a1 a2 =>
      cases h2 with
      | cons b1 b2 =>
        refine .cons ⟨T, v, u, rfl, k 0 T v u rfl rfl rfl, a1, b1⟩ (parts_at ?_ (Nat.succ.inj hl) (fun j T x y e1 e2 e3 => k (j + 1) T x y (by simpa using e1) (by simpa using e2) (by simpa using e3)) a2 b2)
        rw [List.length_cons, List.length_cons, List.length_cons] at h
        omega
def spMatch : Sp := fun vs H Q _ => ∃ (v u : V) (p t : Tm) (f : Str → Nat), vs = [v, u] ∧ TmAt H v p ∧ TmAt H u t ∧ p.In f ∧ t.In f ∧ p.high ≤ 64 ∧ t.high ≤ 64 ∧ p.size ≤ 1000 ∧
  (∀ H', Same H H' → (∀ θ, p.sub θ ≠ t) → Q .non H') ∧
  ∀ (d : Addr) (M : List (Int × Tm)) (H' : Hp), H d = none → SubAt H' d M → MOk f M → M.length ≤ p.size → Same H H' → (∀ n, n ∈ keysOf M ↔ n ∈ p.occ) → (∀ θ, Ext M θ ↔ p.sub θ = t) → Q (.ref d) H'
section
variable {P : Program} {w : World} {K : PySem.W.Frag} {mg : Str → Option Value} {base : Heap}
theorem scMatch : FnScope ["p", "t", "found", "waiting", "one", "two"] ["p", "t"] (defScope sMatch) := ⟨rfl, rfl, rfl, by decide +kernel, rfl, by decide +kernel, by decide +kernel⟩
theorem ok_match {f : Addr} {fd : FuncData} (F : Fun K "match" "match" sMatch f fd) (B : Blt mg) : FnOk P w K mg base CX0 1 f fd ["p", "t"] spMatch := by
  refine F.ok scMatch (fun vs H Q E h => ?_) (fun cdv A outer s H vs Q E hr h => ?_)
  · obtain ⟨v, u, p, t, ar, rfl, _⟩ := h
    rfl
  obtain ⟨v, u, p, t, ar, rfl, hp, ht, ip, it, hp64, ht64, hz, qn, qd⟩ := h
  have nd := scMatch.nd
  have hu := hu_of hr
  refine ⟨_, pss_cons (ps_set (i := 2) nd rfl (.inl rfl) pe_dnewK)
    (pss_cons (ps_set (i := 3) nd rfl (.inl rfl) (pe_lst (pa_cons (pe_tup (pa_cons (pv 0) (pa_cons (pv 1) pa_nil))) pa_nil)))
    (pss_cons (ps_while PassesOwn.never (pt_truth (pv 3) (by intro _; rfl))
      (pss_cons (ps_asg (pe_bm0 PySem.F.plainAttrs_list PySem.F.slot_list_pop PySem.F.type_list_pop mt_pop (pv 3)) (pg_tup rfl (pgs_cons (pg_name (i := 4) nd rfl (.inl rfl)) (pgs_cons (pg_name (i := 5) nd rfl (.inl rfl)) pgs_nil))))
      (pss_one (ps_if (pt_cmpR op_isTy (pe_callTy RZ.call_type4 (by rfl) B.type (by decide +kernel) (pa_cons (pv 4) pa_nil)) (pe_bltn (v := .ty "int") (by rfl) B.int (by decide +kernel) rfl) (nomark _))
        (pss_one (ps_if (pt_cmpR (op_neD hr.units) (pe_dsetd (pv 2) (pv 4) (pv 5) ⟨rfl, rfl, rfl, rfl⟩) (pv 5) (nomark _)) (pss_one (ps_ret pe_non)) pss_nil))
        (pss_one (ps_if (PW.pt (pw_or (pt_cmpR op_isTy (pe_callTy RZ.call_type4 (by rfl) B.type (by decide +kernel) (pa_cons (pv 5) pa_nil)) (pe_bltn (v := .ty "int") (by rfl) B.int (by decide +kernel) rfl) (nomark _))
            (pw_or1 (pt_cmpR op_ne (pe_ix ix_tup (pv 4) pe_int (fun _ _ => rfl)) (pe_ix ix_tup (pv 5) pe_int (fun _ _ => rfl)) (nomark _)))))
          (pss_one (ps_ret pe_non))
          (pss_one (ps_expr (pe_bm PySem.F.plainAttrs_list PySem.F.slot_list_extend PySem.F.type_list_extend mt_extend (pv 3) (pa_cons
            (Cr.pe_listZip (by rfl) B.list (by rfl) B.zip (pa_cons (pe_slice sl_tup (pv 4) (po_some pe_int) po_none) (pa_cons (pe_slice sl_tup (pv 5) (po_some pe_int) po_none) pa_nil))) pa_nil))))))))))
    (pss_one (ps_ret (pv 2))))), ?_⟩
  intro d nod
  refine ⟨_, rfl, _, rfl, (by show 2 ≤ sizeLine; decide), fun T0 nT0 => ⟨(by show 1 ≤ sizeLine; decide), fun q nq => ?_⟩⟩
  have s1 := same_new nod (HO.dK [])
  have s2 := s1.trans (same_new nT0 (HO.tup [v, u]))
  have hq : H q = none := s2.free nq
  have s3 := s2.trans (same_new nq (HO.lst [V.ref T0]))
  have hTq : T0 ≠ q := ne_of_none upd_same nq
  have hdT : d ≠ T0 := ne_of_none upd_same nT0
  have hdq : d ≠ q := ne_of_none (by rw [upd_ne hdT]; exact upd_same) nq
  dsimp only [gName, tSeq]
  refine ⟨fun n σ H1 => ∃ (M : List (Int × Tm)) (vs : List V) (W : List (Tm × Tm)) (x4 x5 : Option V), σ = [some v, some u, some (.ref d), some (.ref q), x4, x5] ∧ H1 q = some (.lst vs) ∧ Paired (PrAt H1) vs W ∧ SubAt H1 d M ∧ MOk ar M ∧ (∀ e ∈ W, PrOk ar e) ∧
      M.length + Tm.sizes (lefts W) ≤ p.size ∧ Tm.sizes (lefts W) = n ∧ (∀ n, (n ∈ keysOf M ∨ n ∈ Tm.occs (lefts W)) ↔ n ∈ p.occ) ∧ (∀ θ, (Ext M θ ∧ Sol W θ) ↔ p.sub θ = t) ∧ Same H H1,
    ⟨_, [], [.ref T0], [(p, t)], none, none, rfl, upd_same, .cons ⟨T0, v, u, rfl, by rw [upd_ne hTq]; exact upd_same, TmAt.keep (KeepT.of s3) _ _ hp, TmAt.keep (KeepT.of s3) _ _ ht⟩ .nil,
      ⟨[], by rw [upd_ne hdq, upd_ne hdT]; exact upd_same, .nil⟩, ⟨List.nodup_nil, (fun _ h => by cases h)⟩, fun e he => by rw [List.mem_singleton.mp he]; exact ⟨ip, it, hp64, ht64⟩, ?_, rfl, fun n => ?_, fun θ => ?_, s3⟩, fun n σ H1 hh => ?_⟩
  · show 0 + (p.size + 0) ≤ p.size
    omega
  · show (n ∈ [] ∨ n ∈ p.occ ++ []) ↔ _
    rw [List.append_nil]
    exact ⟨fun h => h.elim (fun h => (by cases h)) id, .inr⟩
  · rw [sol_one]
    exact ⟨fun h => h.2, fun h => ⟨(fun _ he => by cases he), h⟩⟩
  obtain ⟨M, vs, W, x4, x5, rfl, h1, h2, h3, h4, h5, h6, h7, h8, h9, h10⟩ := hh
  rcases last_cases vs with rfl | ⟨us, x, rfl⟩
  · refine ⟨_, rfl, false, .inl ⟨[], SqL.of h1, rfl⟩, iteF ?_⟩
    cases h2
    refine ⟨_, rfl, qd d M H1 nod h3 h4 (by omega) h10 (fun n => ?_) fun θ => ?_⟩
    · rw [← h8 n]
      exact ⟨.inl, fun h => h.elim id (fun h => (by cases h))⟩
    · rw [← h9 θ]
      exact ⟨fun h => ⟨h, (fun _ he => by cases he)⟩, fun h => h.1⟩
  have hne : (!(us ++ [x]).isEmpty) = true := by simp
  refine ⟨_, rfl, true, .inl ⟨_, SqL.of h1, hne.symm⟩, iteT ⟨_, fun _ _ h => h, ?_⟩⟩
  obtain ⟨W', ⟨a, b⟩, rfl, g1, ⟨T, ya, yb, rfl, g2, g3, g4⟩⟩ := paired_last h2
  refine ⟨_, rfl, .inl ⟨rfl, _, SqL.of h1⟩, q, _, _, rfl, rfl, h1, pop_at us _, ?_⟩
  rw [List.dropLast_concat]
  have ok := h5 (a, b) (by simp)
  have hsz : Tm.sizes (lefts (W' ++ [(a, b)])) = Tm.sizes (lefts W') + a.size := by rw [lefts_append, Tm.sizes_append]; rfl
  have hap := a.size_pos
  have k2 : ∀ o, KeepT H1 (upd H1 q (.lst o)) := fun o y xs hy => by rw [upd_ne (ne_of hy h1 (by intro z; cases z))]; exact hy
  have s4 : ∀ o, Same H (upd H1 q (.lst o)) := fun o b u hb => by rw [upd_ne (ne_of_none hb hq)]; exact h10 _ _ hb
  have d1 : ∀ o, SubAt (upd H1 q (.lst o)) d M := fun o => by
    obtain ⟨kvs, z1, z2⟩ := h3
    exact ⟨kvs, by rw [upd_ne hdq]; exact z1, Paired.mapP z2 fun _ _ h => ⟨h.1, TmAt.keep (k2 o) _ _ h.2⟩⟩
  have occs : ∀ n, n ∈ Tm.occs (lefts (W' ++ [(a, b)])) ↔ n ∈ Tm.occs (lefts W') ∨ n ∈ a.occ := fun n => by
    rw [lefts_append, Tm.occs_append, List.mem_append]
    show _ ∨ n ∈ a.occ ++ [] ↔ _
    rw [List.append_nil]
  refine ⟨T, _, rfl, SqT.of (k2 us _ _ g2), rfl, ya, _, rfl, yb, _, rfl, rfl, ?_⟩
  have g1' : Paired (PrAt (upd H1 q (.lst us))) us W' := Paired.mapP g1 fun _ _ h => h.keep (k2 us)
  have g3' := TmAt.keep (k2 us) _ _ g3
  have g4' := TmAt.keep (k2 us) _ _ g4
  have lW := lefts_len W'
  have lu := g1.length
  cases g3' with
  | var m =>
    refine ⟨_, rfl, _, _, rfl, .int m, _, _, rfl, rfl, _, rfl, ite2 (fun _ => ?_) (fun c => absurd rfl (of_decide_eq_false (Bool.eq_false_iff.mpr c)))⟩
    have e1 : Tm.size (.var m) = 1 := rfl
    have d1' := d1 us
    obtain ⟨kvs, hk, hl⟩ := d1'.look m
    have hlen := d1'.len hk
    have more : ∀ (M2 : List (Int × Tm)) (H2 : Hp), H2 q = some (.lst us) → KeepT (upd H1 q (.lst us)) H2 → SubAt H2 d M2 → MOk ar M2 → M2.length ≤ M.length + 1 → (∀ n, n ∈ keysOf M2 ↔ n ∈ keysOf M ∨ n = m) → (∀ θ, Ext M2 θ ↔ Ext M θ ∧ θ m = b) → Same H H2 →
        ∃ n', n' < n ∧ ∃ (M : List (Int × Tm)) (vs : List V) (W : List (Tm × Tm)) (x4 x5 : Option V), [some v, some u, some (V.ref d), some (V.ref q), some (V.int m), some yb] = [some v, some u, some (.ref d), some (.ref q), x4, x5] ∧ H2 q = some (.lst vs) ∧ Paired (PrAt H2) vs W ∧ SubAt H2 d M ∧ MOk ar M ∧ (∀ e ∈ W, PrOk ar e) ∧
          M.length + Tm.sizes (lefts W) ≤ p.size ∧ Tm.sizes (lefts W) = n' ∧ (∀ n, (n ∈ keysOf M ∨ n ∈ Tm.occs (lefts W)) ↔ n ∈ p.occ) ∧ (∀ θ, (Ext M θ ∧ Sol W θ) ↔ p.sub θ = t) ∧ Same H H2 := by
      intro M2 H2 z1 z2 z3 z4 z5 z6 z7 z8
      refine ⟨Tm.sizes (lefts W'), by omega, M2, us, W', _, _, rfl, z1, Paired.mapP g1' fun _ _ h => h.keep z2, z3, z4, fun e he => h5 e (List.mem_append_left _ he), by omega, rfl, fun n => ?_, fun θ => ?_, z8⟩
      · rw [← h8 n, occs n, z6 n]
        show _ ↔ _ ∨ _ ∨ n ∈ [m]
        rw [List.mem_singleton, or_assoc, or_comm (a := n = m)]
      · rw [← h9 θ, sol_append, sol_one, z7 θ]
        show _ ↔ _ ∧ _ ∧ θ m = b
        rw [and_assoc, and_comm (a := θ m = b)]
    refine ⟨_, rfl, d, rfl, .inl ⟨kvs, .inl hk⟩, _, rfl, _, rfl, kvs, Sum.inl m, hk, rfl, small1000 (by omega), fun c hc => ?_, fun hn => ?_⟩
    · rcases hl with ⟨v', t', l1, l2, l3⟩ | ⟨l1, l2⟩
      · cases hc.symm.trans l1
        have hM' := h4.2 _ (look_mem l2)
        refine ⟨_, rfl, ne_tm l3 g4' hM'.1 ok.2.1 hM'.2 ok.2.2.2 (fun e => ⟨_, rfl, iteF ?_⟩) fun e => ⟨_, rfl, iteT ?_⟩⟩
        · subst e
          refine more M _ upd_same (fun _ _ h => h) d1' h4 (Nat.le_succ _) (fun n => ⟨.inl, fun h => h.elim id fun h => ?_⟩) (fun θ => ⟨fun e => ⟨e, e _ (look_mem l2)⟩, fun e => e.1⟩) (s4 _)
          rw [h]
          exact List.mem_map.mpr ⟨_, look_mem l2, rfl⟩
        · refine qn _ (s4 _) fun θ eθ => e ?_
          obtain ⟨z1, z2⟩ := (h9 θ).mpr eθ
          exact (z1 _ (look_mem l2)).symm.trans (z2 (.var m, b) (by simp))
      · rw [l1] at hc
        cases hc
    · rcases hl with ⟨v', t', l1, l2, l3⟩ | ⟨l1, l2⟩
      · rw [l1] at hn
        cases hn
      · obtain ⟨ks, z1, z2⟩ := d1'
        cases hk.symm.trans z1
        have kz : ∀ o, KeepT (upd H1 q (.lst us)) (upd (upd H1 q (.lst us)) d (.dK o)) := fun o b xs hb => by rw [upd_ne (ne_of hb hk (by intro z; cases z))]; exact hb
        refine ⟨_, rfl, ne_tm (TmAt.keep (kz _) _ _ g4') (TmAt.keep (kz _) _ _ g4') ok.2.1 ok.2.1 ok.2.2.2 ok.2.2.2 (fun _ => ⟨_, rfl, iteF ?_⟩) fun e => absurd rfl e⟩
        refine more (M ++ [(m, b)]) _ (by rw [upd_ne hdq.symm]; exact upd_same) (kz _) (SubAt.put hk z2 l1 g4') (h4.snoc l2 ok.2.1 ok.2.2.2) (by rw [List.length_append]; exact Nat.le_refl _) (fun n => ?_) (fun θ => ext_snoc) fun c o hc => ?_
        · rw [keys_snoc, List.mem_append, List.mem_singleton]
        · rw [upd_ne (ne_of_none hc nod)]
          exact s4 _ _ _ hc
  | @node z x vs' ps c1 c2 =>
    refine ⟨_, rfl, _, _, rfl, .tup c1, _, _, rfl, rfl, _, rfl, ite2 (fun c => absurd (of_decide_eq_true c) (by decide)) (fun _ => ?_)⟩
    have e1 : Tm.high (.node x ps) = 1 + Tm.highs ps := rfl
    have e2 : Tm.size (.node x ps) = 1 + Tm.sizes ps := rfl
    have lps := Tm.sizes_len ps
    have lv := c2.length
    have last : ∀ θ, p.sub θ = t → (Tm.node x ps).sub θ = b := fun θ eθ => ((h9 θ).mpr eθ).2 (.node x ps, b) (by simp)
    cases g4' with
    | var m =>
      refine ⟨_, rfl, _, _, rfl, .int m, _, _, rfl, rfl, _, rfl, ite2 (fun _ => ?_) (fun c => absurd rfl (of_decide_eq_false (Bool.eq_false_iff.mpr c)))⟩
      exact qn _ (s4 _) fun θ eθ => by cases last θ eθ
    | @node z2 y us' qs f1 f2 =>
      have e3 : Tm.high (.node y qs) = 1 + Tm.highs qs := rfl
      have lu' := f2.length
      have okp := ok.1
      have okq := ok.2.1
      have hi1 := ok.2.2.1
      have hi2 := ok.2.2.2
      dsimp only at hi1 hi2
      refine ⟨_, rfl, _, _, rfl, .tup f1, _, _, rfl, rfl, _, rfl, ite2 (fun c => absurd (of_decide_eq_true c) (by decide)) (fun _ => ?_)⟩
      refine ⟨_, rfl, z, _, 0, _, rfl, rfl, SqT.of c1, at_of (j := 0) rfl rfl, _, rfl, z2, _, 0, _, rfl, rfl, SqT.of f1, at_of (j := 0) rfl rfl, ?_⟩
      refine ⟨rfl, _, rfl, ite2 (fun c => ?_) (fun c => ?_)⟩
      · refine qn _ (s4 _) fun θ eθ => ?_
        obtain ⟨e, _⟩ := sub_node.mp (last θ eθ)
        subst e
        simp at c
      have exy : x = y := by
        have c' : V.str x = V.str y := by simpa using c
        exact V.str.inj c'
      subst exy
      have hpq : ps.length = qs.length := by rw [okp.1, okq.1]
      refine ⟨_, rfl, .inl ⟨rfl, _, SqL.of upd_same⟩, _, rfl, 1, rfl, z, _, rfl, SqT.of c1, notWhole _ _, fun a1 na1 => ?_⟩
      rw [cut1]
      have t1 := same_new na1 (HO.tup vs')
      refine ⟨_, rfl, 1, rfl, z2, _, rfl, SqT.of (t1 _ _ f1), notWhole _ _, fun a2 na2 => ?_⟩
      rw [cut1]
      have t2 := same_new na2 (HO.tup us')
      refine ⟨a1, a2, vs', us', rfl, SqT.of (t2 _ _ upd_same), SqT.of upd_same, fun o Ts H2 no same ho prs => ?_⟩
      have t3 := (t1.trans t2).trans same
      have hq2 : H2 q = some (.lst us) := t3 _ _ upd_same
      have kz : KeepT H2 (upd H2 q (.lst (us ++ Ts.map V.ref))) := fun b xs hb => by rw [upd_ne (ne_of hb hq2 (by intro z; cases z))]; exact hb
      have kk := (KeepT.of t3).trans kz
      have lTs : (Ts.map V.ref).length ≤ Tm.sizes ps := by rw [List.length_map, prs.1]; omega
      refine ⟨q, o, us, _, rfl, rfl, hq2, ho, Nat.le_of_lt (small1000 (by omega)), ?_⟩
      have par := parts_at prs.1 hpq prs.2 (TmsAt.keep (KeepT.of t3) _ _ c2) (TmsAt.keep (KeepT.of t3) _ _ f2)
      refine ⟨Tm.sizes (lefts W') + Tm.sizes ps, by omega, M, us ++ Ts.map V.ref, W' ++ ps.zip qs, _, _, rfl, upd_same, paired_append (Paired.mapP g1' fun _ _ h => h.keep kk) (Paired.mapP par fun _ _ h => h.keep kz), ?_, h4, fun e he => ?_, ?_, ?_, fun n => ?_, fun θ => ?_, ?_⟩
      · obtain ⟨kvs, z1, z2⟩ := d1 us
        exact ⟨kvs, by rw [upd_ne hdq]; exact t3 _ _ z1, Paired.mapP z2 fun _ _ h => ⟨h.1, TmAt.keep kk _ _ h.2⟩⟩
      · rcases List.mem_append.mp he with he | he
        · exact h5 e (List.mem_append_left _ he)
        · obtain ⟨m1, m2⟩ := List.of_mem_zip (a := e.1) (b := e.2) he
          have y1 := Tm.high_mem m1
          have y2 := Tm.high_mem m2
          exact ⟨Tm.ins_mem okp.2.2 m1, Tm.ins_mem okq.2.2 m2, by omega, by omega⟩
      · rw [lefts_append, lefts_zip hpq, Tm.sizes_append]
        omega
      · rw [lefts_append, lefts_zip hpq, Tm.sizes_append]
      · rw [lefts_append, lefts_zip hpq, Tm.occs_append, List.mem_append, ← h8 n, occs n]
        rfl
      · rw [sol_append, sol_zip hpq, ← h9 θ, sol_append, sol_one, sub_node]
        exact ⟨fun e => ⟨e.1, e.2.1, rfl, e.2.2⟩, fun e => ⟨e.1, e.2.1, e.2.2.2⟩⟩
      · exact fun b o hb => by rw [upd_ne (ne_of_none hb hq)]; exact t3 _ _ (s4 _ _ _ hb)
end
end Cf
namespace Cf
open PySem L2
abbrev sLoose : Stmt := top 18
/-- the arity of a word -/
def arOf (cs : List (Str × Nat)) (w : Str) : Nat := (cs.lookup w).getD 0
theorem arOf_mem {cs : List (Str × Nat)} (nd : (cs.map (·.1)).Nodup) {w : Str} {n : Nat} (h : (w, n) ∈ cs) : arOf cs w = n := by
  unfold arOf
  induction cs with
  | nil => cases h
  | cons e r ih =>
    obtain ⟨x, m⟩ := e
    obtain ⟨n1, n2⟩ := List.nodup_cons.mp nd
    rw [List.lookup_cons]
    rcases List.mem_cons.mp h with h | h
    · cases h
      rw [beq_self_eq_true]
      rfl
    · have z : ¬ w = x := fun z => n1 (z ▸ List.mem_map.mpr ⟨_, h, rfl⟩)
      rw [beq_eq_false_iff_ne.mpr z]
      exact ih n2 h
theorem over_in {cs : List (Str × Nat)} (ok : ConsOk cs) {ns : List Int} : ∀ (d : Nat) (t : Tm), TmOver cs ns d t → t.In (arOf cs)
  | 0, _, o => o.elim
  | d + 1, .var n, _ => trivial
  | d + 1, .node w ps, o => ⟨(arOf_mem ok.nd o.1).symm, ok.word _ o.1, Tm.ins_of fun p hp => over_in ok d p (o.2 p hp)⟩
theorem sub_in {f : Str → Nat} {θ : Int → Tm} : ∀ t : Tm, t.In f → (∀ n ∈ t.occ, (θ n).In f) → (t.sub θ).In f
  | .var n, _, h => h n (List.mem_singleton_self _)
  | .node w ps, i, h => by
    refine ⟨?_, i.2.1, ?_⟩
    · rw [Tm.subs_map, List.length_map]
      exact i.1
    · exact go ps i.2.2 h
where
  go : ∀ ps : List Tm, Tm.Ins f ps → (∀ n ∈ Tm.occs ps, (θ n).In f) → Tm.Ins f (Tm.subs θ ps)
    | [], _, _ => trivial
    | p :: ps, i, h => ⟨sub_in p i.1 fun n hn => h n (List.mem_append_left _ hn), go ps i.2 fun n hn => h n (List.mem_append_right _ hn)⟩
theorem sub_size {k : Nat} {θ : Int → Tm} (hk : 1 ≤ k) : ∀ t : Tm, (∀ n ∈ t.occ, (θ n).size ≤ k) → (t.sub θ).size ≤ t.size * k
  | .var n, h => by
    have := h n (List.mem_singleton_self _)
    show (θ n).size ≤ 1 * k
    omega
  | .node w ps, h => by
    have := go ps h
    show 1 + Tm.sizes (Tm.subs θ ps) ≤ (1 + Tm.sizes ps) * k
    rw [Nat.add_mul, Nat.one_mul]
    omega
where
  go : ∀ ps : List Tm, (∀ n ∈ Tm.occs ps, (θ n).size ≤ k) → Tm.sizes (Tm.subs θ ps) ≤ Tm.sizes ps * k
    | [], _ => Nat.zero_le _
    | p :: ps, h => by
      have a := sub_size hk p fun n hn => h n (List.mem_append_left _ hn)
      have b := go ps fun n hn => h n (List.mem_append_right _ hn)
      show (p.sub θ).size + Tm.sizes (Tm.subs θ ps) ≤ (p.size + Tm.sizes ps) * k
      rw [Nat.add_mul]
      omega
theorem sub_high {m : Nat} {θ : Int → Tm} : ∀ t : Tm, (∀ n ∈ t.occ, (θ n).high ≤ m) → (t.sub θ).high ≤ t.high + m
  | .var n, h => by
    have := h n (List.mem_singleton_self _)
    show (θ n).high ≤ 1 + m
    omega
  | .node w ps, h => by
    have := go ps h
    show 1 + Tm.highs (Tm.subs θ ps) ≤ (1 + Tm.highs ps) + m
    omega
where
  go : ∀ ps : List Tm, (∀ n ∈ Tm.occs ps, (θ n).high ≤ m) → Tm.highs (Tm.subs θ ps) ≤ Tm.highs ps + m
    | [], _ => Nat.zero_le _
    | p :: ps, h => by
      have a := sub_high p fun n hn => h n (List.mem_append_left _ hn)
      have b := go ps fun n hn => h n (List.mem_append_right _ hn)
      show max (p.sub θ).high (Tm.highs (Tm.subs θ ps)) ≤ max p.high (Tm.highs ps) + m
      omega
/-- what is put for a variable is no greater than the whole -/
theorem sub_part {θ : Int → Tm} {n : Int} : ∀ t : Tm, n ∈ t.occ → (θ n).size ≤ (t.sub θ).size ∧ (θ n).high ≤ (t.sub θ).high
  | .var m, h => by
    rw [List.mem_singleton.mp h]
    exact ⟨Nat.le_refl _, Nat.le_refl _⟩
  | .node w ps, h => by
    have := go ps h
    refine ⟨?_, ?_⟩
    · show _ ≤ 1 + Tm.sizes (Tm.subs θ ps)
      omega
    · show _ ≤ 1 + Tm.highs (Tm.subs θ ps)
      omega
where
  go : ∀ ps : List Tm, n ∈ Tm.occs ps → (θ n).size ≤ Tm.sizes (Tm.subs θ ps) ∧ (θ n).high ≤ Tm.highs (Tm.subs θ ps)
    | p :: ps, h => by
      have e1 : Tm.sizes (Tm.subs θ (p :: ps)) = (p.sub θ).size + Tm.sizes (Tm.subs θ ps) := rfl
      have e2 : Tm.highs (Tm.subs θ (p :: ps)) = max (p.sub θ).high (Tm.highs (Tm.subs θ ps)) := rfl
      rcases List.mem_append.mp h with h | h
      · have := sub_part (θ := θ) p h
        omega
      · have := go ps h
        omega
theorem highs_snoc (t : Tm) : ∀ ts : List Tm, Tm.highs (ts ++ [t]) = max (Tm.highs ts) t.high
  | [] => by show max t.high 0 = max 0 t.high; omega
  | x :: r => by
    show max x.high (Tm.highs (r ++ [t])) = max (max x.high (Tm.highs r)) t.high
    rw [highs_snoc t r]
    omega
def spLoose (n : Nat) : Sp := fun vs H Q _ => ∃ (a b cp : Addr) (cs : List (Str × Nat)) (v : V) (t : Tm), vs = [.ref a, .ref cp, v] ∧ PoolAt H a b ∧ ConsAt H cp cs ∧ ConsOk cs ∧ TmAt H v t ∧ t.In (arOf cs) ∧ t.high ≤ n ∧ t.size ≤ 1000 ∧
  ∀ (v' : V) (t' : Tm) (H' : Hp), TmAt H' v' t' → t'.In (arOf cs) → t'.high ≤ t.high + 2 → t'.size ≤ t.size * 3 → PoolAt H' a b → But a H H' → Q v' H'
section
variable {P : Program} {w : World} {K : PySem.W.Frag} {mg : Str → Option Value} {base : Heap}
theorem scLoose : FnScope ["pool", "constructors", "general", "part"] ["pool", "constructors", "general"] (defScope sLoose) := ⟨rfl, rfl, rfl, by decide +kernel, rfl, by decide +kernel, by decide +kernel⟩
theorem ok_loose1 {n : Nat} {f g e : Addr} {fd gd ed : FuncData} (F : Fun K "_law_loose" "_law_loose" sLoose f fd) (B : Blt mg) (G : FnOk P w K mg base CX0 1 g gd ["actual"] spIsInt) (bG : Binds K gd ["actual"] []) (kG : PySem.W.keepIn K (.ref g) = true) (mG : mg "_law_is_integer" = some (.ref g))
    (S : FnOk P w K mg base CX0 6 e ed ["pool", "constructors", "numbers", "deep"] (spTerm K 3)) (bS : Binds K ed ["pool", "constructors", "numbers", "deep"] []) (kS : PySem.W.keepIn K (.ref e) = true) (mS : mg "_law_term" = some (.ref e))
    (R : FnOk P w K mg base CX0 (n + 6) f fd ["pool", "constructors", "general"] (spLoose n)) (bR : Binds K fd ["pool", "constructors", "general"] []) (mR : mg "_law_loose" = some (.ref f)) :
    FnOk P w K mg base CX0 (n + 7) f fd ["pool", "constructors", "general"] (spLoose (n + 1)) := by
  have kR := F.kp
  refine F.ok scLoose (fun vs H Q E h => ?_) (fun cdv A outer s H vs Q E hr h => ?_)
  · obtain ⟨a, b, cp, cs, v, t, rfl, _⟩ := h
    rfl
  obtain ⟨a, b, cp, cs, v, t, rfl, hp, hc, hok, ht, hi, hh, hz, q⟩ := h
  have nd := scLoose.nd
  refine ⟨_, pss_cons (ps_if (pt_val (pe_call G (hr.mono (by omega)) rfl mG kG bG .nil pass0 (pa_cons (pv 2) pa_nil)))
      (pss_one (ps_ret (pe_call S (hr.mono (by omega)) rfl mS kS bS .nil pass0 (pa_cons (pv 0) (pa_cons (pv 1) (pa_cons (pe_lst (pa_cons pe_int (pa_cons pe_int (pa_cons pe_int pa_nil)))) (pa_cons pe_int pa_nil))))))) pss_nil)
    (pss_one (ps_ret (pe_op op_catA (pe_tup (pa_cons (pe_ix ix_tup (pv 2) pe_int (fun _ _ => rfl)) pa_nil)) (pe_callTy call_tuple_of (by rfl) B.tuple (by decide +kernel) (pa_cons
      (pe_lc (own := [("part", 3)]) (g := gName 3) (tt := tYes) rfl nd (pi_tup (pe_slice sl_tup (pv 2) (po_some pe_int) po_none)) (blkOk_by (N := ["pool", "constructors", "general", "part"]) (sc := defScope sLoose) (by decide +kernel))
        (fun _ _ _ _ _ => pg_name (i := 3) nd rfl (.inl rfl)) (fun _ _ _ _ _ => pts_nil) (fun _ _ _ _ _ => pe_call R hr rfl mR kR bR .nil pass0 (pa_cons (pv 0) (pa_cons (pv 1) (pa_cons (pv 3) pa_nil))))) pa_nil))))), ?_⟩
  cases ht with
  | var m =>
    refine ⟨_, rfl, _, "int", rfl, rfl, _, rfl, iteT ?_⟩
    refine ⟨_, rfl, _, rfl, (by show 3 ≤ sizeLine; decide), fun l nl => ?_⟩
    have sl := same_new nl (HO.lst [.int 0, .int 1, .int 5])
    have nla : l ≠ a := pool_a hp nl
    refine ⟨a, b, cp, l, cs, [0, 1, 5], 2, rfl, pool_same hp sl, hc.keep (KeepT.of sl), hok, SqL.of upd_same, nla, by decide, by omega, by omega, fun v' t' H' h1 h2 h3 h4 => ?_⟩
    have sm := over_small hok.ar 2 t' h2
    have e1 : Tm.high (.var m) = 1 := rfl
    have e2 : Tm.size (.var m) = 1 := rfl
    exact q v' t' H' h1 (over_in hok 2 t' h2) (by omega) (by omega) h3 ((But.of sl).trans h4)
  | @node z w vs ps h1 h2 =>
    refine ⟨_, rfl, _, "tuple", rfl, .inr (.inl ⟨rfl, _, h1⟩), _, rfl, iteF ?_⟩
    have e1 : Tm.high (.node w ps) = 1 + Tm.highs ps := rfl
    have e2 : Tm.size (.node w ps) = 1 + Tm.sizes ps := rfl
    have lv := h2.length
    have lps := Tm.sizes_len ps
    refine ⟨_, rfl, _, _, _, _, rfl, rfl, SqT.of h1, at_of (j := 0) rfl rfl, (by show 1 ≤ sizeLine; decide), fun u nu => ?_⟩
    have s0 := same_new nu (HO.tup [V.str w])
    have h1' := s0 _ _ h1
    refine ⟨_, rfl, 1, rfl, z, _, rfl, SqT.of h1', notWhole _ _, fun d nd' => ?_⟩
    rw [cut1]
    have s1 := s0.trans (same_new nd' (HO.tup vs))
    refine ⟨d, rfl, ⟨_, SqT.of upd_same⟩, fun D nD => ?_⟩
    have hdD : d ≠ D := ne_of_none upd_same nD
    have hud : u ≠ d := ne_of_none upd_same nd'
    have hu0 : upd (upd H u (.tup [V.str w])) d (.tup vs) u = some (.tup [V.str w]) := by rw [upd_ne hud]; exact upd_same
    have huD : u ≠ D := ne_of_none hu0 nD
    have hp1 := pool_same hp s1
    refine lc_tup (xs := vs) (fun i H' => ∃ (us : List V) (ts : List Tm), H' D = some (.lst us) ∧ us.length = i ∧ TmsAt H' us ts ∧ Tm.Ins (arOf cs) ts ∧ Tm.highs ts ≤ Tm.highs ps + 2 ∧ Tm.sizes ts ≤ Tm.sizes (ps.take i) * 3 ∧ PoolAt H' a b ∧ H' d = some (.tup vs) ∧ H' u = some (.tup [V.str w]) ∧ But a (upd (upd H u (.tup [V.str w])) d (.tup vs)) H')
      ⟨[], [], upd_same, rfl, .nil, trivial, Nat.zero_le _, Nat.zero_le _, pool_new hp1 nD, by rw [upd_ne hdD]; exact upd_same, by rw [upd_ne huD]; exact hu0, But.of (same_new nD _)⟩ (fun i H' _ hh => by obtain ⟨_, _, _, _, _, _, _, _, _, h, _⟩ := hh; exact SqT.of h) (fun i y H' hy hh => ?_) (fun H' hh => ?_)
    · obtain ⟨us, ts, g1, g2, g3, g4, g5, g6, g7, g8, g9, g10⟩ := hh
      have hil : i < ps.length := by rw [← lv]; exact (List.getElem?_eq_some_iff.mp hy).1
      have hpi : ps[i]? = some ps[i] := List.getElem?_eq_getElem hil
      obtain ⟨c, hc1, hc2⟩ := h2.get hpi
      obtain rfl : y = c := Option.some.inj (hy.symm.trans hc1)
      have m1 := Tm.size_mem (List.getElem_mem hil)
      have m2 := Tm.high_mem (List.getElem_mem hil)
      have kk : KeepT H H' := (KeepT.of s1).trans (KeepT.but g10 hp1)
      have szi : Tm.sizes (ps.take i) + ps[i].size = Tm.sizes (ps.take (i + 1)) := by
        rw [List.take_add_one, hpi, Tm.sizes_append]
        rfl
      refine ⟨rfl, _, rfl, _, rfl, _, rfl, a, b, cp, cs, y, ps[i], rfl, g7, hc.keep kk, hok, TmAt.keep kk _ _ hc2, Tm.ins_mem hi.2.2 (List.getElem_mem hil), by omega, by omega, fun v' t' H2 hv' hi' hh' hz' hp' hb' => ?_⟩
      have nDa : D ≠ a := pool_a hp1 nD
      have gD := hb' _ _ nDa g1
      have k2 : KeepT H' H2 := KeepT.but hb' g7
      have kz : KeepT H2 (upd H2 D (.lst (us ++ [v']))) := fun b xs hb => by rw [upd_ne (ne_of hb gD (by intro z; cases z))]; exact hb
      have hap := highs_snoc t' ts
      refine ⟨us, gD, small1000 (by omega), us ++ [v'], ts ++ [t'], upd_same, by rw [List.length_append, g2]; rfl, (TmsAt.keep kz _ _ (TmsAt.keep k2 _ _ g3)).snoc (TmAt.keep kz _ _ hv'), ?_, by omega, ?_, pool_upd hp' nDa (pool_b hp1 nD), kz _ _ (k2 _ _ g8), kz _ _ (k2 _ _ g9), ?_⟩
      · exact Tm.ins_of fun x hx => (List.mem_append.mp hx).elim (fun h => Tm.ins_mem g4 h) fun h => by rw [List.mem_singleton.mp h]; exact hi'
      · rw [Tm.sizes_append, ← szi]
        show Tm.sizes ts + (t'.size + 0) ≤ _
        omega
      · exact fun x o hx hxo => by rw [upd_ne (ne_of_none hxo nD)]; exact hb' _ _ hx (g10 _ _ hx hxo)
    · obtain ⟨us, ts, g1, g2, g3, g4, g5, g6, g7, g8, g9, g10⟩ := hh
      rw [lv, List.take_length] at g6
      refine ⟨D, us, rfl, .inl ⟨SqL.of g1, fun l nl => ?_⟩⟩
      have kl := same_new nl (HO.tup us)
      have lt := g3.length
      have bt : But a H H' := (But.of s1).trans g10
      have inn : Tm.In (arOf cs) (.node w ts) := ⟨by rw [← lt, g2, lv]; exact hi.1, hi.2.1, g4⟩
      have hhi : Tm.high (.node w ts) ≤ Tm.high (.node w ps) + 2 := by show 1 + Tm.highs ts ≤ _; omega
      have hsz : Tm.size (.node w ts) ≤ Tm.size (.node w ps) * 3 := by show 1 + Tm.sizes ts ≤ _; omega
      refine ⟨u, l, _, _, rfl, rfl, SqT.of (kl _ _ g9), SqT.of upd_same, ?_, fun z => (by cases z), fun _ z => ?_, fun _ z p np' => ?_⟩
      · show 1 + us.length ≤ sizeLine
        exact Nat.le_of_lt (small1000 (by omega))
      · subst z
        cases g3
        exact q (.ref u) _ _ (.node (kl _ _ g9) .nil) inn hhi hsz (pool_same g7 kl) (bt.trans (But.of kl))
      · have kp := kl.trans (same_new np' (HO.tup (V.str w :: us)))
        exact q (.ref p) _ _ (.node upd_same (TmsAt.keep (KeepT.of kp) _ _ g3)) inn hhi hsz (pool_same g7 kp) (bt.trans (But.of kp))
theorem ok_loose {f g e : Addr} {fd gd ed : FuncData} (F : Fun K "_law_loose" "_law_loose" sLoose f fd) (B : Blt mg) (G : FnOk P w K mg base CX0 1 g gd ["actual"] spIsInt) (bG : Binds K gd ["actual"] []) (kG : PySem.W.keepIn K (.ref g) = true) (mG : mg "_law_is_integer" = some (.ref g))
    (S : FnOk P w K mg base CX0 6 e ed ["pool", "constructors", "numbers", "deep"] (spTerm K 3)) (bS : Binds K ed ["pool", "constructors", "numbers", "deep"] []) (kS : PySem.W.keepIn K (.ref e) = true) (mS : mg "_law_term" = some (.ref e))
    (bR : Binds K fd ["pool", "constructors", "general"] []) (mR : mg "_law_loose" = some (.ref f)) : ∀ n : Nat, FnOk P w K mg base CX0 (n + 6) f fd ["pool", "constructors", "general"] (spLoose n)
  | 0 => none_left fun vs H Q E h => by
    obtain ⟨a, b, cp, cs, v, t, _, _, _, _, _, _, h1, _⟩ := h
    have := t.high_pos
    omega
  | n + 1 => ok_loose1 F B G bG kG mG S bS kS mS (ok_loose F B G bG kG mG S bS kS mS bR mR n) bR mR
end
end Cf
namespace Cf
open PySem L2
abbrev sLaw : Stmt := top 19
theorem pool_but {H H' : Hp} {a b D : Addr} (h : PoolAt H a b) (e : But D H H') (n : D ≠ a) (m : D ≠ b) : PoolAt H' a b := by
  obtain ⟨ns, i, v, c, s, h1, h2, h3⟩ := h
  exact ⟨ns, i, v, c, s, e _ _ n.symm h1, e _ _ m.symm h2, h3⟩
theorem ne_of_none' {H : Hp} {r D : Addr} {xs : List V} {M : List (Int × Tm)} (h : H r = some (.lst xs)) (k : SubAt H D M) : r ≠ D := by
  obtain ⟨kvs, h1, _⟩ := k
  exact ne_of h h1 (by intro z; cases z)
theorem pow3 {d : Int} (h : d < 3) : 2 ^ (d.toNat + 1) ≤ 8 := Nat.le_trans (Nat.pow_le_pow_right (by decide) (show d.toNat + 1 ≤ 3 by omega)) (by decide)
theorem pow2 {d : Int} (h : d < 2) : 2 ^ (d.toNat + 1) ≤ 4 := Nat.le_trans (Nat.pow_le_pow_right (by decide) (show d.toNat + 1 ≤ 2 by omega)) (by decide)
section
variable {P : Program} {w : World} {K : PySem.W.Frag} {mg : Str → Option Value} {base : Heap}
theorem scLaw : FnScope ["script", "pool", "constructors", "turn", "general", "binary", "given", "number", "term", "at", "other", "due", "right", "told", "pair", "key"] ["script"] (defScope sLaw) := ⟨rfl, rfl, rfl, by decide +kernel, rfl, by decide +kernel, by decide +kernel⟩
theorem ok_law {f : Addr} {fd : FuncData} (F : Fun K "law" "law" sLaw f fd) (B : Blt mg) (a1 : At P w K mg base "_law_pool" 1 ["script"] (spPool K)) (a2 : At P w K mg base "_law_constructors" 4 ["pool"] spCons)
    (a3 : At P w K mg base "_law_draw" 2 ["pool", "many"] spDraw) (a4 : At P w K mg base "_law_term" 6 ["pool", "constructors", "numbers", "deep"] (spTerm K 3)) (a5 : At P w K mg base "_law_numbers" 6 ["terms"] (spNumbers 4))
    (a6 : At P w K mg base "_law_replace" 7 ["term", "given"] (spReplace 6)) (a7 : At P w K mg base "_law_taken" 5 ["general", "term", "given"] (spTaken 4)) (a8 : At P w K mg base "_law_loose" 10 ["pool", "constructors", "general"] (spLoose 4))
    (a9 : At P w K mg base "_law_same" 9 ["actual", "due"] (spSame 9)) (b1 : At P w K mg base "match" 1 ["p", "t"] spMatch) :
    FnOk P w K mg base CX0 11 f fd ["script"] (spLaw K) := by
  obtain ⟨f1, d1, F1, B1, k1, m1⟩ := a1.ex
  obtain ⟨f2, d2, F2, B2, k2, m2⟩ := a2.ex
  obtain ⟨f3, d3, F3, B3, k3, m3⟩ := a3.ex
  obtain ⟨f4, d4, F4, B4, k4, m4⟩ := a4.ex
  obtain ⟨f5, d5, F5, B5, k5, m5⟩ := a5.ex
  obtain ⟨f6, d6, F6, B6, k6, m6⟩ := a6.ex
  obtain ⟨f7, d7, F7, B7, k7, m7⟩ := a7.ex
  obtain ⟨f8, d8, F8, B8, k8, m8⟩ := a8.ex
  obtain ⟨f9, d9, F9, B9, k9, m9⟩ := a9.ex
  obtain ⟨g1, e1, G1, C1, l1, n1⟩ := b1.ex
  refine F.ok scLaw (fun vs H Q E h => ?_) (fun cdv A outer s H vs Q E hr h => ?_)
  · obtain ⟨a, ns, rfl, _⟩ := h
    rfl
  obtain ⟨a, ns, rfl, hS, h63, q⟩ := h
  have nd := scLaw.nd
  have hu := hu_of hr
  refine ⟨_, pss_cons (ps_set (i := 1) nd rfl (.inl rfl) (pe_call F1 (hr.mono (by decide)) rfl m1 k1 B1 .nil pass0 (pa_cons (pv 0) pa_nil)))
    (pss_cons (ps_set (i := 2) nd rfl (.inl rfl) (pe_call F2 (hr.mono (by decide)) rfl m2 k2 B2 .nil pass0 (pa_cons (pv 1) pa_nil)))
    (pss_cons (ps_for PassesOwn.never rfl (pi_range1 rfl B.range (pa_cons pe_int pa_nil)) (pg_name (i := 3) nd rfl (.inl rfl))
      (pss_cons (ps_set (i := 4) nd rfl (.inl rfl) (pe_call F4 (hr.mono (by decide)) rfl m4 k4 B4 .nil pass0 (pa_cons (pv 1) (pa_cons (pv 2) (pa_cons (pe_lst (pa_cons pe_int (pa_cons pe_int (pa_cons pe_int pa_nil))))
          (pa_cons (pe_op op_add pe_int (pe_call F3 (hr.mono (by decide)) rfl m3 k3 B3 .nil pass0 (pa_cons (pv 1) (pa_cons pe_int pa_nil)))) pa_nil))))))
      (pss_cons (ps_setLc (i := 5) (own := [("pair", 14)]) (g := gName 14) (tt := tTest (tOp rEq (tOp (rIxT K) (tVar 14) (tC (.int 1))) (tC (.int 2)))) rfl nd rfl rfl (sw_true rfl rfl (by rfl) (by decide +kernel)) (pi_tup (pv 2))
          (blkOk_by (N := ["script", "pool", "constructors", "turn", "general", "binary", "given", "number", "term", "at", "other", "due", "right", "told", "pair", "key"]) (sc := defScope sLaw) (by decide +kernel)) (fun _ _ _ _ _ => pg_name (i := 14) nd rfl (.inl rfl)) (fun _ _ _ _ _ => pts_one (pt_cmpR op_eq (pe_ix (r := rIxT K) ix_tup (pv 14) pe_int (fun _ _ => rfl)) pe_int (nomark _)))
          (fun _ _ _ _ _ => pe_ix (r := rIxT K) ix_tup (pv 14) pe_int (fun _ _ => rfl)))
      (Evl.pss_cut (ps_if (PW.pt (pw_and (pt_cmpR op_gt (pe_callB call_len_seq (by rfl) B.len PySem.boot_len (pa_cons (pv 5) pa_nil)) pe_int (nomark _))
            (pw_and1 (pt_cmpR op_eq (pe_call F3 (hr.mono (by decide)) rfl m3 k3 B3 .nil pass0 (pa_cons (pv 1) (pa_cons pe_int pa_nil))) pe_int (nomark _)))))
          (pss_one (ps_set (i := 4) nd rfl (.inl rfl) (pe_tup (pa_cons (pe_ix (r := rIxL K) ix_list (pv 5) pe_int (fun _ _ => rfl)) (pa_cons (pv 4) (pa_cons (pe_call F4 (hr.mono (by decide)) rfl m4 k4 B4 .nil pass0 (pa_cons (pv 1) (pa_cons (pv 2) (pa_cons (pe_lst (pa_cons pe_int (pa_cons pe_int pa_nil)))
            (pa_cons (pe_op op_add pe_int (pe_call F3 (hr.mono (by decide)) rfl m3 k3 B3 .nil pass0 (pa_cons (pv 1) (pa_cons pe_int pa_nil)))) pa_nil))))) pa_nil)))))) pss_nil)
      (pss_cons (ps_set (i := 6) nd rfl (.inl rfl) pe_dnewK)
      (pss_cons (ps_for PassesOwn.never rfl (pi_list (pe_call F5 (hr.mono (by decide)) rfl m5 k5 B5 .nil pass0 (pa_cons (pe_lst (pa_cons (pv 4) pa_nil)) pa_nil))) (pg_name (i := 7) nd rfl (.inl rfl))
          (pss_one (ps_dput hu (pv 6) (pv 7) (pe_call F4 (hr.mono (by decide)) rfl m4 k4 B4 .nil pass0 (pa_cons (pv 1) (pa_cons (pv 2) (pa_cons (pe_lst (pa_cons pe_int (pa_cons pe_int (pa_cons pe_int pa_nil))))
            (pa_cons (pe_op op_add pe_int (pe_call F3 (hr.mono (by decide)) rfl m3 k3 B3 .nil pass0 (pa_cons (pv 1) (pa_cons pe_int pa_nil)))) pa_nil))))) rfl)))
      (pss_cons (ps_set (i := 8) nd rfl (.inl rfl) (pe_call F6 (hr.mono (by decide)) rfl m6 k6 B6 .nil pass0 (pa_cons (pv 4) (pa_cons (pv 6) pa_nil))))
      (pss_cons (ps_set (i := 9) nd rfl (.inl rfl) (pe_call F4 (hr.mono (by decide)) rfl m4 k4 B4 .nil pass0 (pa_cons (pv 1) (pa_cons (pv 2) (pa_cons (pe_lst (pa_cons pe_int (pa_cons pe_int (pa_cons pe_int pa_nil)))) (pa_cons pe_int pa_nil))))))
      (pss_one (ps_for PassesOwn.never rfl (pi_tup (pe_tup (pa_cons (pv 8) (pa_cons (pv 9) (pa_cons (pv 4)
            (pa_cons (pe_call F6 (hr.mono (by decide)) rfl m6 k6 B6 .nil pass0 (pa_cons (pv 8) (pa_cons (pe_disp (pps_cons pe_int (pv 9) pps_nil) (by rfl) (by rfl) (fun z => by cases z) (by decide)) pa_nil)))
            (pa_cons (pe_call F8 hr rfl m8 k8 B8 .nil pass0 (pa_cons (pv 1) (pa_cons (pv 2) (pa_cons (pv 4) pa_nil)))) pa_nil))))))) (pg_name (i := 10) nd rfl (.inl rfl))
        (pss_cons (ps_set (i := 11) nd rfl (.inr rfl) pe_dnewK)
        (pss_cons (ps_set (i := 12) nd rfl (.inl rfl) (pe_call F7 (hr.mono (by decide)) rfl m7 k7 B7 .nil pass0 (pa_cons (pv 4) (pa_cons (pv 10) (pa_cons (pv 11) pa_nil)))))
        (pss_cons (ps_set (i := 13) nd rfl (.inr rfl) (pe_call G1 (hr.mono (by decide)) rfl n1 l1 C1 .nil pass0 (pa_cons (pv 4) (pa_cons (pv 10) pa_nil))))
        (pss_cons (ps_if (pt_cmpR op_ne (pe_cmpR op_notN (pv 13) pe_non (nomark _)) (pv 12) (nomark _)) (pss_one (ps_ret pe_bl)) pss_nil)
        (pss_cons (ps_if (PW.pt (pw_and (pt_val (pv 12)) (pw_and1 (PW.pt (pw_or (pt_not (pt_val (pe_callB call_isi (by rfl) B.isinstance (by decide +kernel) (pa_cons (pv 13) (pa_cons (pe_bltn (v := .ty "dict") (by rfl) B.dict (by decide +kernel) rfl) pa_nil)))))
            (pw_or1 (pt_not (pt_val (pe_call F9 (hr.mono (by decide)) rfl m9 k9 B9 .nil pass0 (pa_cons (pe_callB (call_sortedDI rfl) (by rfl) B.sorted (by decide +kernel) (pa_cons (pv 13) pa_nil)) (pa_cons (pe_callB (call_sortedDI rfl) (by rfl) B.sorted (by decide +kernel) (pa_cons (pv 11) pa_nil)) pa_nil)))))))))))
          (pss_one (ps_ret pe_bl)) pss_nil)
        (pss_one (ps_if (PW.pt (pw_and (pt_val (pv 12)) (pw_and1 (pt_cmpR op_gt (pe_callB call_len_seq (by rfl) B.len PySem.boot_len (pa_cons (pe_lock
            (pe_lc (own := [("key", 15)]) (g := gName 15) (tt := tNot (tB (tCall (spSame 9) [] E0 (tCons (tDGet (tVar 13) (tVar 15)) (tCons (tDGet (tVar 11) (tVar 15)) tNil))))) rfl nd (pi_keys (pv 11))
              (blkOk_by (N := ["script", "pool", "constructors", "turn", "general", "binary", "given", "number", "term", "at", "other", "due", "right", "told", "pair", "key"]) (sc := defScope sLaw) (by decide +kernel)) (fun _ _ _ _ _ => pg_name (i := 15) nd rfl (.inl rfl))
              (fun _ _ _ _ _ => pts_one (pt_not (pt_val (pe_call F9 (hr.mono (by decide)) rfl m9 k9 B9 .nil pass0 (pa_cons (pe_dget hu (pv 13) (pv 15) (fun _ _ => rfl)) (pa_cons (pe_dget hu (pv 11) (pv 15) (fun _ _ => rfl)) pa_nil))))))
              (fun _ _ _ _ _ => pv 15))) pa_nil)) pe_int (nomark _)))))
          (pss_one (ps_ret pe_bl)) pss_nil)))))))))))))))))
    (pss_one (ps_ret pe_bl)))), ?_⟩
  refine ⟨_, rfl, a, ns, rfl, hS, h63, fun p b H1 hp s1 np => ?_⟩
  refine ⟨_, rfl, p, b, rfl, hp, fun cs c H2 hok nc hc hp2 e2 => ?_⟩
  refine ⟨_, rfl, by decide, by decide, ?_⟩
  refine for_range (n := 5) (fun i σ H' => ∃ (x3 x4 x5 x6 x7 x8 x9 x10 x11 x12 x13 : Option V), σ = [some (.ref a), some (.ref p), some (.ref c), x3, x4, x5, x6, x7, x8, x9, x10, x11, x12, x13, none, none] ∧ PoolAt H' p b ∧ ConsAt H' c cs)
    ⟨none, none, none, none, none, none, none, none, none, none, none, rfl, hp2, hc⟩ (fun i σ H3 hi hh => ?_) (fun σ H3 hh => ?_)
  · obtain ⟨x3, x4, x5, x6, x7, x8, x9, x10, x11, x12, x13, rfl, hp3, hc3⟩ := hh
    refine ⟨_, rfl, _, rfl, (by show 3 ≤ sizeLine; decide), fun l nl => ?_⟩
    have sl := same_new nl (HO.lst [.int 0, .int 1, .int 2])
    have nlp : l ≠ p := pool_a hp3 nl
    refine ⟨_, rfl, p, b, 3, rfl, pool_same hp3 sl, by decide, by decide, fun d H4 y0 y1 hp4 e4 => ?_⟩
    refine ⟨_, _, rfl, rfl, ?_⟩
    have ed : (1 : Int) + d = ((d.toNat + 1 : Nat) : Int) := by omega
    have c4 := (hc3.keep (KeepT.of sl)).keep (KeepT.but e4 (pool_same hp3 sl))
    refine ⟨p, b, c, l, cs, [0, 1, 2], d.toNat + 1, ?_, hp4, c4, hok, SqL.of (e4 _ _ nlp upd_same), nlp, by decide, by omega, by omega, fun v4 t4 H5 hv4 ho4 hp5 e5 => ?_⟩
    · show [V.ref p, V.ref c, V.ref l, V.int (1 + d)] = _
      rw [ed]
    have sm4 := over_small hok.ar _ t4 ho4
    have pw4 := pow3 y1
    have in4 := over_in hok _ t4 ho4
    have oc4 := over_occ t4 _ ho4
    obtain ⟨qs, hc51, hc52⟩ := c4.keep (KeepT.but e5 hp4)
    refine ⟨_, rfl, c, rfl, ⟨_, SqT.of hc51⟩, fun D5 nD5 => ?_⟩
    refine lc_tup (xs := qs.map V.ref) (fun i H' => ∃ ws : List Str, H' D5 = some (.lst (ws.map V.str)) ∧ ws.length ≤ i ∧ (∀ s ∈ ws, (s, 2) ∈ cs) ∧ Same H5 H')
      ⟨[], upd_same, Nat.le_refl _, fun _ h => (by cases h), same_new nD5 _⟩ (fun i H' _ hh => by obtain ⟨_, _, _, _, g⟩ := hh; exact SqT.of (g _ _ hc51)) (fun i x H' hx hh => ?_) (fun H6 hh => ?_)
    · obtain ⟨ws, h1, h2, h3, h4⟩ := hh
      rw [List.getElem?_map] at hx
      obtain ⟨r, hr', rfl⟩ := Option.map_eq_some_iff.mp hx
      obtain ⟨cc, hci, hcr⟩ := paired_get hc52 hr'
      have hil : i < cs.length := (List.getElem?_eq_some_iff.mp hci).1
      refine ⟨rfl, _, rfl, r, _, 1, _, rfl, rfl, SqT.of (h4 _ _ hcr), rfl, rfl, _, rfl, ite2 (fun c1 => ?_) (fun c1 => ⟨ws, h1, by omega, h3, h4⟩)⟩
      have e2' : cc.2 = 2 := by
        have e : nV cc.2 = V.int 2 := of_decide_eq_true c1
        have e' : (cc.2 : Int) = 2 := V.int.inj e
        omega
      refine ⟨_, rfl, r, _, 0, _, rfl, rfl, SqT.of (h4 _ _ hcr), rfl, _, h1, by rw [List.length_map]; exact small1000 (by have := hok.len; omega), ws ++ [cc.1], ?_, by rw [List.length_append]; exact Nat.succ_le_succ h2, fun s hs => ?_, fun b o hb => by rw [upd_ne (ne_of_none hb nD5)]; exact h4 _ _ hb⟩
      · rw [upd_same, List.map_append]
        all_goals rfl
      · rcases List.mem_append.mp hs with h | h
        · exact h3 s h
        · rw [List.mem_singleton.mp h, ← e2']
          exact List.mem_of_getElem? hci
    obtain ⟨ws, h1, h2, h3, h4⟩ := hh
    have c6 : ConsAt H6 c cs := ConsAt.keep ⟨qs, hc51, hc52⟩ (KeepT.of h4)
    have p6 := pool_same hp5 h4
    have v46 := TmAt.keep (KeepT.of h4) _ _ hv4
    refine ⟨fun σ H' => ∃ (g : V) (t : Tm), σ = [some (.ref a), some (.ref p), some (.ref c), some (.int (0 + (i : Int))), some g, some (.ref D5), x6, x7, x8, x9, x10, x11, x12, x13, none, none] ∧ TmAt H' g t ∧ t.In (arOf cs) ∧ t.size ≤ 11 ∧ t.high ≤ 4 ∧ (∀ n ∈ t.occ, n ∈ [0, 1, 2]) ∧ PoolAt H' p b ∧ ConsAt H' c cs, ?_, ?_⟩
    · have old : ∀ H', KeepT H6 H' → PoolAt H' p b → ∃ (g : V) (t : Tm), [some (V.ref a), some (V.ref p), some (V.ref c), some (V.int (0 + (i : Int))), some v4, some (V.ref D5), x6, x7, x8, x9, x10, x11, x12, x13, none, none] = [some (.ref a), some (.ref p), some (.ref c), some (.int (0 + (i : Int))), some g, some (.ref D5), x6, x7, x8, x9, x10, x11, x12, x13, none, none] ∧
          TmAt H' g t ∧ t.In (arOf cs) ∧ t.size ≤ 11 ∧ t.high ≤ 4 ∧ (∀ n ∈ t.occ, n ∈ [0, 1, 2]) ∧ PoolAt H' p b ∧ ConsAt H' c cs := fun H' k pl => ⟨v4, t4, rfl, TmAt.keep k _ _ v46, in4, by omega, by omega, oc4, pl, c6.keep k⟩
      refine ⟨_, rfl, D5, _, rfl, .inl (SqL.of h1), _, _, rfl, rfl, _, rfl, ite2 (fun c1 => ?_) (fun c1 => iteF (old H6 (fun _ _ h => h) p6))⟩
      refine ⟨_, rfl, p, b, 2, rfl, p6, by decide, by decide, fun x H7 x0 x1 p7 e7 => ?_⟩
      have k7 := KeepT.but e7 p6
      refine ⟨rfl, _, rfl, ite2 (fun c2 => ?_) (fun c2 => old H7 k7 p7)⟩
      cases ws with
      | nil =>
        have c1' : (0 : Int) < ((([] : List Str).map V.str).length : Int) := of_decide_eq_true c1
        simp at c1'
      | cons w0 ws =>
        have hw0 := h3 w0 List.mem_cons_self
        have nDp : D5 ≠ p := pool_a hp5 nD5
        have h17 := e7 _ _ nDp h1
        refine ⟨_, rfl, D5, _, 0, .str w0, rfl, rfl, SqL.of h17, at_of (j := 0) rfl rfl, _, rfl, _, rfl, _, rfl, (by show 2 ≤ sizeLine; decide), fun l2 nl2 => ?_⟩
        have sl2 := same_new nl2 (HO.lst [.int 0, .int 1])
        have nl2p : l2 ≠ p := pool_a p7 nl2
        refine ⟨_, rfl, p, b, 2, rfl, pool_same p7 sl2, by decide, by decide, fun d2 H8 z0 z1 p8 e8 => ?_⟩
        refine ⟨_, _, rfl, rfl, ?_⟩
        have ed2 : (1 : Int) + d2 = ((d2.toNat + 1 : Nat) : Int) := by omega
        have k8 := (KeepT.of sl2).trans (KeepT.but e8 (pool_same p7 sl2))
        refine ⟨p, b, c, l2, cs, [0, 1], d2.toNat + 1, ?_, p8, (c6.keep k7).keep k8, hok, SqL.of (e8 _ _ nl2p upd_same), nl2p, by decide, by omega, by omega, fun v5 t5 H9 hv5 ho5 p9 e9 => ?_⟩
        · show [V.ref p, V.ref c, V.ref l2, V.int (1 + d2)] = _
          rw [ed2]
        have sm5 := over_small hok.ar _ t5 ho5
        have pw5 := pow2 z1
        have in5 := over_in hok _ t5 ho5
        have oc5 := over_occ t5 _ ho5
        have k9 := k8.trans (KeepT.but e9 p8)
        refine ⟨(by show 3 ≤ sizeLine; decide), fun T nT => ?_⟩
        have sT := same_new nT (HO.tup [.str w0, v4, v5])
        have kT := (k7.trans k9).trans (KeepT.of sT)
        have es : Tm.size (.node w0 [t4, t5]) = 1 + (t4.size + (t5.size + 0)) := rfl
        have eh : Tm.high (.node w0 [t4, t5]) = 1 + max t4.high (max t5.high 0) := rfl
        have eo : Tm.occ (.node w0 [t4, t5]) = t4.occ ++ (t5.occ ++ []) := rfl
        have l5 : t5.high ≤ 2 := Nat.le_trans sm5.2 (by omega)
        refine ⟨.ref T, .node w0 [t4, t5], rfl, .node upd_same (.cons (TmAt.keep kT _ _ v46) (.cons (TmAt.keep (KeepT.of sT) _ _ hv5) .nil)), ⟨(arOf_mem hok.nd hw0).symm, hok.word _ hw0, in4, in5, trivial⟩, by omega, by omega, fun n hn => ?_, pool_same p9 sT, c6.keep kT⟩
        rw [eo, List.append_nil] at hn
        rcases List.mem_append.mp hn with h | h
        · exact oc4 n h
        · have := oc5 n h
          rcases List.mem_cons.mp this with h | h
          · rw [h]; decide
          · rw [List.mem_singleton.mp h]; decide
    · rintro σ H7 ⟨g, t, rfl, hg, ig, zg, hhg, og, p7, c7⟩
      intro D6 nD6
      have hg6 := TmAt.keep (KeepT.of (same_new nD6 (HO.dK []))) _ _ hg
      refine ⟨_, rfl, (by show 1 ≤ sizeLine; decide), fun L nL => ?_⟩
      have sL := same_new nL (HO.lst [g])
      have hgL := TmAt.keep (KeepT.of sL) _ _ hg6
      have e1 : Tm.sizes [t] = t.size + 0 := rfl
      refine ⟨L, [g], [t], rfl, upd_same, .cons hgL .nil, by omega, fun x hx => by rw [List.mem_singleton.mp hx]; exact hhg, fun r H8 nr hr1 s8 => ?_⟩
      have s78 := ((same_new nD6 (HO.dK [])).trans sL).trans s8
      have nD6' : D6 ≠ L := ne_of_none upd_same nL
      have hD8 : H8 D6 = some (.dK []) := s8 _ _ (by rw [upd_ne nD6']; exact upd_same)
      have hol := Tm.occs_len [t]
      have hfl := firsts_len (Tm.occs [t])
      have hnd := firsts_nd (Tm.occs [t])
      have hocc : Tm.occs [t] = t.occ := by show t.occ ++ [] = t.occ; rw [List.append_nil]
      refine ⟨r, rfl, ⟨_, SqL.of hr1⟩, ?_⟩
      have nD6p : D6 ≠ p := pool_a p7 nD6
      have nrp : r ≠ p := pool_a (pool_same p7 ((same_new nD6 (HO.dK [])).trans sL)) nr
      refine for_list (xs := (firsts (Tm.occs [t])).map V.int) (fun j σ H' => ∃ (M : List (Int × Tm)) (x7 : Option V), σ = [some (.ref a), some (.ref p), some (.ref c), some (.int (0 + (i : Int))), some g, some (.ref D5), some (.ref D6), x7, x8, x9, x10, x11, x12, x13, none, none] ∧
          SubAt H' D6 M ∧ keysOf M = (firsts (Tm.occs [t])).take j ∧ (∀ e ∈ M, e.2.In (arOf cs) ∧ e.2.high ≤ 2 ∧ e.2.size ≤ 3) ∧ TmAt H' g t ∧ PoolAt H' p b ∧ ConsAt H' c cs ∧ H' r = some (.lst ((firsts (Tm.occs [t])).map V.int)))
        ⟨[], x7, rfl, ⟨[], hD8, .nil⟩, rfl, fun _ h => (by cases h), TmAt.keep (KeepT.of s78) _ _ hg, pool_same p7 s78, c7.keep (KeepT.of s78), hr1⟩ (fun j σ H' _ hh => by obtain ⟨_, _, _, _, _, _, _, _, _, h⟩ := hh; exact SqL.of h) (fun j x σ H' hx hh => ?_) (fun σ H' hh => ?_)
      · obtain ⟨M, x7, rfl, j1, j2, j3, j4, j5, j6, j7⟩ := hh
        rw [List.getElem?_map] at hx
        obtain ⟨m, hm, rfl⟩ := Option.map_eq_some_iff.mp hx
        have hjl := (List.getElem?_eq_some_iff.mp hm).1
        refine ⟨_, rfl, _, rfl, (by show 3 ≤ sizeLine; decide), fun l nl => ?_⟩
        have sl := same_new nl (HO.lst [.int 0, .int 1, .int 5])
        have nlp : l ≠ p := pool_a j5 nl
        refine ⟨_, rfl, p, b, 2, rfl, pool_same j5 sl, by decide, by decide, fun d H9 z0 z1 p9 e9 => ?_⟩
        refine ⟨_, _, rfl, rfl, ?_⟩
        have ed : (1 : Int) + d = ((d.toNat + 1 : Nat) : Int) := by omega
        have k9 := (KeepT.of sl).trans (KeepT.but e9 (pool_same j5 sl))
        refine ⟨p, b, c, l, cs, [0, 1, 5], d.toNat + 1, ?_, p9, j6.keep k9, hok, SqL.of (e9 _ _ nlp upd_same), nlp, by decide, by omega, by omega, fun v t' H10 hv hov p10 e10 => ?_⟩
        · show [V.ref p, V.ref c, V.ref l, V.int (1 + d)] = _
          rw [ed]
        have smv := over_small hok.ar _ t' hov
        have pwv := pow2 z1
        have k10 := k9.trans (KeepT.but e10 p9)
        have sub10 : SubAt H10 D6 M := ((j1.keep sl).but e9 nD6p (KeepT.but e9 (pool_same j5 sl))).but e10 nD6p (KeepT.but e10 p9)
        have hr10 := e10 _ _ nrp (e9 _ _ nrp (sl _ _ j7))
        have hr6 : r ≠ D6 := ne_of_none' hr10 sub10
        obtain ⟨kvs, hk, hl⟩ := sub10.look m
        have hlen := sub10.len hk
        have hMl : M.length ≤ j := by
          have e := congrArg List.length j2
          unfold keysOf at e
          rw [List.length_map, List.length_take] at e
          omega
        have hno : M.lookup m = none := by
          cases z : M.lookup m with
          | none => rfl
          | some u =>
            have hmem : m ∈ keysOf M := List.mem_map.mpr ⟨_, look_mem z, rfl⟩
            rw [j2] at hmem
            obtain ⟨j', hj'⟩ := List.mem_iff_getElem?.mp hmem
            rw [List.getElem?_take] at hj'
            split at hj'
            · have := nd_ix hnd hj' hm
              omega
            · cases hj'
        have hno2 : valV kvs (Sum.inl m : Key) = none := by
          rcases hl with ⟨_, _, _, z, _⟩ | ⟨z, _⟩
          · rw [hno] at z; cases z
          · exact z
        refine ⟨_, rfl, _, rfl, D6, _, rfl, DPut.k (k := Sum.inl m) hk (small1000 (by omega)), ?_⟩
        obtain ⟨ks, w1, w2⟩ := sub10
        cases hk.symm.trans w1
        have kz : KeepT H10 (upd H10 D6 (.dK (putK kvs (Sum.inl m) v))) := fun b xs hb => by rw [upd_ne (ne_of hb hk (by intro z; cases z))]; exact hb
        refine ⟨M ++ [(m, t')], _, rfl, SubAt.put hk w2 hno2 hv, ?_, fun e he => ?_, TmAt.keep (k10.trans kz) _ _ j4, pool_upd p10 nD6p (pool_b p7 nD6), (j6.keep k10).keep kz, by rw [upd_ne hr6]; exact hr10⟩
        · rw [keys_snoc, j2, List.take_add_one, hm]
          rfl
        · rcases List.mem_append.mp he with he | he
          · exact j3 e he
          · rw [List.mem_singleton.mp he]
            exact ⟨over_in hok _ t' hov, Nat.le_trans smv.2 (by omega), by show t'.size ≤ 3; omega⟩
      · obtain ⟨M, x7, rfl, j1, j2, j3, j4, j5, j6, j7⟩ := hh
        rw [List.length_map, List.take_length] at j2
        have all : ∀ n ∈ t.occ, (onv M n).In (arOf cs) ∧ (onv M n).high ≤ 2 ∧ (onv M n).size ≤ 3 := fun n hn => by
          have hk : n ∈ keysOf M := by rw [j2, firsts_mem, hocc]; exact hn
          obtain ⟨e, he, ee⟩ := onv_in hk
          rw [ee]
          exact j3 e he
        -- the term
        refine ⟨_, rfl, _, rfl, g, t, (D6, M), rfl, j4, by omega, by omega, j1, fun v8 H9 hv8 s9 => ?_⟩
        have i8 := sub_in t ig fun n hn => (all n hn).1
        have z8 := sub_size (k := 3) (by decide) t fun n hn => (all n hn).2.2
        have h8 := sub_high t fun n hn => (all n hn).2.1
        generalize t.sub (onv M) = t8 at hv8 i8 z8 h8
        have p9 := pool_same j5 s9
        have c9 := j6.keep (KeepT.of s9)
        have g9 := TmAt.keep (KeepT.of s9) _ _ j4
        -- the part
        refine ⟨_, rfl, _, rfl, (by show 3 ≤ sizeLine; decide), fun l nl => ?_⟩
        have sl := same_new nl (HO.lst [.int 0, .int 1, .int 5])
        have nlp : l ≠ p := pool_a p9 nl
        refine ⟨p, b, c, l, cs, [0, 1, 5], 2, rfl, pool_same p9 sl, c9.keep (KeepT.of sl), hok, SqL.of upd_same, nlp, by decide, by omega, by omega, fun v9 t9 H10 hv9 ho9 p10 e10 => ?_⟩
        have sm9 := over_small hok.ar _ t9 ho9
        have i9 := over_in hok _ t9 ho9
        have k10 := (KeepT.of sl).trans (KeepT.but e10 (pool_same p9 sl))
        have c10 := c9.keep k10
        have g10 := TmAt.keep k10 _ _ g9
        have w10 := TmAt.keep k10 _ _ hv8
        -- the five
        refine ⟨_, rfl, _, rfl, _, rfl, _, rfl, fun dd ndd => ?_⟩
        refine ⟨_, rfl, upd_same, [(Sum.inl 0, v9)], rfl, (by show 1 ≤ 15; decide), ?_⟩
        have sd : Same H10 (upd (upd H10 dd (.dK [])) dd (.dK (mergeK [] [(Sum.inl 0, v9)]))) := fun b o hb => by
          have hbd := ne_of_none hb ndd
          rw [upd_ne hbd, upd_ne hbd]; exact hb
        have one : ∀ n, (onv [(0, t9)] n).In (arOf cs) ∧ (onv [(0, t9)] n).high ≤ 2 ∧ (onv [(0, t9)] n).size ≤ 3 := fun n => by
          by_cases e : n = 0
          · subst e
            exact ⟨i9, sm9.2, by show t9.size ≤ 3; omega⟩
          · have e' : onv [(0, t9)] n = .var n := by
              unfold onv
              rw [List.lookup_cons, beq_eq_false_iff_ne.mpr e]
              rfl
            rw [e']
            exact ⟨trivial, by show 1 ≤ 2; decide, by show 1 ≤ 3; decide⟩
        refine ⟨v8, t8, (dd, [(0, t9)]), rfl, TmAt.keep (KeepT.of sd) _ _ w10, by omega, by omega, ⟨_, upd_same, .cons ⟨rfl, TmAt.keep (KeepT.of sd) _ _ hv9⟩ .nil⟩, fun v12 H12 hv12 s12 => ?_⟩
        have i12 := sub_in t8 i8 fun n _ => (one n).1
        have z12 := sub_size (k := 3) (by decide) t8 fun n _ => (one n).2.2
        have h12 := sub_high t8 fun n _ => (one n).2.1
        generalize t8.sub (onv [(0, t9)]) = t12 at hv12 i12 z12 h12
        have s1012 := sd.trans s12
        have k12 := KeepT.of s1012
        have p12 := pool_same p10 s1012
        refine ⟨_, rfl, _, rfl, _, rfl, p, b, c, cs, g, t, rfl, p12, c10.keep k12, hok, TmAt.keep k12 _ _ g10, ig, hhg, by omega, fun v13 t13 H13 hv13 i13 h13 z13 p13 e13 => ?_⟩
        have k13 := k12.trans (KeepT.but e13 p12)
        refine ⟨(by show 5 ≤ sizeLine; decide), fun T nT => ?_⟩
        have sT := same_new nT (HO.tup [v8, v9, g, v12, v13])
        have kT := k13.trans (KeepT.of sT)
        have five : TmsAt (upd H13 T (.tup [v8, v9, g, v12, v13])) [v8, v9, g, v12, v13] [t8, t9, t, t12, t13] :=
          .cons (TmAt.keep kT _ _ w10) (.cons (TmAt.keep kT _ _ hv9) (.cons (TmAt.keep kT _ _ g10) (.cons (TmAt.keep ((KeepT.but e13 p12).trans (KeepT.of sT)) _ _ hv12) (.cons (TmAt.keep (KeepT.of sT) _ _ hv13) .nil))))
        have okk : ∀ u ∈ [t8, t9, t, t12, t13], u.In (arOf cs) ∧ u.high ≤ 8 ∧ u.size ≤ 200 := fun u hu => by
          rcases List.mem_cons.mp hu with rfl | hu
          · exact ⟨i8, by omega, by omega⟩
          rcases List.mem_cons.mp hu with rfl | hu
          · exact ⟨i9, Nat.le_trans sm9.2 (by decide), by omega⟩
          rcases List.mem_cons.mp hu with rfl | hu
          · exact ⟨ig, by omega, by omega⟩
          rcases List.mem_cons.mp hu with rfl | hu
          · exact ⟨i12, by omega, by omega⟩
          rw [List.mem_singleton.mp hu]
          exact ⟨i13, by omega, by omega⟩
        have pT := pool_same p13 sT
        have cT := c10.keep kT
        clear all one
        have gT := TmAt.keep kT _ _ g10
        have tT : (upd H13 T (.tup [v8, v9, g, v12, v13])) T = some (HO.tup [v8, v9, g, v12, v13]) := upd_same
        refine ⟨T, rfl, ⟨_, SqT.of upd_same⟩, ?_⟩
        clear sT kT
        generalize hT : upd H13 T (.tup [v8, v9, g, v12, v13]) = HT at five gT pT cT tT ⊢
        clear hT
        generalize [v8, v9, g, v12, v13] = xs at five tT
        generalize [t8, t9, t, t12, t13] = ts at five okk
        refine for_tup (xs := xs) (fun j σ H' => ∃ (x10 x11 x12 x13 : Option V), σ = [some (.ref a), some (.ref p), some (.ref c), some (.int (0 + (i : Int))), some g, some (.ref D5), some (.ref D6), x7, some v8, some v9, x10, x11, x12, x13, none, none] ∧
            TmsAt H' xs ts ∧ TmAt H' g t ∧ PoolAt H' p b ∧ ConsAt H' c cs ∧ H' T = some (.tup xs))
          ⟨x10, x11, x12, x13, rfl, five, gT, pT, cT, tT⟩ (fun j σ H' _ hh => by obtain ⟨_, _, _, _, _, _, _, _, _, h⟩ := hh; exact SqT.of h) (fun j x σ H' hx hh => ?_) (fun σ H' hh => ?_)
        · obtain ⟨x10, x11, x12, x13, rfl, j1, j2, j3, j4, j5⟩ := hh
          have hjl : j < ts.length := by rw [← j1.length]; exact (List.getElem?_eq_some_iff.mp hx).1
          obtain ⟨x', hx1, hx2⟩ := j1.get (List.getElem?_eq_getElem hjl)
          obtain rfl : x = x' := Option.some.inj (hx.symm.trans hx1)
          obtain ⟨iu, hhu, zu⟩ := okk _ (List.getElem_mem hjl)
          generalize ts[j] = u at hx2 iu hhu zu
          intro D nD
          have s0 := same_new nD (HO.dK [])
          have x1 := TmAt.keep (KeepT.of s0) _ _ hx2
          have g1 := TmAt.keep (KeepT.of s0) _ _ j2
          have z0 : SubAt (upd H' D (.dK [])) D [] := ⟨[], upd_same, .nil⟩
          have back : ∀ Hf, But D (upd H' D (.dK [])) Hf → Same H' Hf := fun Hf e b o hb => e b o (ne_of_none hb nD) (by rw [upd_ne (ne_of_none hb nD)]; exact hb)
          have next : ∀ (Hf : Hp) (y12 y13 : Option V), But D (upd H' D (.dK [])) Hf → ∃ (x10 x11 x12 x13 : Option V), [some (V.ref a), some (.ref p), some (.ref c), some (.int (0 + (i : Int))), some g, some (.ref D5), some (.ref D6), x7, some v8, some v9, some x, some (.ref D), y12, y13, none, none] =
              [some (.ref a), some (.ref p), some (.ref c), some (.int (0 + (i : Int))), some g, some (.ref D5), some (.ref D6), x7, some v8, some v9, x10, x11, x12, x13, none, none] ∧ TmsAt Hf xs ts ∧ TmAt Hf g t ∧ PoolAt Hf p b ∧ ConsAt Hf c cs ∧ Hf T = some (.tup xs) := fun Hf y12 y13 e => by
            have s := back Hf e
            exact ⟨_, _, _, _, rfl, TmsAt.keep (KeepT.of s) _ _ j1, TmAt.keep (KeepT.of s) _ _ j2, pool_same j3 s, j4.keep (KeepT.of s), s _ _ j5⟩
          refine ⟨_, rfl, _, rfl, _, rfl, g, x, D, t, u, arOf cs, [], rfl, g1, x1, ig, iu, hhg, by omega, z0, ⟨List.nodup_nil, (fun _ h => by cases h)⟩, by (show 0 + t.size ≤ 1000; omega), fun ok M' H1 m1 m2 m3 b1 fit => ?_⟩
          have k1 := KeepT.dict b1 z0
          refine ⟨_, rfl, _, rfl, g, x, t, u, arOf cs, rfl, TmAt.keep k1 _ _ g1, TmAt.keep k1 _ _ x1, ig, iu, by omega, by omega, by omega, fun H2 s2 none => ?_, fun dd M2 H2 ndd sub2 mok2 len2 s2 keys2 ext2 => ?_⟩
          · have hok' : ok = false := by
              cases ok with
              | false => rfl
              | true => exact absurd (((fit.yes rfl).2 (onv M')).mp (ext_onv m2.1)).2 (none _)
            subst hok'
            refine ⟨_, rfl, rfl, _, rfl, rfl, _, rfl, ite2 (fun c => ?_) (fun _ => ?_)⟩
            · simp at c
            exact ⟨_, rfl, _, rfl, iteF ⟨_, rfl, _, rfl, iteF (next _ _ _ (b1.trans (But.of s2)))⟩⟩
          · have hok' : ok = true := by
              cases ok with
              | true => rfl
              | false => exact absurd ((ext2 (onv M2)).mp (ext_onv mok2.1)) (fit.no rfl _ (fun _ h => by cases h))
            subst hok'
            obtain ⟨ky, ex⟩ := fit.yes rfl
            have ky' : ∀ n, n ∈ keysOf M' ↔ n ∈ t.occ := fun n => by
              rw [ky n]
              exact ⟨fun h => h.elim (fun h => (by cases h)) id, .inr⟩
            have eu : t.sub (onv M') = u := ((ex (onv M')).mp (ext_onv m2.1)).2
            have e2u : Ext M2 (onv M') := (ext2 _).mpr eu
            refine ⟨_, rfl, rfl, _, rfl, rfl, _, rfl, ite2 (fun c => ?_) (fun _ => ?_)⟩
            · simp at c
            obtain ⟨kvs2, hk2, pr2⟩ := id sub2
            obtain ⟨kvs1, hk1, pr1⟩ := id m1
            have td : TyN H2 (.ref dd) "dict" := .inr (.inr ⟨rfl, kvs2, hk2⟩)
            refine ⟨_, rfl, _, rfl, iteT ?_⟩
            refine ⟨_, rfl, ⟨_, _, _, _, true, rfl, .ty _, tyx td, kit_ty (by decide +kernel), _, rfl, iteF ?_⟩⟩
            have lz : M'.length ≤ 11 := by
              have : M'.length ≤ 0 + t.size := m3
              omega
            refine ⟨_, rfl, dd, kvs2, keysOf M2, rfl, .inl hk2, keys_kvs pr2, by unfold keysOf; rw [List.length_map]; omega, fun ys p1 pm1 st1 np1 => ?_⟩
            have sp1 := same_new np1 (HO.lst (ys.map V.int))
            refine ⟨_, rfl, D, kvs1, keysOf M', rfl, .inl (sp1 _ _ (s2 _ _ hk1)), keys_kvs pr1, by unfold keysOf; rw [List.length_map]; omega, fun zs p2 pm2 st2 np2 => ?_⟩
            have sp2 := same_new np2 (HO.lst (zs.map V.int))
            have eyz : ys = zs := sorted_same pm1 pm2 st1 st2 mok2.1 m2.1 fun n => (keys2 n).trans (ky' n).symm
            subst eyz
            have ly : ys.length ≤ 11 := by
              have := pm2.length_eq
              unfold keysOf at this
              rw [List.length_map] at this
              omega
            refine ⟨.ref p1, .ref p2, rfl, Eqd.lst (sp2 _ _ upd_same) upd_same rfl (by rw [List.length_map]; omega) (fun i y z hy hz => ?_), fun H5 s5 => ⟨_, rfl, iteF ?_⟩⟩
            · cases hy.symm.trans hz
              rw [List.getElem?_map] at hy
              obtain ⟨m, _, rfl⟩ := Option.map_eq_some_iff.mp hy
              exact Eqd.flat rfl
            have s25 := (sp1.trans sp2).trans s5
            have s15 := s2.trans s25
            have hD5' := s15 _ _ hk1
            have m5 := m1.keep s15
            refine ⟨_, rfl, _, rfl, iteT ?_⟩
            refine ⟨D, .dK kvs1, hD5', trivial, fun od => ?_⟩
            have lock : But D H5 (upd H5 D (.frz od (.dK kvs1))) := But.put
            have klock := KeepT.dict lock m5
            refine ⟨_, rfl, D, od, rfl, .inl ⟨kvs1, upd_same, fun D3 nD3 => ?_⟩⟩
            have nDD : D ≠ D3 := ne_of_none upd_same nD3
            have hdd : dd ≠ D := ne_of_none_of_some ndd hk1
            refine lc_it walk_keys (fun _ H' => H' D3 = some (.lst []) ∧ Same (upd H5 D (.frz od (.dK kvs1))) H') ⟨upd_same, same_new nD3 _⟩ (fun _ H' _ h => h.2 _ _ upd_same) (fun j y H' H'' hj h yy => ?_) (fun H6 h => ?_)
            · obtain ⟨h1, h2⟩ := h
              obtain ⟨rfl, k, v, hkv, rfl⟩ := yy
              obtain ⟨⟨m, tm⟩, hM, hk, hat⟩ := L2.paired_get pr1 hkv
              cases hk
              have mem := List.mem_of_getElem? hM
              have mk : m ∈ keysOf M' := List.mem_map.mpr ⟨_, mem, rfl⟩
              have etm : onv M' m = tm := ext_onv m2.1 _ mem
              have part := sub_part (θ := onv M') t ((ky' m).mp mk)
              rw [etm, eu] at part
              -- the value told
              obtain ⟨kz, hz, lz2⟩ := ((sub2.keep s25).but lock hdd klock).look m
              -- the value due
              obtain ⟨ka, ha, la⟩ := m5.look m
              cases hD5'.symm.trans ha
              obtain ⟨va, a1, a3⟩ : ∃ va, valV kvs1 (Sum.inl m : Key) = some va ∧ TmAt H5 va tm := by
                rcases la with ⟨va, ta, a1, a2, a3⟩ | ⟨_, a2⟩
                · rw [← Option.some.inj (a2.symm.trans (look_at m2.1 mem))]
                  exact ⟨va, a1, a3⟩
                · exact absurd mk (look_no a2)
              obtain ⟨vb, c1, c3⟩ : ∃ vb, valV kz (Sum.inl m : Key) = some vb ∧ TmAt (upd H5 D (.frz od (.dK kvs1))) vb tm := by
                rcases lz2 with ⟨vb, tb, c1, c2, c3⟩ | ⟨_, c2⟩
                · rw [← (e2u _ (look_mem c2)).symm.trans etm]
                  exact ⟨vb, c1, c3⟩
                · exact absurd ((keys2 m).mpr ((ky' m).mp mk)) (look_no c2)
              refine ⟨rfl, _, rfl, _, rfl, dd, vb, rfl, by rw [← c1]; exact DGet.k (k := Sum.inl m) (h2 _ _ hz), _, rfl, _, rfl, D, va, rfl, .inl ⟨kvs1, Sum.inl m, .inr ⟨od, h2 _ _ upd_same⟩, rfl, a1.symm⟩, ?_⟩
              refine ⟨vb, va, rfl, eqd_tm 8 _ vb va (TmAt.keep (KeepT.of h2) _ _ c3) (TmAt.keep (klock.trans (KeepT.of h2)) _ _ a3) (by omega) (by omega), fun H7 s7 => ⟨_, rfl, iteF ⟨s7 _ _ h1, h2.trans s7⟩⟩⟩
            · obtain ⟨h1, h2⟩ := h
              refine ⟨h2 _ _ upd_same, D3, [], rfl, .inl (SqL.of (by rw [upd_ne nDD.symm]; exact h1)), _, _, rfl, rfl, _, rfl, ite2 (fun c => absurd (of_decide_eq_true c) (by decide)) (fun _ => next _ _ _ ?_)⟩
              exact ((((b1.trans (But.of s15)).trans lock).trans (But.of h2)).trans But.put)
        · obtain ⟨x10, x11, x12, x13, rfl, j1, j2, j3, j4, j5⟩ := hh
          exact ⟨_, _, _, _, _, _, _, _, _, _, _, rfl, j3, j4⟩
  · obtain ⟨x3, x4, x5, x6, x7, x8, x9, x10, x11, x12, x13, rfl, _, _⟩ := hh
    exact q H3
end
end Cf
namespace Cf
open PySem L2
section
theorem all_mk {l : PySem.W.OpenLaw} {w : World} {K : PySem.W.Frag} {h : Heap} {mg : Str → Option Value} {fa fPool fSpread fDraw fPick fSpelled fWords fCons fTerm fIsInt fSame fLOcc fUnlike fReplace fNumbers fTaken fLoose fMatch fLaw : Addr} (X : K.In h) (G : h.Ns mainGlobals mg) (hfa : mg "law" = some (.ref fa))
    {odPool anPool odSpread anSpread odDraw anDraw odPick anPick odSpelled anSpelled odWords anWords odCons anCons odTerm anTerm odIsInt anIsInt odSame anSame odLOcc anLOcc odUnlike anUnlike odReplace anReplace odNumbers anNumbers odTaken anTaken odLoose anLoose odMatch anMatch odLaw anLaw : Option Addr} {slPool slSpread slDraw slPick slSpelled slWords slCons slTerm slIsInt slSame slLOcc slUnlike slReplace slNumbers slTaken slLoose slMatch slLaw : Array (Option Value)} {ocPool kVPool dcPool pmPool cdPool ctPool ocSpread kVSpread dcSpread pmSpread cdSpread ctSpread ocDraw kVDraw dcDraw pmDraw cdDraw ctDraw ocPick kVPick dcPick pmPick cdPick ctPick ocSpelled kVSpelled dcSpelled pmSpelled cdSpelled ctSpelled ocWords kVWords dcWords pmWords cdWords ctWords ocCons kVCons dcCons pmCons cdCons ctCons ocTerm kVTerm dcTerm pmTerm cdTerm ctTerm ocIsInt kVIsInt dcIsInt pmIsInt cdIsInt ctIsInt ocSame kVSame dcSame pmSame cdSame ctSame ocLOcc kVLOcc dcLOcc pmLOcc cdLOcc ctLOcc ocUnlike kVUnlike dcUnlike pmUnlike cdUnlike ctUnlike ocReplace kVReplace dcReplace pmReplace cdReplace ctReplace ocNumbers kVNumbers dcNumbers pmNumbers cdNumbers ctNumbers ocTaken kVTaken dcTaken pmTaken cdTaken ctTaken ocLoose kVLoose dcLoose pmLoose cdLoose ctLoose ocMatch kVMatch dcMatch pmMatch cdMatch ctMatch ocLaw kVLaw dcLaw pmLaw cdLaw ctLaw : Value}
    (aPool : PySem.W.nsIn K mainGlobals "_law_pool" = some (some (.ref fPool)))
    (lPool : K.lookup fPool = some ⟨ocPool, odPool, .func (PySem.W.fnOf "_law_pool" "_law_pool" (defArgs sPool) (defBody sPool) (defScope sPool) .none kVPool dcPool pmPool anPool cdPool ctPool), slPool⟩)
    (cPool : PySem.W.codeIn K cdPool "_law_pool" = true) (kPool : PySem.W.keepIn K (.ref fPool) = true)
    (aSpread : PySem.W.nsIn K mainGlobals "_law_spread" = some (some (.ref fSpread)))
    (lSpread : K.lookup fSpread = some ⟨ocSpread, odSpread, .func (PySem.W.fnOf "_law_spread" "_law_spread" (defArgs sSpread) (defBody sSpread) (defScope sSpread) .none kVSpread dcSpread pmSpread anSpread cdSpread ctSpread), slSpread⟩)
    (cSpread : PySem.W.codeIn K cdSpread "_law_spread" = true) (kSpread : PySem.W.keepIn K (.ref fSpread) = true)
    (aDraw : PySem.W.nsIn K mainGlobals "_law_draw" = some (some (.ref fDraw)))
    (lDraw : K.lookup fDraw = some ⟨ocDraw, odDraw, .func (PySem.W.fnOf "_law_draw" "_law_draw" (defArgs sDraw) (defBody sDraw) (defScope sDraw) .none kVDraw dcDraw pmDraw anDraw cdDraw ctDraw), slDraw⟩)
    (cDraw : PySem.W.codeIn K cdDraw "_law_draw" = true) (kDraw : PySem.W.keepIn K (.ref fDraw) = true)
    (aPick : PySem.W.nsIn K mainGlobals "_law_pick" = some (some (.ref fPick)))
    (lPick : K.lookup fPick = some ⟨ocPick, odPick, .func (PySem.W.fnOf "_law_pick" "_law_pick" (defArgs sPick) (defBody sPick) (defScope sPick) .none kVPick dcPick pmPick anPick cdPick ctPick), slPick⟩)
    (cPick : PySem.W.codeIn K cdPick "_law_pick" = true) (kPick : PySem.W.keepIn K (.ref fPick) = true)
    (aSpelled : PySem.W.nsIn K mainGlobals "_law_spelled" = some (some (.ref fSpelled)))
    (lSpelled : K.lookup fSpelled = some ⟨ocSpelled, odSpelled, .func (PySem.W.fnOf "_law_spelled" "_law_spelled" (defArgs sSpelled) (defBody sSpelled) (defScope sSpelled) .none kVSpelled dcSpelled pmSpelled anSpelled cdSpelled ctSpelled), slSpelled⟩)
    (cSpelled : PySem.W.codeIn K cdSpelled "_law_spelled" = true) (kSpelled : PySem.W.keepIn K (.ref fSpelled) = true)
    (aWords : PySem.W.nsIn K mainGlobals "_law_words" = some (some (.ref fWords)))
    (lWords : K.lookup fWords = some ⟨ocWords, odWords, .func (PySem.W.fnOf "_law_words" "_law_words" (defArgs sWords) (defBody sWords) (defScope sWords) .none kVWords dcWords pmWords anWords cdWords ctWords), slWords⟩)
    (cWords : PySem.W.codeIn K cdWords "_law_words" = true) (kWords : PySem.W.keepIn K (.ref fWords) = true)
    (aCons : PySem.W.nsIn K mainGlobals "_law_constructors" = some (some (.ref fCons)))
    (lCons : K.lookup fCons = some ⟨ocCons, odCons, .func (PySem.W.fnOf "_law_constructors" "_law_constructors" (defArgs sCons) (defBody sCons) (defScope sCons) .none kVCons dcCons pmCons anCons cdCons ctCons), slCons⟩)
    (cCons : PySem.W.codeIn K cdCons "_law_constructors" = true) (kCons : PySem.W.keepIn K (.ref fCons) = true)
    (aTerm : PySem.W.nsIn K mainGlobals "_law_term" = some (some (.ref fTerm)))
    (lTerm : K.lookup fTerm = some ⟨ocTerm, odTerm, .func (PySem.W.fnOf "_law_term" "_law_term" (defArgs sTerm) (defBody sTerm) (defScope sTerm) .none kVTerm dcTerm pmTerm anTerm cdTerm ctTerm), slTerm⟩)
    (cTerm : PySem.W.codeIn K cdTerm "_law_term" = true) (kTerm : PySem.W.keepIn K (.ref fTerm) = true)
    (aIsInt : PySem.W.nsIn K mainGlobals "_law_is_integer" = some (some (.ref fIsInt)))
    (lIsInt : K.lookup fIsInt = some ⟨ocIsInt, odIsInt, .func (PySem.W.fnOf "_law_is_integer" "_law_is_integer" (defArgs sIsInt) (defBody sIsInt) (defScope sIsInt) .none kVIsInt dcIsInt pmIsInt anIsInt cdIsInt ctIsInt), slIsInt⟩)
    (cIsInt : PySem.W.codeIn K cdIsInt "_law_is_integer" = true) (kIsInt : PySem.W.keepIn K (.ref fIsInt) = true)
    (aSame : PySem.W.nsIn K mainGlobals "_law_same" = some (some (.ref fSame)))
    (lSame : K.lookup fSame = some ⟨ocSame, odSame, .func (PySem.W.fnOf "_law_same" "_law_same" (defArgs sSame) (defBody sSame) (defScope sSame) .none kVSame dcSame pmSame anSame cdSame ctSame), slSame⟩)
    (cSame : PySem.W.codeIn K cdSame "_law_same" = true) (kSame : PySem.W.keepIn K (.ref fSame) = true)
    (aLOcc : PySem.W.nsIn K mainGlobals "_law_occurrences" = some (some (.ref fLOcc)))
    (lLOcc : K.lookup fLOcc = some ⟨ocLOcc, odLOcc, .func (PySem.W.fnOf "_law_occurrences" "_law_occurrences" (defArgs sLOcc) (defBody sLOcc) (defScope sLOcc) .none kVLOcc dcLOcc pmLOcc anLOcc cdLOcc ctLOcc), slLOcc⟩)
    (cLOcc : PySem.W.codeIn K cdLOcc "_law_occurrences" = true) (kLOcc : PySem.W.keepIn K (.ref fLOcc) = true)
    (aUnlike : PySem.W.nsIn K mainGlobals "_law_unlike" = some (some (.ref fUnlike)))
    (lUnlike : K.lookup fUnlike = some ⟨ocUnlike, odUnlike, .func (PySem.W.fnOf "_law_unlike" "_law_unlike" (defArgs sUnlike) (defBody sUnlike) (defScope sUnlike) .none kVUnlike dcUnlike pmUnlike anUnlike cdUnlike ctUnlike), slUnlike⟩)
    (cUnlike : PySem.W.codeIn K cdUnlike "_law_unlike" = true) (kUnlike : PySem.W.keepIn K (.ref fUnlike) = true)
    (aReplace : PySem.W.nsIn K mainGlobals "_law_replace" = some (some (.ref fReplace)))
    (lReplace : K.lookup fReplace = some ⟨ocReplace, odReplace, .func (PySem.W.fnOf "_law_replace" "_law_replace" (defArgs sReplace) (defBody sReplace) (defScope sReplace) .none kVReplace dcReplace pmReplace anReplace cdReplace ctReplace), slReplace⟩)
    (cReplace : PySem.W.codeIn K cdReplace "_law_replace" = true) (kReplace : PySem.W.keepIn K (.ref fReplace) = true)
    (aNumbers : PySem.W.nsIn K mainGlobals "_law_numbers" = some (some (.ref fNumbers)))
    (lNumbers : K.lookup fNumbers = some ⟨ocNumbers, odNumbers, .func (PySem.W.fnOf "_law_numbers" "_law_numbers" (defArgs sNumbers) (defBody sNumbers) (defScope sNumbers) .none kVNumbers dcNumbers pmNumbers anNumbers cdNumbers ctNumbers), slNumbers⟩)
    (cNumbers : PySem.W.codeIn K cdNumbers "_law_numbers" = true) (kNumbers : PySem.W.keepIn K (.ref fNumbers) = true)
    (aTaken : PySem.W.nsIn K mainGlobals "_law_taken" = some (some (.ref fTaken)))
    (lTaken : K.lookup fTaken = some ⟨ocTaken, odTaken, .func (PySem.W.fnOf "_law_taken" "_law_taken" (defArgs sTaken) (defBody sTaken) (defScope sTaken) .none kVTaken dcTaken pmTaken anTaken cdTaken ctTaken), slTaken⟩)
    (cTaken : PySem.W.codeIn K cdTaken "_law_taken" = true) (kTaken : PySem.W.keepIn K (.ref fTaken) = true)
    (aLoose : PySem.W.nsIn K mainGlobals "_law_loose" = some (some (.ref fLoose)))
    (lLoose : K.lookup fLoose = some ⟨ocLoose, odLoose, .func (PySem.W.fnOf "_law_loose" "_law_loose" (defArgs sLoose) (defBody sLoose) (defScope sLoose) .none kVLoose dcLoose pmLoose anLoose cdLoose ctLoose), slLoose⟩)
    (cLoose : PySem.W.codeIn K cdLoose "_law_loose" = true) (kLoose : PySem.W.keepIn K (.ref fLoose) = true)
    (aMatch : PySem.W.nsIn K mainGlobals "match" = some (some (.ref fMatch)))
    (lMatch : K.lookup fMatch = some ⟨ocMatch, odMatch, .func (PySem.W.fnOf "match" "match" (defArgs sMatch) (defBody sMatch) (defScope sMatch) .none kVMatch dcMatch pmMatch anMatch cdMatch ctMatch), slMatch⟩)
    (cMatch : PySem.W.codeIn K cdMatch "match" = true) (kMatch : PySem.W.keepIn K (.ref fMatch) = true)
    (aLaw : PySem.W.nsIn K mainGlobals "law" = some (some (.ref fLaw)))
    (lLaw : K.lookup fLaw = some ⟨ocLaw, odLaw, .func (PySem.W.fnOf "law" "law" (defArgs sLaw) (defBody sLaw) (defScope sLaw) .none kVLaw dcLaw pmLaw anLaw cdLaw ctLaw), slLaw⟩)
    (cLaw : PySem.W.codeIn K cdLaw "law" = true) (kLaw : PySem.W.keepIn K (.ref fLaw) = true)
    (z0 : PySem.W.nsIn K mainGlobals "int" = some none)
    (z1 : PySem.W.nsIn K mainGlobals "len" = some none)
    (z2 : PySem.W.nsIn K mainGlobals "range" = some none)
    (z3 : PySem.W.nsIn K mainGlobals "list" = some none)
    (z4 : PySem.W.nsIn K mainGlobals "tuple" = some none)
    (z5 : PySem.W.nsIn K mainGlobals "isinstance" = some none)
    (z6 : PySem.W.nsIn K mainGlobals "bool" = some none)
    (z7 : PySem.W.nsIn K mainGlobals "str" = some none)
    (z8 : PySem.W.nsIn K mainGlobals "type" = some none)
    (z9 : PySem.W.nsIn K mainGlobals "max" = some none)
    (z10 : PySem.W.nsIn K mainGlobals "sum" = some none)
    (z11 : PySem.W.nsIn K mainGlobals "set" = some none)
    (z12 : PySem.W.nsIn K mainGlobals "dict" = some none)
    (z13 : PySem.W.nsIn K mainGlobals "sorted" = some none)
    (z14 : PySem.W.nsIn K mainGlobals "enumerate" = some none)
    (z15 : PySem.W.nsIn K mainGlobals "zip" = some none)
    (z16 : PySem.W.nsIn K mainGlobals "all" = some none)
    (z17 : PySem.W.nsIn K mainGlobals "repr" = some none)
    (z18 : PySem.W.nsIn K mainGlobals "min" = some none)
    : ∃ fd : FuncData, (∀ (s : Shared) (v : Value), BindsTo s fd ⟨[v], []⟩ [("script", v)]) ∧ ∀ base : Heap, K.In base → base.Ns mainGlobals mg → FnOk l.prog w K mg base CX0 11 fa fd ["script"] (spLaw K) := by
  have e := hfa.symm.trans (PySem.W.mg_of X G aLaw)
  cases e
  have FPool := fun_mk (st := sPool) lPool cPool kPool
  have FSpread := fun_mk (st := sSpread) lSpread cSpread kSpread
  have FDraw := fun_mk (st := sDraw) lDraw cDraw kDraw
  have FPick := fun_mk (st := sPick) lPick cPick kPick
  have FSpelled := fun_mk (st := sSpelled) lSpelled cSpelled kSpelled
  have FWords := fun_mk (st := sWords) lWords cWords kWords
  have FCons := fun_mk (st := sCons) lCons cCons kCons
  have FTerm := fun_mk (st := sTerm) lTerm cTerm kTerm
  have FIsInt := fun_mk (st := sIsInt) lIsInt cIsInt kIsInt
  have FSame := fun_mk (st := sSame) lSame cSame kSame
  have FLOcc := fun_mk (st := sLOcc) lLOcc cLOcc kLOcc
  have FUnlike := fun_mk (st := sUnlike) lUnlike cUnlike kUnlike
  have FReplace := fun_mk (st := sReplace) lReplace cReplace kReplace
  have FNumbers := fun_mk (st := sNumbers) lNumbers cNumbers kNumbers
  have FTaken := fun_mk (st := sTaken) lTaken cTaken kTaken
  have FLoose := fun_mk (st := sLoose) lLoose cLoose kLoose
  have FMatch := fun_mk (st := sMatch) lMatch cMatch kMatch
  have FLaw := fun_mk (st := sLaw) lLaw cLaw kLaw
  have bPool := FPool.binds (ps := ["script"]) fun _ _ _ _ _ _ us hl => match us, hl with | [_], _ => rfl
  have mPool := PySem.W.mg_of X G aPool
  have bSpread := FSpread.binds (ps := ["cell"]) fun _ _ _ _ _ _ us hl => match us, hl with | [_], _ => rfl
  have mSpread := PySem.W.mg_of X G aSpread
  have bDraw := FDraw.binds (ps := ["pool", "many"]) fun _ _ _ _ _ _ us hl => match us, hl with | [_, _], _ => rfl
  have mDraw := PySem.W.mg_of X G aDraw
  have bPick := FPick.binds (ps := ["pool", "items"]) fun _ _ _ _ _ _ us hl => match us, hl with | [_, _], _ => rfl
  have mPick := PySem.W.mg_of X G aPick
  have bSpelled := FSpelled.binds (ps := ["number"]) fun _ _ _ _ _ _ us hl => match us, hl with | [_], _ => rfl
  have mSpelled := PySem.W.mg_of X G aSpelled
  have bWords := FWords.binds (ps := ["pool", "many"]) fun _ _ _ _ _ _ us hl => match us, hl with | [_, _], _ => rfl
  have mWords := PySem.W.mg_of X G aWords
  have bCons := FCons.binds (ps := ["pool"]) fun _ _ _ _ _ _ us hl => match us, hl with | [_], _ => rfl
  have mCons := PySem.W.mg_of X G aCons
  have bTerm := FTerm.binds (ps := ["pool", "constructors", "numbers", "deep"]) fun _ _ _ _ _ _ us hl => match us, hl with | [_, _, _, _], _ => rfl
  have mTerm := PySem.W.mg_of X G aTerm
  have bIsInt := FIsInt.binds (ps := ["actual"]) fun _ _ _ _ _ _ us hl => match us, hl with | [_], _ => rfl
  have mIsInt := PySem.W.mg_of X G aIsInt
  have bSame := FSame.binds (ps := ["actual", "due"]) fun _ _ _ _ _ _ us hl => match us, hl with | [_, _], _ => rfl
  have mSame := PySem.W.mg_of X G aSame
  have bLOcc := FLOcc.binds (ps := ["term"]) fun _ _ _ _ _ _ us hl => match us, hl with | [_], _ => rfl
  have mLOcc := PySem.W.mg_of X G aLOcc
  have bUnlike := FUnlike.binds (ps := ["row"]) fun _ _ _ _ _ _ us hl => match us, hl with | [_], _ => rfl
  have mUnlike := PySem.W.mg_of X G aUnlike
  have bReplace := FReplace.binds (ps := ["term", "given"]) fun _ _ _ _ _ _ us hl => match us, hl with | [_, _], _ => rfl
  have mReplace := PySem.W.mg_of X G aReplace
  have bNumbers := FNumbers.binds (ps := ["terms"]) fun _ _ _ _ _ _ us hl => match us, hl with | [_], _ => rfl
  have mNumbers := PySem.W.mg_of X G aNumbers
  have bTaken := FTaken.binds (ps := ["general", "term", "given"]) fun _ _ _ _ _ _ us hl => match us, hl with | [_, _, _], _ => rfl
  have mTaken := PySem.W.mg_of X G aTaken
  have bLoose := FLoose.binds (ps := ["pool", "constructors", "general"]) fun _ _ _ _ _ _ us hl => match us, hl with | [_, _, _], _ => rfl
  have mLoose := PySem.W.mg_of X G aLoose
  have bMatch := FMatch.binds (ps := ["p", "t"]) fun _ _ _ _ _ _ us hl => match us, hl with | [_, _], _ => rfl
  have mMatch := PySem.W.mg_of X G aMatch
  have B : Blt mg := ⟨PySem.W.mg_none_of X G z0, PySem.W.mg_none_of X G z1, PySem.W.mg_none_of X G z2, PySem.W.mg_none_of X G z3, PySem.W.mg_none_of X G z4, PySem.W.mg_none_of X G z5, PySem.W.mg_none_of X G z6, PySem.W.mg_none_of X G z7, PySem.W.mg_none_of X G z8, PySem.W.mg_none_of X G z9, PySem.W.mg_none_of X G z10, PySem.W.mg_none_of X G z11, PySem.W.mg_none_of X G z12, PySem.W.mg_none_of X G z13, PySem.W.mg_none_of X G z14, PySem.W.mg_none_of X G z15, PySem.W.mg_none_of X G z16, PySem.W.mg_none_of X G z17, PySem.W.mg_none_of X G z18⟩
  refine ⟨PySem.W.fnOf "law" "law" (defArgs sLaw) (defBody sLaw) (defScope sLaw) .none kVLaw dcLaw pmLaw anLaw cdLaw ctLaw, fun s v => .of_eq rfl, fun base _ _ => ?_⟩
  have GPool := ok_pool (P := l.prog) (w := w) (mg := mg) (base := base) FPool B
  have APool : At l.prog w K mg base "_law_pool" _ _ _ := ⟨fPool, _, GPool, bPool, kPool, mPool⟩
  have GSpread := ok_spread (P := l.prog) (w := w) (mg := mg) (base := base) FSpread B
  have ASpread : At l.prog w K mg base "_law_spread" _ _ _ := ⟨fSpread, _, GSpread, bSpread, kSpread, mSpread⟩
  have GDraw := ok_draw FDraw B GSpread bSpread kSpread mSpread
  have ADraw : At l.prog w K mg base "_law_draw" _ _ _ := ⟨fDraw, _, GDraw, bDraw, kDraw, mDraw⟩
  have GPick := ok_pick FPick B GDraw bDraw kDraw mDraw
  have APick : At l.prog w K mg base "_law_pick" _ _ _ := ⟨fPick, _, GPick, bPick, kPick, mPick⟩
  have GSpelled := ok_spelled (P := l.prog) (w := w) (mg := mg) (base := base) FSpelled B
  have ASpelled : At l.prog w K mg base "_law_spelled" _ _ _ := ⟨fSpelled, _, GSpelled, bSpelled, kSpelled, mSpelled⟩
  have GWords := ok_words FWords B GDraw bDraw kDraw mDraw GSpelled bSpelled kSpelled mSpelled
  have AWords : At l.prog w K mg base "_law_words" _ _ _ := ⟨fWords, _, GWords, bWords, kWords, mWords⟩
  have GCons := ok_cons FCons B GDraw bDraw kDraw mDraw GWords bWords kWords mWords
  have ACons : At l.prog w K mg base "_law_constructors" _ _ _ := ⟨fCons, _, GCons, bCons, kCons, mCons⟩
  have GTerm := ok_term FTerm B GDraw bDraw kDraw mDraw GPick bPick kPick mPick bTerm mTerm 3
  have ATerm : At l.prog w K mg base "_law_term" _ _ _ := ⟨fTerm, _, GTerm, bTerm, kTerm, mTerm⟩
  have GIsInt := ok_isInt (P := l.prog) (w := w) (mg := mg) (base := base) FIsInt B
  have AIsInt : At l.prog w K mg base "_law_is_integer" _ _ _ := ⟨fIsInt, _, GIsInt, bIsInt, kIsInt, mIsInt⟩
  have GSame := ok_same (P := l.prog) (w := w) (mg := mg) (base := base) FSame B bSame mSame 9
  have ASame : At l.prog w K mg base "_law_same" _ _ _ := ⟨fSame, _, GSame, bSame, kSame, mSame⟩
  have GLOcc := ok_lOcc FLOcc GIsInt bIsInt kIsInt mIsInt bLOcc mLOcc 4
  have ALOcc : At l.prog w K mg base "_law_occurrences" _ _ _ := ⟨fLOcc, _, GLOcc, bLOcc, kLOcc, mLOcc⟩
  have GUnlike := ok_unlike (P := l.prog) (w := w) (mg := mg) (base := base) FUnlike
  have AUnlike : At l.prog w K mg base "_law_unlike" _ _ _ := ⟨fUnlike, _, GUnlike, bUnlike, kUnlike, mUnlike⟩
  have GReplace := ok_Replace FReplace B GIsInt bIsInt kIsInt mIsInt bReplace mReplace 6
  have AReplace : At l.prog w K mg base "_law_replace" _ _ _ := ⟨fReplace, _, GReplace, bReplace, kReplace, mReplace⟩
  have GNumbers := ok_numbers FNumbers GLOcc bLOcc kLOcc mLOcc GUnlike bUnlike kUnlike mUnlike
  have ANumbers : At l.prog w K mg base "_law_numbers" _ _ _ := ⟨fNumbers, _, GNumbers, bNumbers, kNumbers, mNumbers⟩
  have GTaken := ok_taken FTaken B GIsInt bIsInt kIsInt mIsInt bTaken mTaken 4
  have ATaken : At l.prog w K mg base "_law_taken" _ _ _ := ⟨fTaken, _, GTaken, bTaken, kTaken, mTaken⟩
  have GLoose := ok_loose FLoose B GIsInt bIsInt kIsInt mIsInt GTerm bTerm kTerm mTerm bLoose mLoose 4
  have ALoose : At l.prog w K mg base "_law_loose" _ _ _ := ⟨fLoose, _, GLoose, bLoose, kLoose, mLoose⟩
  have GMatch := ok_match (P := l.prog) (w := w) (mg := mg) (base := base) FMatch B
  have AMatch : At l.prog w K mg base "match" _ _ _ := ⟨fMatch, _, GMatch, bMatch, kMatch, mMatch⟩
  exact ok_law FLaw B APool ACons ADraw ATerm ANumbers AReplace ATaken ALoose ASame AMatch
theorem walk {l : PySem.W.OpenLaw} {q : Program} {loose : List Str} {XP : (Str → Option Value) → Heap → Prop} {YP : World → Heap → Prop} {d : DefRec} {K : Params → PySem.W.Frag} (hn : l.most = some 63) (hdf : d.params.defaults = [])
    (hY : ∀ (w : World) (h : Heap), YP w h → (K w.params).In h)
    (F : ∀ (w : World) (mg : Str → Option Value) (fa : Addr) (h : Heap), (K w.params).In h → h.Ns mainGlobals mg → mg d.name = some (.ref fa) →
      ∃ fd : FuncData, (∀ (s : Shared) (u : Value), BindsTo s fd ⟨[u], []⟩ [("script", u)]) ∧ ∀ base : Heap, (K w.params).In base → base.Ns mainGlobals mg → FnOk l.prog w (K w.params) mg base CX0 11 fa fd ["script"] (spLaw (K w.params))) :
    PySem.W.WalkO q loose XP YP l.row.toRowW d [] (fun f vs => PySem.call f vs) :=
  L2.walk_of (n := 63) (k := 11) (x := "script") (CX := fun _ => CX0) (sp := fun w => spLaw (K w.params)) hn (by decide) hdf ⟨rfl, by decide, by decide⟩ hY F (fun _ _ a ns hl _ hS => ⟨a, ns, rfl, hS, hl, fun _ => rfl⟩) fun _ _ _ _ _ z => z
end
end Cf
open PySem PySem.W PyProof.Rows
set_option maxRecDepth 100000 in
set_option maxHeartbeats 0 in
theorem PySem.Challenge.cw_casefamilies_k10_matches_holds : PySem.Challenge.rw_casefamilies_k10_matches.Holds := by
  w_on; o_law; k_head; (case hw => w_witness2)
  k_fill
  refine Cf.walk (l := PySem.Challenge.rw_casefamilies_k10_matches) rfl rfl (fun w h Y => PySem.W.kIn_of Y) ?F
  case F =>
    intro w mg fa h KX G hmg
    refine' Cf.all_mk KX G hmg ?aPool ?lPool ?cPool ?kPool ?aSpread ?lSpread ?cSpread ?kSpread ?aDraw ?lDraw ?cDraw ?kDraw ?aPick ?lPick ?cPick ?kPick ?aSpelled ?lSpelled ?cSpelled ?kSpelled ?aWords ?lWords ?cWords ?kWords ?aCons ?lCons ?cCons ?kCons ?aTerm ?lTerm ?cTerm ?kTerm ?aIsInt ?lIsInt ?cIsInt ?kIsInt ?aSame ?lSame ?cSame ?kSame ?aLOcc ?lLOcc ?cLOcc ?kLOcc ?aUnlike ?lUnlike ?cUnlike ?kUnlike ?aReplace ?lReplace ?cReplace ?kReplace ?aNumbers ?lNumbers ?cNumbers ?kNumbers ?aTaken ?lTaken ?cTaken ?kTaken ?aLoose ?lLoose ?cLoose ?kLoose ?aMatch ?lMatch ?cMatch ?kMatch ?aLaw ?lLaw ?cLaw ?kLaw ?z0 ?z1 ?z2 ?z3 ?z4 ?z5 ?z6 ?z7 ?z8 ?z9 ?z10 ?z11 ?z12 ?z13 ?z14 ?z15 ?z16 ?z17 ?z18
    (case aPool => k_is); (case lPool => k_is); (case cPool => k_is); (case kPool => k_is)
    (case aSpread => k_is); (case lSpread => k_is); (case cSpread => k_is); (case kSpread => k_is)
    (case aDraw => k_is); (case lDraw => k_is); (case cDraw => k_is); (case kDraw => k_is)
    (case aPick => k_is); (case lPick => k_is); (case cPick => k_is); (case kPick => k_is)
    (case aSpelled => k_is); (case lSpelled => k_is); (case cSpelled => k_is); (case kSpelled => k_is)
    (case aWords => k_is); (case lWords => k_is); (case cWords => k_is); (case kWords => k_is)
    (case aCons => k_is); (case lCons => k_is); (case cCons => k_is); (case kCons => k_is)
    (case aTerm => k_is); (case lTerm => k_is); (case cTerm => k_is); (case kTerm => k_is)
    (case aIsInt => k_is); (case lIsInt => k_is); (case cIsInt => k_is); (case kIsInt => k_is)
    (case aSame => k_is); (case lSame => k_is); (case cSame => k_is); (case kSame => k_is)
    (case aLOcc => k_is); (case lLOcc => k_is); (case cLOcc => k_is); (case kLOcc => k_is)
    (case aUnlike => k_is); (case lUnlike => k_is); (case cUnlike => k_is); (case kUnlike => k_is)
    (case aReplace => k_is); (case lReplace => k_is); (case cReplace => k_is); (case kReplace => k_is)
    (case aNumbers => k_is); (case lNumbers => k_is); (case cNumbers => k_is); (case kNumbers => k_is)
    (case aTaken => k_is); (case lTaken => k_is); (case cTaken => k_is); (case kTaken => k_is)
    (case aLoose => k_is); (case lLoose => k_is); (case cLoose => k_is); (case kLoose => k_is)
    (case aMatch => k_is); (case lMatch => k_is); (case cMatch => k_is); (case kMatch => k_is)
    (case aLaw => k_is); (case lLaw => k_is); (case cLaw => k_is); (case kLaw => k_is)
    (case z0 => k_is)
    (case z1 => k_is)
    (case z2 => k_is)
    (case z3 => k_is)
    (case z4 => k_is)
    (case z5 => k_is)
    (case z6 => k_is)
    (case z7 => k_is)
    (case z8 => k_is)
    (case z9 => k_is)
    (case z10 => k_is)
    (case z11 => k_is)
    (case z12 => k_is)
    (case z13 => k_is)
    (case z14 => k_is)
    (case z15 => k_is)
    (case z16 => k_is)
    (case z17 => k_is)
    (case z18 => k_is)
