import PyProof.Rows.All
import Wide.All
import OpenK.AllK
import Wide.FinOn
import HandS.ForMost
import HandS.Wide
import HandS.IsInst
import HandS.Zip
import HandS.TupAny
import HandS.Evl
import HandS.Codes
import HandS.Walk
import HandS.Conv
import HandS.DictComp
import HandS.More
import PyProof.ReprReads
import PyProof.ReprText
import PyProof.StrLawsRepr
import HandS.SetKeys
import PySem.Challenge.RW_casefamilies_k04_substitutions
set_option Elab.async false
set_option linter.unusedVariables false
set_option linter.unusedSimpArgs false
set_option maxRecDepth 100000
set_option maxHeartbeats 4000000
namespace Cf
open PySem L2
def top (i : Nat) : Stmt := PySem.Challenge.pw_casefamilies_k04_substitutions.main.body.getD i (.Pass ⟨0, 0, 0, 0⟩)
/-- the built-in names that the text leaves as they are -/
structure Blt (mg : Str → Option Value) : Prop where
  int : mg "int" = none
  len : mg "len" = none
  range : mg "range" = none
  list : mg "list" = none
  tuple : mg "tuple" = none
  isinstance : mg "isinstance" = none
  bool : mg "bool" = none
  str : mg "str" = none
  type : mg "type" = none
  max : mg "max" = none
  sum : mg "sum" = none
  set : mg "set" = none
  dict : mg "dict" = none
  sorted : mg "sorted" = none
  enumerate : mg "enumerate" = none
  zip : mg "zip" = none
  all : mg "all" = none
  repr : mg "repr" = none
  min : mg "min" = none
/-- all but what stands at a is as it was -/
def But (a : Addr) (H H' : Hp) : Prop := ∀ b o, b ≠ a → H b = some o → H' b = some o
theorem But.refl (a : Addr) (H : Hp) : But a H H := fun _ _ _ h => h
theorem But.trans {a : Addr} {H H1 H2 : Hp} (x : But a H H1) (y : But a H1 H2) : But a H H2 := fun b o n h => y b o n (x b o n h)
theorem But.of {a : Addr} {H H' : Hp} (x : Same H H') : But a H H' := fun b o _ h => x b o h
theorem But.put {a : Addr} {H : Hp} {o : HO} : But a H (upd H a o) := fun b u n h => by rw [upd_ne n]; exact h
theorem same_new {H : Hp} {p : Addr} (h : H p = none) (o : HO) : Same H (upd H p o) := fun b u q => by rw [upd_ne (ne_of_none q h)]; exact q
/-- the pool of a law stands at a: the script's list, a place in it, the rest of a number, how often was drawn, the salt -/
def PoolAt (H : Hp) (a b : Addr) : Prop := ∃ (ns : List Int) (i v c salt : Int), H a = some (.lst [.ref b, .int i, .int v, .int c, .int salt]) ∧ H b = some (.lst (ns.map V.int)) ∧ ns.length ≤ 63 ∧ 0 ≤ i
theorem pool_ne {a b : Addr} {H : Hp} {ns : List Int} {xs : List V} {c : Addr} (h : H a = some (.lst (.ref c :: xs))) (h' : H b = some (.lst (ns.map V.int))) : a ≠ b := by
  refine ne_of h h' fun e => ?_
  cases ns with
  | nil => cases e
  | cons n r => cases e
def spDraw : Sp := fun vs H Q _ => ∃ (a b : Addr) (many : Int), vs = [.ref a, .int many] ∧ PoolAt H a b ∧ 0 < many ∧ many < 2 ^ 63 ∧
  ∀ (d : Int) (H' : Hp), 0 ≤ d → d < many → PoolAt H' a b → But a H H' → Q (.int d) H'
/-- what a def is to the text: where it stands, what it promises -/
structure At (P : Program) (w : World) (K : PySem.W.Frag) (mg : Str → Option Value) (base : Heap) (x : Str) (k : Nat) (ps : List Str) (sp : Sp) : Prop where
  ex : ∃ (f : Addr) (fd : FuncData), FnOk P w K mg base CX0 k f fd ps sp ∧ Binds K fd ps [] ∧ PySem.W.keepIn K (.ref f) = true ∧ mg x = some (.ref f)
def spLaw (K : PySem.W.Frag) : Sp := fun vs H Q _ => ∃ (a : Addr) (ns : List Int), vs = [.ref a] ∧ SqL K H a (ns.map V.int) ∧ ns.length ≤ 63 ∧ ∀ H', Q (.bl true) H'
theorem none_left {P : Program} {w : World} {K : PySem.W.Frag} {mg : Str → Option Value} {base : Heap} {k : Nat} {f : Addr} {fd : FuncData} {ps : List Str} {sp : Sp} (no : ∀ vs H Q E, ¬ sp vs H Q E) : FnOk P w K mg base CX0 k f fd ps sp :=
  ⟨fun vs H Q E h => absurd h (no vs H Q E), fun A outer s H args us vs Q E _ _ _ _ h => absurd h (no vs H Q E)⟩
end Cf
namespace Cf
open PySem L2
abbrev sSpread : Stmt := top 8
def spSpread : Sp := fun vs H Q _ => ∃ c : Int, vs = [.int c] ∧ ∀ t : Int, Q (.int t) H
section
variable {P : Program} {w : World} {K : PySem.W.Frag} {mg : Str → Option Value} {base : Heap}
theorem scSpread : FnScope ["cell", "mixed", "total", "k"] ["cell"] (defScope sSpread) := ⟨rfl, rfl, rfl, by decide +kernel, rfl, by decide +kernel, by decide +kernel⟩
theorem ok_spread {f : Addr} {fd : FuncData} (F : Fun K "_law_spread" "_law_spread" sSpread f fd) (B : Blt mg) : FnOk P w K mg base CX0 1 f fd ["cell"] spSpread := by
  refine F.ok scSpread (fun vs H Q E h => ?_) (fun cdv A outer s H vs Q E hr h => ?_)
  · obtain ⟨c, rfl, _⟩ := h
    rfl
  obtain ⟨c, rfl, q⟩ := h
  refine ⟨_, pss_cons (ps_set (i := 1) scSpread.nd rfl (.inl rfl) (pe_op op_mod (pe_callTy call_int1 (by rfl) B.int (by decide +kernel) (pa_cons (pv 0) pa_nil)) pe_int))
    (pss_cons (ps_set (i := 2) scSpread.nd rfl (.inl rfl) pe_int)
    (pss_cons (ps_for PassesOwn.never rfl (pi_range1 rfl B.range (pa_cons pe_int pa_nil)) (pg_name (i := 3) scSpread.nd rfl (.inl rfl))
      (pss_cons (ps_set (i := 1) scSpread.nd rfl (.inl rfl) (pe_op op_mod (pe_callTy call_int1 (by rfl) B.int (by decide +kernel)
          (pa_cons (pe_op op_add (pe_op op_add (pe_op op_mul (pv 1) pe_int) pe_int) (pv 3)) pa_nil)) pe_int))
      (pss_one (ps_set (i := 2) scSpread.nd rfl (.inl rfl) (pe_op op_add (pe_op op_mul (pv 2) pe_int) (pv 1))))))
    (pss_one (ps_ret (pv 2))))), ?_⟩
  refine ⟨_, rfl, .inl ⟨_, rfl, ?_⟩⟩
  refine ⟨_, _, rfl, rfl, (by show (0 : Int) < _; decide), ?_⟩
  refine ⟨_, rfl, (by decide), (by decide), ?_⟩
  refine for_range (n := 4) (fun i σ H' => H' = H ∧ ∃ (x m t : Int) (k : Option V), σ = [some (.int x), some (.int m), some (.int t), k]) ⟨rfl, _, _, _, _, rfl⟩ (fun i σ H' hi hp => ?_) (fun σ H' hp => ?_)
  · obtain ⟨rfl, x, m, t, k, rfl⟩ := hp
    refine ⟨_, rfl, _, _, rfl, rfl, .inr ⟨by decide, by decide⟩, _, _, rfl, rfl, _, rfl, _, _, rfl, rfl, .inl ⟨_, rfl, ?_⟩⟩
    refine ⟨_, _, rfl, rfl, (by show (0 : Int) < _; decide), ?_⟩
    refine ⟨_, rfl, _, _, rfl, rfl, .inr ⟨by decide, by decide⟩, _, rfl, _, _, rfl, rfl, ?_⟩
    exact ⟨rfl, _, _, _, _, rfl⟩
  · obtain ⟨rfl, x, m, t, k, rfl⟩ := hp
    exact ⟨_, rfl, q t⟩
end
end Cf
namespace Cf
open PySem L2
abbrev sDraw : Stmt := top 9
section
variable {P : Program} {w : World} {K : PySem.W.Frag} {mg : Str → Option Value} {base : Heap}
theorem scDraw : FnScope ["pool", "many", "cell", "mixed", "value"] ["pool", "many"] (defScope sDraw) := ⟨rfl, rfl, rfl, by decide +kernel, rfl, by decide +kernel, by decide +kernel⟩
theorem at0 {a b c d e : V} : atI [a, b, c, d, e] 0 = some a := rfl
theorem at1 {a b c d e : V} : atI [a, b, c, d, e] 1 = some b := rfl
theorem at2 {a b c d e : V} : atI [a, b, c, d, e] 2 = some c := rfl
theorem at3 {a b c d e : V} : atI [a, b, c, d, e] 3 = some d := rfl
theorem at4 {a b c d e : V} : atI [a, b, c, d, e] 4 = some e := rfl
theorem fits63 {m : Int} (h0 : 0 < m) (h : m < 2 ^ 63) (i : Int) : CDivW i m := wide_div (b := 63) h0 (by omega) (by decide) (by decide)
theorem ok_draw {f g : Addr} {fd gd : FuncData} (F : Fun K "_law_draw" "_law_draw" sDraw f fd) (B : Blt mg) (G : FnOk P w K mg base CX0 1 g gd ["cell"] spSpread) (bG : Binds K gd ["cell"] [])
    (kG : PySem.W.keepIn K (.ref g) = true) (mG : mg "_law_spread" = some (.ref g)) : FnOk P w K mg base CX0 2 f fd ["pool", "many"] spDraw := by
  refine F.ok scDraw (fun vs H Q E h => ?_) (fun cdv A outer s H vs Q E hr h => ?_)
  · obtain ⟨a, b, m, rfl, _⟩ := h
    rfl
  obtain ⟨a, b, m, rfl, ⟨ns, i, v, c, salt, ha, hb, hn, hi⟩, m0, m1, q⟩ := h
  have hab : a ≠ b := pool_ne ha hb
  refine ⟨_, Evl.pss_cut (ps_if (PW.pt (pw_and (pt_cmpR op_le (pe_ix ix_list (pv 0) pe_int (fun _ _ => rfl)) pe_int (nomark _)) (pw_and1 (pt_cmpR op_lt (pe_ix ix_list (pv 0) pe_int (fun _ _ => rfl))
        (pe_callB call_len_seq (by rfl) B.len PySem.boot_len (pa_cons (pe_ix ix_list (pv 0) pe_int (fun _ _ => rfl)) pa_nil)) (nomark _)))))
      (pss_cons (ps_set (i := 2) scDraw.nd rfl (.inl rfl) (pe_ix ix_list (pe_ix ix_list (pv 0) pe_int (fun _ _ => rfl)) (pe_ix ix_list (pv 0) pe_int (fun _ _ => rfl)) (fun _ _ => rfl)))
      (pss_cons (ps_asg (pe_op op_add (pe_ix ix_list (pv 0) pe_int (fun _ _ => rfl)) pe_int) (pg_sub (pv 0) pe_int set_list))
      (pss_cons (ps_asg (pv 2) (pg_sub (pv 0) pe_int set_list))
      (pss_one (ps_if (pt_cmpR op_lt (pv 2) pe_int (nomark _)) (pss_one (ps_asg (pe_call G hr rfl mG kG bG .nil pass0 (pa_cons (pv 2) pa_nil)) (pg_sub (pv 0) pe_int set_list))) pss_nil))))) pss_nil)
    (pss_cons (ps_asg (pe_op op_add (pe_ix ix_list (pv 0) pe_int (fun _ _ => rfl)) pe_int) (pg_sub (pv 0) pe_int set_list))
    (pss_cons (ps_if (pt_cmpR op_le (pe_ix ix_list (pv 0) pe_int (fun _ _ => rfl)) pe_int (nomark _))
      (pss_cons (ps_set (i := 3) scDraw.nd rfl (.inl rfl) (pe_op op_mod (pe_callTy call_int1 (by rfl) B.int (by decide +kernel) (pa_cons
          (pe_op op_add (pe_op op_add (pe_op op_mul (pe_ix ix_list (pv 0) pe_int (fun _ _ => rfl)) pe_int) (pe_op op_mul (pe_ix ix_list (pv 0) pe_int (fun _ _ => rfl)) pe_int)) pe_int) pa_nil)) pe_int))
      (pss_cons (ps_set (i := 3) scDraw.nd rfl (.inl rfl) (pe_op op_mod (pe_callTy call_int1 (by rfl) B.int (by decide +kernel) (pa_cons
          (pe_op op_add (pe_op op_mul (pv 3) pe_int) (pe_ix ix_list (pv 0) pe_int (fun _ _ => rfl))) pa_nil)) pe_int))
      (pss_one (ps_ret (pe_op op_mod (pe_op op_fdiv (pv 3) pe_int) (pv 1)))))) pss_nil)
    (pss_cons (ps_set (i := 4) scDraw.nd rfl (.inl rfl) (pe_op op_mod (pe_callTy call_int1 (by rfl) B.int (by decide +kernel) (pa_cons (pe_ix ix_list (pv 0) pe_int (fun _ _ => rfl)) pa_nil)) (pv 1)))
    (pss_cons (ps_asg (pe_op op_fdivW (pe_ix ix_list (pv 0) pe_int (fun _ _ => rfl)) (pv 1)) (pg_sub (pv 0) pe_int set_list))
    (pss_one (ps_ret (pv 4))))))), ?_⟩
  refine ⟨fun σ H1 => ∃ (i v : Int) (cl : Option V), σ = [some (.ref a), some (.int m), cl, none, none] ∧ H1 a = some (.lst [.ref b, .int i, .int v, .int c, .int salt]) ∧ 0 ≤ i ∧ But a H H1, ?_, ?_⟩
  · refine ⟨_, rfl, _, _, _, _, rfl, rfl, SqL.of ha, at2, _, _, rfl, rfl, _, rfl, ite2 (fun c1 => ?_) (fun c1 => iteF ⟨i, v, none, rfl, ha, hi, But.refl _ _⟩)⟩
    refine ⟨_, rfl, _, _, _, _, rfl, rfl, SqL.of ha, at1, _, rfl, _, _, _, _, rfl, rfl, SqL.of ha, at0, b, _, rfl, .inl (SqL.of hb), _, _, rfl, rfl, _, rfl, ite2 (fun c2 => ?_) (fun c2 => ⟨i, v, none, rfl, ha, hi, But.refl _ _⟩)⟩
    have c2' : i < ((ns.map V.int).length : Int) := of_decide_eq_true c2
    rw [List.length_map] at c2'
    have hin : i.toNat < ns.length := by omega
    have ei : i = ((i.toNat : Nat) : Int) := by omega
    have hat : atI (ns.map V.int) i = some (.int ns[i.toNat]) := at_of ei (by rw [List.getElem?_map, List.getElem?_eq_getElem hin] <;> rfl)
    refine ⟨_, rfl, _, _, _, _, rfl, rfl, SqL.of ha, at0, _, rfl, _, _, _, _, rfl, rfl, SqL.of ha, at1, _, _, _, _, rfl, rfl, SqL.of hb, hat, ?_⟩
    refine ⟨_, rfl, _, _, _, _, rfl, rfl, SqL.of ha, at1, _, _, rfl, rfl, _, rfl, _, _, _, 1, rfl, rfl, ha, rfl, ?_⟩
    refine ⟨_, rfl, _, rfl, _, _, _, 2, rfl, rfl, upd_same, rfl, ?_⟩
    refine ⟨_, rfl, _, _, rfl, rfl, _, rfl, ite2 (fun c3 => ?_) (fun c3 => ?_)⟩
    · refine ⟨_, rfl, _, rfl, fun t => ?_⟩
      refine ⟨_, rfl, _, _, _, 2, rfl, rfl, upd_same, rfl, ?_⟩
      exact ⟨i + 1, t, _, rfl, upd_same, by omega, (But.put.trans But.put).trans But.put⟩
    · exact ⟨i + 1, _, _, rfl, upd_same, by omega, But.put.trans But.put⟩
  · rintro σ H1 ⟨i, v, cl, rfl, ha1, hi1, e1⟩
    refine ⟨_, rfl, _, _, _, _, rfl, rfl, SqL.of ha1, at3, _, _, rfl, rfl, _, rfl, _, _, _, 3, rfl, rfl, ha1, rfl, ?_⟩
    have hb1 : H1 b = some (.lst (ns.map V.int)) := e1 b _ hab.symm hb
    have e2 : ∀ o, But a H (upd H1 a o) := fun o => e1.trans But.put
    refine ⟨_, rfl, _, _, _, _, rfl, rfl, SqL.of upd_same, at2, _, _, rfl, rfl, _, rfl, ite2 (fun c1 => ?_) (fun c1 => ?_)⟩
    · refine ⟨_, rfl, _, _, _, _, rfl, rfl, SqL.of upd_same, at4, _, _, rfl, rfl, .inr ⟨by decide, by decide⟩, _, rfl, _, _, _, _, rfl, rfl, SqL.of upd_same, at3, _, _, rfl, rfl, .inr ⟨by decide, by decide⟩, _, _, rfl, rfl, _, _, rfl, rfl, .inl ⟨_, rfl, _, _, rfl, rfl, (by show (0 : Int) < _; decide), ?_⟩⟩
      refine ⟨_, rfl, _, _, rfl, rfl, .inr ⟨by decide, by decide⟩, _, rfl, _, _, _, _, rfl, rfl, SqL.of upd_same, at3, _, _, rfl, rfl, .inl ⟨_, rfl, _, _, rfl, rfl, (by show (0 : Int) < _; decide), ?_⟩⟩
      refine ⟨_, rfl, _, _, rfl, rfl, ⟨by decide, by decide⟩, _, rfl, _, _, rfl, rfl, m0, ?_⟩
      refine q _ _ (Int.emod_nonneg _ (by omega)) (Int.emod_lt_of_pos _ m0) ⟨ns, i, v, _, salt, upd_same, by rw [upd_ne hab.symm]; exact hb1, hn, hi1⟩ (e2 _)
    · refine ⟨_, rfl, _, _, _, _, rfl, rfl, SqL.of upd_same, at2, .inl ⟨_, rfl, _, rfl, _, _, rfl, rfl, m0, ?_⟩⟩
      refine ⟨_, rfl, _, _, _, _, rfl, rfl, SqL.of upd_same, at2, _, rfl, _, _, rfl, rfl, fits63 m0 m1 _, _, rfl, _, _, _, 2, rfl, rfl, upd_same, rfl, ?_⟩
      refine ⟨_, rfl, ?_⟩
      refine q _ _ (Int.emod_nonneg _ (by omega)) (Int.emod_lt_of_pos _ m0) ⟨ns, i, _, _, salt, upd_same, ?_, hn, hi1⟩ ((e2 _).trans But.put)
      rw [upd_ne hab.symm, upd_ne hab.symm]
      exact hb1
end
end Cf
namespace Cf
open PySem L2
abbrev sPick : Stmt := top 10
abbrev sSpelled : Stmt := top 11
theorem But.seqL {K : PySem.W.Frag} {a p : Addr} {H H' : Hp} {xs : List V} (e : But a H H') (n : p ≠ a) (h : SqL K H p xs) : SqL K H' p xs := by
  rcases h with (h | ⟨o, h⟩) | h
  · exact .inl (.inl (e _ _ n h))
  · exact .inl (.inr ⟨o, e _ _ n h⟩)
  · exact .inr h
theorem But.seqT {K : PySem.W.Frag} {a p : Addr} {H H' : Hp} {xs : List V} (e : But a H H') (n : p ≠ a) (h : SqT K H p xs) : SqT K H' p xs := by
  rcases h with (h | ⟨o, h⟩) | h
  · exact .inl (.inl (e _ _ n h))
  · exact .inl (.inr ⟨o, e _ _ n h⟩)
  · exact .inr h
theorem at_mem {α : Type} {xs : List α} {i : Int} (h0 : 0 ≤ i) (h : i < (xs.length : Int)) : ∃ x, atI xs i = some x ∧ x ∈ xs := by
  have hk : i.toNat < xs.length := by omega
  have ek : ((i.toNat : Nat) : Int) = i := by omega
  have q : atI xs ((i.toNat : Nat) : Int) = some xs[i.toNat] := atI_nat (List.getElem?_eq_getElem hk)
  rw [ek] at q
  exact ⟨_, q, List.getElem_mem hk⟩
def spPick (K : PySem.W.Frag) : Sp := fun vs H Q _ => ∃ (a b p : Addr) (xs : List V), vs = [.ref a, .ref p] ∧ PoolAt H a b ∧ (SqL K H p xs ∨ SqT K H p xs) ∧ p ≠ a ∧ 0 < xs.length ∧ xs.length ≤ 1000000 ∧
  ∀ (x : V) (H' : Hp), x ∈ xs → PoolAt H' a b → But a H H' → Q x H'
/-! ### numbers as words: 1 is a, 26 is z, 27 is aa -/
def spell (n : Nat) : List Nat := if h : n = 0 then [] else spell ((n - 1) / 26) ++ [97 + (n - 1) % 26]
termination_by n
decreasing_by omega
theorem spell_0 : spell 0 = [] := by rw [spell]; rfl
theorem spell_pos {n : Nat} (h : 0 < n) : spell n = spell ((n - 1) / 26) ++ [97 + (n - 1) % 26] := by
  rw [spell, dif_neg (by omega)]
def most : Nat → Nat
  | 0 => 0
  | k + 1 => 26 * most k + 26
theorem spell_len : ∀ (k n : Nat), n ≤ most k → (spell n).length ≤ k
  | 0, n, h => by
    have e : n = 0 := by have h' : n ≤ 0 := h; omega
    subst e
    rw [spell_0]
    exact Nat.le_refl _
  | k + 1, n, h => by
    by_cases e : n = 0
    · subst e; rw [spell_0]; exact Nat.zero_le _
    · have h' : n ≤ 26 * most k + 26 := h
      have ih := spell_len k ((n - 1) / 26) (by omega)
      rw [spell_pos (by omega), List.length_append]
      exact Nat.succ_le_succ ih
theorem spell_ne {n : Nat} (h : 0 < n) : spell n ≠ [] := by rw [spell_pos h]; simp
theorem spell_az (n : Nat) : ∀ c ∈ spell n, 97 ≤ c ∧ c ≤ 122 := by
  induction n using Nat.strongRecOn with
  | _ n ih =>
    intro c hc
    by_cases e : n = 0
    · subst e; rw [spell_0] at hc; cases hc
    · rw [spell_pos (by omega)] at hc
      rcases List.mem_append.mp hc with h | h
      · exact ih _ (by omega) c h
      · rw [List.mem_singleton.mp h]; omega
theorem spell_inj : ∀ {n m : Nat}, spell n = spell m → n = m := by
  intro n
  induction n using Nat.strongRecOn with
  | _ n ih =>
    intro m h
    by_cases e : n = 0
    · subst e
      by_cases e2 : m = 0
      · exact e2.symm
      · rw [spell_0] at h; exact absurd h.symm (spell_ne (by omega))
    · by_cases e2 : m = 0
      · subst e2; rw [spell_0] at h; exact absurd h (spell_ne (by omega))
      · rw [spell_pos (by omega : 0 < n), spell_pos (by omega : 0 < m)] at h
        have h1 := List.append_inj' h rfl
        have h2 := ih _ (by omega) h1.1
        have h3 : 97 + (n - 1) % 26 = 97 + (m - 1) % 26 := List.head_eq_of_cons_eq h1.2
        omega
/-- a word: 1 to 12 letters -/
def WordOk (w : Str) : Prop := 0 < w.length ∧ w.length ≤ 12 ∧ ∀ c ∈ w.cps.toList, 97 ≤ c ∧ c ≤ 122
theorem spell_ok {n : Nat} (h0 : 0 < n) (h : n ≤ most 12) : WordOk (SX.S (spell n)) := by
  refine ⟨?_, ?_, ?_⟩
  · rw [SX.S_len]; exact List.length_pos_iff.mpr (spell_ne h0)
  · rw [SX.S_len]; exact spell_len 12 n h
  · intro c hc
    exact spell_az n c (by simpa using hc)
def spSpelled : Sp := fun vs H Q _ => ∃ n : Nat, vs = [.int (n : Int)] ∧ n ≤ most 13 ∧ Q (.str (SX.S (spell n))) H
section
variable {P : Program} {w : World} {K : PySem.W.Frag} {mg : Str → Option Value} {base : Heap}
theorem scPick : FnScope ["pool", "items"] ["pool", "items"] (defScope sPick) := ⟨rfl, rfl, rfl, by decide +kernel, rfl, by decide +kernel, by decide +kernel⟩
theorem ok_pick {f g : Addr} {fd gd : FuncData} (F : Fun K "_law_pick" "_law_pick" sPick f fd) (B : Blt mg) (G : FnOk P w K mg base CX0 2 g gd ["pool", "many"] spDraw) (bG : Binds K gd ["pool", "many"] [])
    (kG : PySem.W.keepIn K (.ref g) = true) (mG : mg "_law_draw" = some (.ref g)) : FnOk P w K mg base CX0 3 f fd ["pool", "items"] (spPick K) := by
  refine F.ok scPick (fun vs H Q E h => ?_) (fun cdv A outer s H vs Q E hr h => ?_)
  · obtain ⟨a, b, p, xs, rfl, _⟩ := h
    rfl
  obtain ⟨a, b, p, xs, rfl, hp, hx, hne, h0, h1, q⟩ := h
  refine ⟨_, pss_one (ps_ret (pe_ix ix_seq (pv 1) (pe_call G hr rfl mG kG bG .nil pass0 (pa_cons (pv 0) (pa_cons (pe_callB call_len_seq (by rfl) B.len PySem.boot_len (pa_cons (pv 1) pa_nil)) pa_nil))) (fun _ _ => rfl))), ?_⟩
  refine ⟨_, rfl, _, rfl, _, rfl, p, xs, rfl, hx, a, b, _, rfl, hp, by omega, by omega, fun d H' d0 d1 hp' e => ?_⟩
  obtain ⟨x, hxa, hm⟩ := at_mem d0 d1
  rcases hx with hx | hx
  · exact .inl ⟨p, xs, d, x, rfl, rfl, e.seqL hne hx, hxa, q x H' hm hp' e⟩
  · exact .inr (.inl ⟨p, xs, d, x, rfl, rfl, e.seqT hne hx, hxa, q x H' hm hp' e⟩)
theorem scSpelled : FnScope ["number", "word", "left"] ["number"] (defScope sSpelled) := ⟨rfl, rfl, rfl, by decide +kernel, rfl, by decide +kernel, by decide +kernel⟩
theorem alpha (j : Nat) (h : j < 26) : atI (Str.ofString "abcdefghijklmnopqrstuvwxyz").cps.toList (j : Int) = some (97 + j) := by
  have q : ∀ j : Fin 26, (Str.ofString "abcdefghijklmnopqrstuvwxyz").cps.toList[j.val]? = some (97 + j.val) := by decide +kernel
  exact atI_nat (q ⟨j, h⟩)
theorem most13 : most 13 < 26 ^ 14 := by decide
theorem ok_spelled {f : Addr} {fd : FuncData} (F : Fun K "_law_spelled" "_law_spelled" sSpelled f fd) (B : Blt mg) : FnOk P w K mg base CX0 1 f fd ["number"] spSpelled := by
  refine F.ok scSpelled (fun vs H Q E h => ?_) (fun cdv A outer s H vs Q E hr h => ?_)
  · obtain ⟨n, rfl, _⟩ := h
    rfl
  obtain ⟨n, rfl, hn, q⟩ := h
  refine ⟨_, pss_cons (ps_set (i := 1) scSpelled.nd rfl (.inl rfl) pe_str) (pss_cons (ps_set (i := 2) scSpelled.nd rfl (.inl rfl) (pv 0))
    (pss_cons (ps_while PassesOwn.never (pt_cmpR op_gt (pv 2) pe_int (nomark _))
      (pss_cons (ps_set (i := 1) scSpelled.nd rfl (.inl rfl) (pe_op op_add_str (pe_ix ix_str pe_str (pe_op op_mod (pe_callTy call_int1 (by rfl) B.int (by decide +kernel) (pa_cons (pe_op op_sub (pv 2) pe_int) pa_nil)) pe_int) (fun _ _ => rfl)) (pv 1)))
      (pss_one (ps_set (i := 2) scSpelled.nd rfl (.inl rfl) (pe_op op_fdiv (pe_op op_sub (pv 2) pe_int) pe_int)))))
    (pss_one (ps_ret (pv 1))))), ?_⟩
  refine ⟨_, rfl, ?_⟩
  refine while_by (fun σ H' => H' = H ∧ ∃ (l : Nat) (u : List Nat), σ = [some (.int (n : Int)), some (.str (SX.S u)), some (.int (l : Int))] ∧ spell l ++ u = spell n)
    (fun σ _ => match σ with | [_, _, some (.int l)] => l.toNat | _ => 0) ⟨rfl, n, [], rfl, by simp⟩ (fun σ H' hp => ?_) (fun σ H' Q1 Q2 hm hc => ?_)
  · obtain ⟨rfl, l, u, rfl, hu⟩ := hp
    have hlen : (spell l).length + u.length ≤ 13 := by
      have h1 := spell_len 13 n hn
      rw [← hu, List.length_append] at h1
      exact h1
    refine ⟨_, rfl, _, _, rfl, rfl, _, rfl, ite2 (fun c => ?_) (fun c => ?_)⟩
    · have hl : 0 < l := by have c' : (0 : Int) < (l : Int) := of_decide_eq_true c; omega
      have el : (l : Int) - 1 = ((l - 1 : Nat) : Int) := by omega
      refine ⟨_, rfl, _, _, rfl, rfl, .inl ⟨_, rfl, _, _, rfl, rfl, (by show (0 : Int) < _; decide), ?_⟩⟩
      have em : ((l : Int) - 1) % 26 = (((l - 1) % 26 : Nat) : Int) := by omega
      refine ⟨_, _, 97 + (l - 1) % 26, rfl, rfl, (by decide +kernel), (by rw [em]; exact alpha _ (Nat.mod_lt _ (by decide))), _, rfl, _, _, rfl, rfl, ?_, ?_⟩
      · show 1 + (SX.S u).length ≤ sizeLine
        rw [SX.S_len]
        exact Nat.le_trans (by omega : 1 + u.length ≤ 14) (by decide)
      refine ⟨_, rfl, _, _, rfl, rfl, _, _, rfl, rfl, ⟨by decide, by decide⟩, ?_⟩
      have ed : ((l : Int) - 1) / 26 = (((l - 1) / 26 : Nat) : Int) := by omega
      refine ⟨⟨rfl, (l - 1) / 26, (97 + (l - 1) % 26) :: u, ?_, ?_⟩, ?_⟩
      · show [some (V.int (n : Int)), some (V.str (SX.S [97 + (l - 1) % 26] ++ SX.S u)), some (V.int (((l : Int) - 1) / 26))] = _
        rw [SX.S_cat, ed]
        rfl
      · rw [spell_pos hl, List.append_assoc] at hu
        exact hu
      · show (((l : Int) - 1) / 26).toNat < ((l : Int)).toNat
        omega
    · have hl : l = 0 := by have c' : ¬ (0 : Int) < (l : Int) := of_decide_eq_false (Bool.eq_false_iff.mpr c); omega
      subst hl
      rw [spell_0, List.nil_append] at hu
      refine ⟨_, rfl, ?_⟩
      rw [hu]
      exact q
  · obtain ⟨x, e1, i, j, e2, e3, k, e4, h⟩ := hc
    exact ⟨x, e1, i, j, e2, e3, k, e4, hm _ _ h⟩
end
end Cf
namespace Cf
open PySem L2
abbrev sWords : Stmt := top 12
abbrev sCons : Stmt := top 13
abbrev nV (n : Nat) : V := .int (n : Int)
def from_ (x : Nat) (ns : List Nat) : Nat := (ns.filter fun y => decide (x ≤ y)).length
theorem from_le (x : Nat) (ns : List Nat) : from_ x ns ≤ ns.length := List.length_filter_le _ _
theorem from_mono (x : Nat) (ns : List Nat) : from_ (x + 1) ns ≤ from_ x ns := by
  induction ns with
  | nil => exact Nat.le_refl _
  | cons y r ih =>
    unfold from_ at ih ⊢
    rw [List.filter_cons, List.filter_cons]
    by_cases h : x + 1 ≤ y
    · rw [if_pos (decide_eq_true h), if_pos (decide_eq_true (by omega : x ≤ y))]
      exact Nat.succ_le_succ ih
    · rw [if_neg (by simpa using h)]
      split
      · exact Nat.le_succ_of_le ih
      · exact ih
theorem from_step {x : Nat} {ns : List Nat} (h : x ∈ ns) : from_ (x + 1) ns + 1 ≤ from_ x ns := by
  induction ns with
  | nil => cases h
  | cons y r ih =>
    by_cases e : x = y
    · subst e
      have m := from_mono x r
      unfold from_ at m ⊢
      rw [List.filter_cons, List.filter_cons, if_neg (by simp), if_pos (by simp)]
      exact Nat.succ_le_succ m
    · have ih' := ih ((List.mem_cons.mp h).resolve_left e)
      unfold from_ at ih' ⊢
      rw [List.filter_cons, List.filter_cons]
      by_cases c : x + 1 ≤ y
      · rw [if_pos (decide_eq_true c), if_pos (decide_eq_true (by omega : x ≤ y))]
        exact Nat.succ_le_succ ih'
      · rw [if_neg (by simpa using c), if_neg (by simp; omega)]
        exact ih'
theorem inV_nat (x : Nat) (ns : List Nat) : inV (nV x) (ns.map nV) = decide (x ∈ ns) := by
  unfold inV
  induction ns with
  | nil => rfl
  | cons y r ih =>
    rw [List.map_cons, List.any_cons, ih]
    show (((y : Int) == (x : Int)) || decide (x ∈ r)) = decide (x ∈ y :: r)
    by_cases e : x = y
    · subst e; simp
    · have e' : ¬ (y : Int) = (x : Int) := by omega
      simp [e, e']
theorem flat_nat (ns : List Nat) : (ns.map nV).all flatV = true := by simp [flatV]
def spWords : Sp := fun vs H Q _ => ∃ (a b : Addr) (many : Nat), vs = [.ref a, nV many] ∧ PoolAt H a b ∧ many ≤ 100 ∧
  ∀ (ws : List Str) (p : Addr) (H' : Hp), ws.length = many → ws.Nodup → (∀ w ∈ ws, WordOk w) → H p = none → H' p = some (.lst (ws.map V.str)) → PoolAt H' a b → But a H H' → Q (.ref p) H'
section
variable {P : Program} {w : World} {K : PySem.W.Frag} {mg : Str → Option Value} {base : Heap}
theorem scWords : FnScope ["pool", "many", "taken", "k", "number"] ["pool", "many"] (defScope sWords) := ⟨rfl, rfl, rfl, by decide +kernel, rfl, by decide +kernel, by decide +kernel⟩
/-- the greatest number that is drawn -/
theorem pick_le {d : Int} (h0 : 0 ≤ d) (h1 : d < 5) : ∃ m : Int, atI [V.int 26, .int 702, .int 18278, .int 475254, .int 95428956661682176] d = some (.int m) ∧ 0 < m ∧ m ≤ 95428956661682176 := by
  have e : d = 0 ∨ d = 1 ∨ d = 2 ∨ d = 3 ∨ d = 4 := by omega
  rcases e with rfl | rfl | rfl | rfl | rfl
  · exact ⟨_, rfl, by decide, by decide⟩
  · exact ⟨_, rfl, by decide, by decide⟩
  · exact ⟨_, rfl, by decide, by decide⟩
  · exact ⟨_, rfl, by decide, by decide⟩
  · exact ⟨_, rfl, by decide, by decide⟩
theorem pool_upd {H : Hp} {a b p : Addr} {o : HO} (h : PoolAt H a b) (n : p ≠ a) (m : p ≠ b) : PoolAt (upd H p o) a b := by
  obtain ⟨ns, i, v, c, s, h1, h2, h3, h4⟩ := h
  exact ⟨ns, i, v, c, s, by rw [upd_ne n.symm]; exact h1, by rw [upd_ne m.symm]; exact h2, h3, h4⟩
theorem pool_same {H H' : Hp} {a b : Addr} (h : PoolAt H a b) (e : Same H H') : PoolAt H' a b := by
  obtain ⟨ns, i, v, c, s, h1, h2, h3, h4⟩ := h
  exact ⟨ns, i, v, c, s, e _ _ h1, e _ _ h2, h3, h4⟩
theorem pool_new {H : Hp} {a b p : Addr} {o : HO} (h : PoolAt H a b) (n : H p = none) : PoolAt (upd H p o) a b := pool_same h (same_new n o)
theorem pool_a {H : Hp} {a b p : Addr} (h : PoolAt H a b) (n : H p = none) : p ≠ a := by
  obtain ⟨ns, i, v, c, s, h1, h2, h3, h4⟩ := h
  exact (ne_of_none h1 n).symm
theorem pool_b {H : Hp} {a b p : Addr} (h : PoolAt H a b) (n : H p = none) : p ≠ b := by
  obtain ⟨ns, i, v, c, s, h1, h2, h3, h4⟩ := h
  exact (ne_of_none h2 n).symm
theorem ok_words {f g e : Addr} {fd gd ed : FuncData} (F : Fun K "_law_words" "_law_words" sWords f fd) (B : Blt mg) (G : FnOk P w K mg base CX0 2 g gd ["pool", "many"] spDraw) (bG : Binds K gd ["pool", "many"] [])
    (kG : PySem.W.keepIn K (.ref g) = true) (mG : mg "_law_draw" = some (.ref g)) (S : FnOk P w K mg base CX0 1 e ed ["number"] spSpelled) (bS : Binds K ed ["number"] []) (kS : PySem.W.keepIn K (.ref e) = true) (mS : mg "_law_spelled" = some (.ref e)) :
    FnOk P w K mg base CX0 3 f fd ["pool", "many"] spWords := by
  refine F.ok scWords (fun vs H Q E h => ?_) (fun cdv A outer s H vs Q E hr h => ?_)
  · obtain ⟨a, b, m, rfl, _⟩ := h
    rfl
  obtain ⟨a, b, m, rfl, hp, hm, q⟩ := h
  have nd := scWords.nd
  refine ⟨_, pss_cons (ps_set (i := 2) nd rfl (.inl rfl) (pe_lst pa_nil))
    (pss_cons (ps_for PassesOwn.never rfl (pi_range1 rfl B.range (pa_cons (pv 1) pa_nil)) (pg_name (i := 3) nd rfl (.inl rfl))
      (pss_cons (ps_set (i := 4) nd rfl (.inl rfl) (pe_op op_add pe_int (pe_call G hr rfl mG kG bG .nil pass0 (pa_cons (pv 0) (pa_cons
          (pe_ix ix_tup (pe_tup (pa_cons pe_int (pa_cons pe_int (pa_cons pe_int (pa_cons pe_int (pa_cons pe_int pa_nil)))))) (pe_call G hr rfl mG kG bG .nil pass0 (pa_cons (pv 0) (pa_cons pe_int pa_nil))) (fun _ _ => rfl)) pa_nil)))))
      (pss_cons (ps_while PassesOwn.never (pt_cmpR op_in_seq (pv 4) (pv 2) (by rfl)) (pss_one (ps_set (i := 4) nd rfl (.inl rfl) (pe_op op_add (pv 4) pe_int))))
      (pss_one (ps_expr (pe_bm PySem.F.plainAttrs_list PySem.F.slot_list_append PySem.F.type_list_append mt_append (pv 2) (pa_cons (pv 4) pa_nil)))))))
    (pss_one (ps_ret (pe_lc (own := [("number", 4)]) (g := gName 4) (tt := tYes) rfl nd (pi_list (pv 2)) (blkOk_by (N := ["pool", "many", "taken", "k", "number"]) (sc := defScope sWords) (by decide +kernel))
      (fun _ _ _ _ _ => pg_name (i := 4) nd rfl (.inl rfl)) (fun _ _ _ _ _ => pts_nil) (fun _ _ _ _ _ => pe_call S (hr.mono (by decide)) rfl mS kS bS .nil pass0 (pa_cons (pv 4) pa_nil)))))), ?_⟩
  refine ⟨(by show 0 ≤ sizeLine; decide), fun p np => ?_⟩
  have npa : p ≠ a := pool_a hp np
  have npb : p ≠ b := pool_b hp np
  refine ⟨_, rfl, _, rfl, by omega, by omega, ?_⟩
  refine for_range (n := m) (fun i σ H1 => ∃ (ns : List Nat) (kv nv : Option V), σ = [some (.ref a), some (nV m), some (.ref p), kv, nv] ∧ H1 p = some (.lst (ns.map nV)) ∧ ns.length = i ∧ ns.Nodup ∧ (∀ n ∈ ns, 0 < n ∧ n ≤ 95428956661682176 + i) ∧ PoolAt H1 a b ∧ But a H H1)
    ⟨[], none, none, rfl, upd_same, rfl, List.nodup_nil, fun _ h => (by cases h), pool_new hp np, But.of (same_new np _)⟩ (fun i σ H1 hi h => ?_) (fun σ H1 h => ?_)
  · obtain ⟨ns, kv, nv, rfl, h1, hl, hnd, hns, hp1, e1⟩ := h
    refine ⟨_, rfl, (by show 5 ≤ sizeLine; decide), fun t nt => ?_⟩
    refine ⟨_, rfl, a, b, 5, rfl, pool_new hp1 nt, by decide, by decide, fun d H2 d0 d1 hp2 e2 => ?_⟩
    have tna : t ≠ a := pool_a hp1 nt
    obtain ⟨mx, hat, mx0, mx1⟩ := pick_le d0 d1
    refine ⟨t, _, d, _, rfl, rfl, SqT.of (e2 _ _ tna upd_same), hat, ?_⟩
    refine ⟨a, b, mx, rfl, hp2, mx0, by omega, fun x H3 x0 x1 hp3 e3 => ?_⟩
    refine ⟨_, _, rfl, rfl, ?_⟩
    have e13 : But a H1 H3 := ((But.of (same_new nt _)).trans e2).trans e3
    have h3 : H3 p = some (.lst (ns.map nV)) := e13 _ _ npa h1
    have ex : (1 : Int) + x = ((x.toNat + 1 : Nat) : Int) := by omega
    refine while_by (fun σ H' => H' = H3 ∧ ∃ y : Nat, σ = [some (.ref a), some (nV m), some (.ref p), some (.int (0 + (i : Int))), some (nV y)] ∧ 0 < y ∧ y + from_ y ns ≤ 95428956661682176 + ns.length)
      (fun σ _ => match σ with | [_, _, _, _, some (.int l)] => from_ l.toNat ns | _ => 0) ⟨rfl, x.toNat + 1, ?_, by omega, ?_⟩ (fun σ H' hw => ?_) (fun σ H' Q1 Q2 hmn hc => ?_)
    · show [some (V.ref a), some (nV m), some (V.ref p), some (V.int (0 + (i : Int))), some (V.int (1 + x))] = _
      rw [ex]
    · have := from_le (x.toNat + 1) ns
      omega
    · obtain ⟨rfl, y, rfl, y0, y1⟩ := hw
      refine ⟨_, rfl, _, rfl, p, _, rfl, .inl (SqL.of h3), rfl, flat_nat ns, _, rfl, ?_⟩
      show if inV (nV y) (ns.map nV) = true then _ else _
      rw [inV_nat]
      refine ite2 (fun c => ?_) (fun c => ?_)
      · have hy : y ∈ ns := of_decide_eq_true c
        have st := from_step hy
        refine ⟨_, rfl, _, _, rfl, rfl, ⟨rfl, y + 1, rfl, by omega, by omega⟩, ?_⟩
        show from_ ((y : Int) + 1).toNat ns < from_ ((y : Int)).toNat ns
        have e1 : ((y : Int) + 1).toNat = y + 1 := by omega
        have e2 : ((y : Int)).toNat = y := by omega
        rw [e1, e2]
        omega
      · have hy : y ∉ ns := fun h => c (decide_eq_true h)
        refine ⟨_, rfl, .inl ⟨rfl, _, SqL.of h3⟩, _, rfl, p, _, _, rfl, rfl, h3, ?_, ?_⟩
        · rw [List.length_map]; exact small1000 (by omega)
        refine ⟨ns ++ [y], _, _, rfl, ?_, ?_, ?_, ?_, pool_upd hp3 npa npb, ?_⟩
        · rw [upd_same, List.map_append]
          all_goals rfl
        · rw [List.length_append]
          exact congrArg (· + 1) hl
        · exact List.nodup_append.mpr ⟨hnd, (by simp), fun u hu v hv => by rw [List.mem_singleton.mp hv]; rintro rfl; exact hy hu⟩
        · intro n hn
          rcases List.mem_append.mp hn with h | h
          · have := hns n h; omega
          · rw [List.mem_singleton.mp h]; omega
        · exact fun c o hc hco => by rw [upd_ne (ne_of_none hco np)]; exact (e1.trans e13) _ _ hc hco
    · obtain ⟨x1, e1', x2, e2', p', xs', r1, r2, r3, r4, k, r5, h⟩ := hc
      exact ⟨x1, e1', x2, e2', p', xs', r1, r2, r3, r4, k, r5, hmn _ _ h⟩
  · obtain ⟨ns, kv, nv, rfl, h1, hl, hnd, hns, hp1, e1⟩ := h
    refine ⟨_, rfl, p, rfl, ⟨_, SqL.of h1⟩, fun D nD => ?_⟩
    refine lc_list (xs := ns.map nV) (fun i H' => H' D = some (.lst ((ns.take i).map fun n => V.str (SX.S (spell n)))) ∧ Same H1 H') ⟨upd_same, same_new nD _⟩ (fun i H' _ hh => SqL.of (hh.2 _ _ h1)) (fun i x H' hx hh => ?_) (fun H' hh => ?_)
    · rw [List.getElem?_map] at hx
      obtain ⟨n, hn, rfl⟩ := Option.map_eq_some_iff.mp hx
      have hb := hns n (List.mem_of_getElem? hn)
      refine ⟨rfl, ?_⟩
      refine ⟨_, rfl, n, rfl, ?_, _, hh.1, ?_, ?_, ?_⟩
      · exact Nat.le_trans hb.2 (Nat.le_trans (by omega : _ ≤ 95428956661682176 + 100) (by decide))
      · rw [List.length_map, List.length_take]
        exact small1000 (by omega)
      · rw [upd_same, List.take_add_one, List.map_append, hn]
        all_goals rfl
      · exact fun c o hc => by rw [upd_ne (ne_of_none hc nD)]; exact hh.2 _ _ hc
    · obtain ⟨hD, sm⟩ := hh
      rw [List.length_map, List.take_length] at hD
      refine q (ns.map fun n => SX.S (spell n)) D H' (by rw [List.length_map, hl]) ?_ ?_ ?_ (by rw [hD, List.map_map]; rfl) (pool_same hp1 sm) (e1.trans (But.of sm))
      · exact List.Pairwise.map _ (fun x y (h : x ≠ y) e => h (spell_inj (SX.S_inj e))) hnd
      · intro w hw
        obtain ⟨n, hn, rfl⟩ := List.mem_map.mp hw
        have hb := hns n hn
        exact spell_ok hb.1 (Nat.le_trans hb.2 (Nat.le_trans (by omega : _ ≤ 95428956661682176 + 100) (by decide)))
      · cases z : H D with
        | none => rfl
        | some o =>
          by_cases zz : D = a
          · exact absurd zz (pool_a hp1 nD)
          · rw [e1 D o zz z] at nD; cases nD
end
end Cf
namespace Cf
open PySem L2
/-- a constructor's pair stands at q -/
def PairAt (H : Hp) (q : Addr) (c : Str × Nat) : Prop := H q = some (.tup [.str c.1, nV c.2])
/-- constructors stand at p -/
def ConsAt (H : Hp) (p : Addr) (cs : List (Str × Nat)) : Prop := ∃ ps : List Addr, H p = some (.tup (ps.map V.ref)) ∧ Paired (PairAt H) ps cs
structure ConsOk (cs : List (Str × Nat)) : Prop where
  len : cs.length ≤ 5
  nd : (cs.map (·.1)).Nodup
  word : ∀ c ∈ cs, WordOk c.1
  ar : ∀ c ∈ cs, c.2 ≤ 2
  leaf : ∃ c ∈ cs, c.2 = 0
theorem pairs_keep {H H' : Hp} {ps : List Addr} {cs : List (Str × Nat)} (h : Paired (PairAt H) ps cs) (e : ∀ q xs, H q = some (.tup xs) → H' q = some (.tup xs)) : Paired (PairAt H') ps cs := Paired.mapP h fun _ _ q => e _ _ q
/-- tuples stand on -/
def KeepT (H H' : Hp) : Prop := ∀ q xs, H q = some (.tup xs) → H' q = some (.tup xs)
theorem KeepT.trans {H H1 H2 : Hp} (x : KeepT H H1) (y : KeepT H1 H2) : KeepT H H2 := fun q xs h => y q xs (x q xs h)
theorem KeepT.of {H H' : Hp} (x : Same H H') : KeepT H H' := fun q _ h => x q _ h
theorem KeepT.but {H H' : Hp} {a b : Addr} (x : But a H H') (h : PoolAt H a b) : KeepT H H' := fun q xs hq => by
  obtain ⟨ns, i, v, c, s, h1, _⟩ := h
  exact x q _ (ne_of hq h1 (by intro z; cases z)) hq
theorem ConsAt.keep {H H' : Hp} {p : Addr} {cs : List (Str × Nat)} (h : ConsAt H p cs) (e : KeepT H H') : ConsAt H' p cs := by
  obtain ⟨ps, h1, h2⟩ := h
  exact ⟨ps, e _ _ h1, pairs_keep h2 e⟩
def table : List (List Nat) := [[0, 1], [0, 1, 2], [0, 0, 1], [0, 2], [1, 0, 0, 2], [0, 2, 0], [1, 1, 0], [2, 0, 0], [0, 1, 0, 1, 2], [0, 0]]
theorem table_ok : ∀ ar ∈ table, ar.length ≤ 5 ∧ (∀ n ∈ ar, n ≤ 2) ∧ 0 ∈ ar := by decide
def spCons : Sp := fun vs H Q _ => ∃ (a b : Addr), vs = [.ref a] ∧ PoolAt H a b ∧ ∀ (cs : List (Str × Nat)) (p : Addr) (H' : Hp), ConsOk cs → H p = none → ConsAt H' p cs → PoolAt H' a b → But a H H' → Q (.ref p) H'
section
variable {P : Program} {w : World} {K : PySem.W.Frag} {mg : Str → Option Value} {base : Heap}
theorem scCons : FnScope ["pool", "arities", "words", "k"] ["pool"] (defScope sCons) := ⟨rfl, rfl, rfl, by decide +kernel, rfl, by decide +kernel, by decide +kernel⟩
theorem But.none {a p : Addr} {H H' : Hp} (e : But a H H') (h : H' p = Option.none) (ha : H' a ≠ Option.none) : H p = Option.none := by
  cases z : H p with
  | none => rfl
  | some o =>
    by_cases zz : p = a
    · exact absurd (zz ▸ h) ha
    · rw [e p o zz z] at h; cases h
theorem pool_some {H : Hp} {a b : Addr} (h : PoolAt H a b) : H a ≠ Option.none := by
  obtain ⟨ns, i, v, c, s, h1, _⟩ := h
  rw [h1]; intro z; cases z
theorem ok_cons {f g e : Addr} {fd gd ed : FuncData} (F : Fun K "_law_constructors" "_law_constructors" sCons f fd) (B : Blt mg) (G : FnOk P w K mg base CX0 2 g gd ["pool", "many"] spDraw) (bG : Binds K gd ["pool", "many"] [])
    (kG : PySem.W.keepIn K (.ref g) = true) (mG : mg "_law_draw" = some (.ref g)) (S : FnOk P w K mg base CX0 3 e ed ["pool", "many"] spWords) (bS : Binds K ed ["pool", "many"] []) (kS : PySem.W.keepIn K (.ref e) = true) (mS : mg "_law_words" = some (.ref e)) :
    FnOk P w K mg base CX0 4 f fd ["pool"] spCons := by
  refine F.ok scCons (fun vs H Q E h => ?_) (fun cdv A outer s H vs Q E hr h => ?_)
  · obtain ⟨a, b, rfl, _⟩ := h
    rfl
  obtain ⟨a, b, rfl, hp, q⟩ := h
  have nd := scCons.nd
  have two : ∀ {X : Cx} {i j : Int} {k1 k2 p1 p2 p3 : _} {kk : Nat}, PE X (.Tuple [.Constant (.int i) k1 p1, .Constant (.int j) k2 p2] kk p3) (tTup (tCons (tC (.int i)) (tCons (tC (.int j)) tNil))) := pe_tup (pa_cons pe_int (pa_cons pe_int pa_nil))
  have three : ∀ {X : Cx} {i j l : Int} {k1 k2 k3 p1 p2 p3 p4 : _} {kk : Nat}, PE X (.Tuple [.Constant (.int i) k1 p1, .Constant (.int j) k2 p2, .Constant (.int l) k3 p3] kk p4) (tTup (tCons (tC (.int i)) (tCons (tC (.int j)) (tCons (tC (.int l)) tNil)))) := pe_tup (pa_cons pe_int (pa_cons pe_int (pa_cons pe_int pa_nil)))
  refine ⟨_, pss_cons (ps_set (i := 1) nd rfl (.inr rfl) (pe_ix ix_tup (pe_tup (pa_cons two (pa_cons three (pa_cons three (pa_cons two (pa_cons (pe_tup (pa_cons pe_int (pa_cons pe_int (pa_cons pe_int (pa_cons pe_int pa_nil)))))
      (pa_cons three (pa_cons three (pa_cons three (pa_cons (pe_tup (pa_cons pe_int (pa_cons pe_int (pa_cons pe_int (pa_cons pe_int (pa_cons pe_int pa_nil)))))) (pa_cons two pa_nil)))))))))))
      (pe_call G (hr.mono (by decide)) rfl mG kG bG .nil pass0 (pa_cons (pv 0) (pa_cons pe_int pa_nil))) (fun _ _ => rfl)))
    (pss_cons (ps_set (i := 2) nd rfl (.inr rfl) (pe_call S hr rfl mS kS bS .nil pass0 (pa_cons (pv 0) (pa_cons (pe_callB call_len_seq (by rfl) B.len PySem.boot_len (pa_cons (pv 1) pa_nil)) pa_nil))))
    (pss_one (ps_ret (pe_callTy call_tuple_of (by rfl) B.tuple (by decide +kernel) (pa_cons
      (pe_lc (own := [("k", 3)]) (g := gName 3) (tt := tYes) rfl nd (pi_range1 rfl B.range (pa_cons (pe_callB call_len_seq (by rfl) B.len PySem.boot_len (pa_cons (pv 1) pa_nil)) pa_nil))
        (blkOk_by (N := ["pool", "arities", "words", "k"]) (sc := defScope sCons) (by decide +kernel)) (fun _ _ _ _ _ => pg_name (i := 3) nd rfl (.inl rfl)) (fun _ _ _ _ _ => pts_nil)
        (fun _ _ _ _ _ => pe_tup (pa_cons (pe_ix (r := rIxL K) ix_list (pv 2) (pv 3) (fun _ _ => rfl)) (pa_cons (pe_ix (r := rIxT K) ix_tup (pv 1) (pv 3) (fun _ _ => rfl)) pa_nil)))) pa_nil))))), ?_⟩
  refine ⟨(by show 2 ≤ sizeLine; decide), fun t1 n1 => ?_⟩
  refine ⟨(by show 3 ≤ sizeLine; decide), fun t2 n2 => ?_⟩
  refine ⟨(by show 3 ≤ sizeLine; decide), fun t3 n3 => ?_⟩
  refine ⟨(by show 2 ≤ sizeLine; decide), fun t4 n4 => ?_⟩
  refine ⟨(by show 4 ≤ sizeLine; decide), fun t5 n5 => ?_⟩
  refine ⟨(by show 3 ≤ sizeLine; decide), fun t6 n6 => ?_⟩
  refine ⟨(by show 3 ≤ sizeLine; decide), fun t7 n7 => ?_⟩
  refine ⟨(by show 3 ≤ sizeLine; decide), fun t8 n8 => ?_⟩
  refine ⟨(by show 5 ≤ sizeLine; decide), fun t9 n9 => ?_⟩
  refine ⟨(by show 2 ≤ sizeLine; decide), fun t10 n10 => ?_⟩
  refine ⟨(by show 10 ≤ sizeLine; decide), fun T nT => ?_⟩
  have r10 := same_new nT (HO.tup [.ref t1, .ref t2, .ref t3, .ref t4, .ref t5, .ref t6, .ref t7, .ref t8, .ref t9, .ref t10])
  have r9 := (same_new n10 (HO.tup [.int 0, .int 0])).trans r10
  have r8 := (same_new n9 (HO.tup [.int 0, .int 1, .int 0, .int 1, .int 2])).trans r9
  have r7 := (same_new n8 (HO.tup [.int 2, .int 0, .int 0])).trans r8
  have r6 := (same_new n7 (HO.tup [.int 1, .int 1, .int 0])).trans r7
  have r5 := (same_new n6 (HO.tup [.int 0, .int 2, .int 0])).trans r6
  have r4 := (same_new n5 (HO.tup [.int 1, .int 0, .int 0, .int 2])).trans r5
  have r3 := (same_new n4 (HO.tup [.int 0, .int 2])).trans r4
  have r2 := (same_new n3 (HO.tup [.int 0, .int 0, .int 1])).trans r3
  have r1 := (same_new n2 (HO.tup [.int 0, .int 1, .int 2])).trans r2
  have r0 := (same_new n1 (HO.tup [.int 0, .int 1])).trans r1
  have f1 := r1 _ _ upd_same
  have f2 := r2 _ _ upd_same
  have f3 := r3 _ _ upd_same
  have f4 := r4 _ _ upd_same
  have f5 := r5 _ _ upd_same
  have f6 := r6 _ _ upd_same
  have f7 := r7 _ _ upd_same
  have f8 := r8 _ _ upd_same
  have f9 := r9 _ _ upd_same
  have f10 := r10 _ _ upd_same
  have fT : (upd (upd (upd (upd (upd (upd (upd (upd (upd (upd (upd H t1 (.tup [.int 0, .int 1])) t2 (.tup [.int 0, .int 1, .int 2])) t3 (.tup [.int 0, .int 0, .int 1])) t4 (.tup [.int 0, .int 2])) t5 (.tup [.int 1, .int 0, .int 0, .int 2])) t6 (.tup [.int 0, .int 2, .int 0])) t7 (.tup [.int 1, .int 1, .int 0])) t8 (.tup [.int 2, .int 0, .int 0])) t9 (.tup [.int 0, .int 1, .int 0, .int 1, .int 2])) t10 (.tup [.int 0, .int 0])) T (.tup [.ref t1, .ref t2, .ref t3, .ref t4, .ref t5, .ref t6, .ref t7, .ref t8, .ref t9, .ref t10])) T = some (HO.tup [.ref t1, .ref t2, .ref t3, .ref t4, .ref t5, .ref t6, .ref t7, .ref t8, .ref t9, .ref t10]) := upd_same
  clear r1 r2 r3 r4 r5 r6 r7 r8 r9 r10
  have hT : ∃ HT, HT = upd (upd (upd (upd (upd (upd (upd (upd (upd (upd (upd H t1 (.tup [.int 0, .int 1])) t2 (.tup [.int 0, .int 1, .int 2])) t3 (.tup [.int 0, .int 0, .int 1])) t4 (.tup [.int 0, .int 2])) t5 (.tup [.int 1, .int 0, .int 0, .int 2])) t6 (.tup [.int 0, .int 2, .int 0])) t7 (.tup [.int 1, .int 1, .int 0])) t8 (.tup [.int 2, .int 0, .int 0])) t9 (.tup [.int 0, .int 1, .int 0, .int 1, .int 2])) t10 (.tup [.int 0, .int 0])) T (.tup [.ref t1, .ref t2, .ref t3, .ref t4, .ref t5, .ref t6, .ref t7, .ref t8, .ref t9, .ref t10]) := ⟨_, rfl⟩
  obtain ⟨HT, eT⟩ := hT
  rw [← eT] at r0 f1 f2 f3 f4 f5 f6 f7 f8 f9 f10 fT
  show tCall spDraw [] E0 _ _ (upd _ _ _) _
  rw [← eT]
  clear eT
  refine ⟨_, rfl, a, b, 10, rfl, pool_same hp r0, by decide, by decide, fun d H1 d0 d1 hp1 e1 => ?_⟩
  have kt := KeepT.but e1 (pool_same hp r0)
  have ch : ∃ (t : Addr) (ar : List Nat), atI [V.ref t1, .ref t2, .ref t3, .ref t4, .ref t5, .ref t6, .ref t7, .ref t8, .ref t9, .ref t10] d = some (.ref t) ∧ H1 t = some (.tup (ar.map nV)) ∧ ar ∈ table := by
    have e : d = 0 ∨ d = 1 ∨ d = 2 ∨ d = 3 ∨ d = 4 ∨ d = 5 ∨ d = 6 ∨ d = 7 ∨ d = 8 ∨ d = 9 := by omega
    rcases e with rfl | rfl | rfl | rfl | rfl | rfl | rfl | rfl | rfl | rfl
    · exact ⟨t1, [0, 1], rfl, kt _ _ f1, by decide⟩
    · exact ⟨t2, [0, 1, 2], rfl, kt _ _ f2, by decide⟩
    · exact ⟨t3, [0, 0, 1], rfl, kt _ _ f3, by decide⟩
    · exact ⟨t4, [0, 2], rfl, kt _ _ f4, by decide⟩
    · exact ⟨t5, [1, 0, 0, 2], rfl, kt _ _ f5, by decide⟩
    · exact ⟨t6, [0, 2, 0], rfl, kt _ _ f6, by decide⟩
    · exact ⟨t7, [1, 1, 0], rfl, kt _ _ f7, by decide⟩
    · exact ⟨t8, [2, 0, 0], rfl, kt _ _ f8, by decide⟩
    · exact ⟨t9, [0, 1, 0, 1, 2], rfl, kt _ _ f9, by decide⟩
    · exact ⟨t10, [0, 0], rfl, kt _ _ f10, by decide⟩
  obtain ⟨t, ar, hat, ht, har⟩ := ch
  obtain ⟨ha5, ha2, ha0⟩ := table_ok ar har
  refine ⟨T, _, d, _, rfl, rfl, SqT.of (kt _ _ fT), hat, ?_⟩
  refine ⟨_, rfl, _, rfl, t, _, rfl, .inr (SqT.of ht), a, b, (ar.map nV).length, rfl, hp1, by rw [List.length_map]; omega, fun ws p H2 hwl hwn hwo hpn hw hp2 e2 => ?_⟩
  have kt2 := KeepT.but e2 hp1
  refine ⟨_, rfl, t, _, rfl, .inr (SqT.of (kt2 _ _ ht)), _, rfl, by omega, by rw [List.length_map]; omega, fun D nD => ?_⟩
  have hwl' : ws.length = ar.length := by rw [hwl, List.length_map]
  refine lc_range (n := (ar.map nV).length) (fun i H' => ∃ ps : List Addr, H' D = some (.lst (ps.map V.ref)) ∧ ps.length = i ∧ Paired (PairAt H') ps ((ws.zip ar).take i) ∧ Same H2 H')
    ⟨[], upd_same, rfl, .nil, same_new nD _⟩ (fun i H' hi hh => ?_) (fun H' hh => ?_)
  · obtain ⟨ps, h1, h2, h3, h4⟩ := hh
    rw [List.length_map] at hi
    have hwi : ws[i]? = some ws[i] := List.getElem?_eq_getElem (by omega)
    have hai : ar[i]? = some ar[i] := List.getElem?_eq_getElem hi
    refine ⟨rfl, ?_⟩
    refine ⟨_, rfl, _, rfl, p, _, _, .str ws[i], rfl, rfl, SqL.of (h4 _ _ hw), ?_, ?_⟩
    · rw [Int.zero_add]
      exact atI_nat (by rw [List.getElem?_map, hwi]; rfl)
    refine ⟨_, rfl, _, rfl, t, _, _, nV ar[i], rfl, rfl, SqT.of (h4 _ _ (kt2 _ _ ht)), ?_, ?_⟩
    · rw [Int.zero_add]
      exact atI_nat (by rw [List.getElem?_map, hai]; rfl)
    refine ⟨(by show 2 ≤ sizeLine; decide), fun r nr => ?_⟩
    have hDr : D ≠ r := ne_of_none h1 nr
    refine ⟨_, by rw [upd_ne hDr]; exact h1, by rw [List.length_map]; exact small1000 (by omega), ps ++ [r], ?_, ?_, ?_, ?_⟩
    · rw [upd_same, List.map_append]
      all_goals rfl
    · rw [List.length_append, h2]
      all_goals rfl
    · have hz : (ws.zip ar)[i]? = some (ws[i], ar[i]) := by
        rw [List.getElem?_zip_eq_some]
        exact ⟨hwi, hai⟩
      rw [List.take_add_one, hz]
      refine Paired.snoc (pairs_keep h3 fun q xs hq => ?_) ?_
      · rw [upd_ne (ne_of hq h1 (by intro z; cases z)), upd_ne (ne_of_none hq nr)]
        exact hq
      · show upd _ D _ r = _
        rw [upd_ne hDr.symm, upd_same]
    · exact fun c o hc => by rw [upd_ne (ne_of_none hc nD), upd_ne (ne_of_none (h4 _ _ hc) nr)]; exact h4 _ _ hc
  · obtain ⟨ps, h1, h2, h3, h4⟩ := hh
    refine ⟨D, _, rfl, .inl ⟨SqL.of h1, fun l nl => ?_⟩⟩
    rw [List.length_map, ← hwl', List.take_of_length_le (by rw [List.length_zip, hwl']; omega)] at h3
    have kk : KeepT H' (upd H' l (.tup (ps.map V.ref))) := KeepT.of (same_new nl _)
    have eall : But a H (upd H' l (.tup (ps.map V.ref))) := (((But.of r0).trans e1).trans e2).trans (But.of (h4.trans (same_new nl _)))
    have pl := pool_new (o := .tup (ps.map V.ref)) (pool_same hp2 h4) nl
    refine q (ws.zip ar) l _ ⟨?_, ?_, ?_, ?_, ?_⟩ ?_ ⟨ps, upd_same, pairs_keep h3 kk⟩ pl eall
    · rw [List.length_zip]; omega
    · rw [List.map_fst_zip (by omega)]; exact hwn
    · intro c hc
      exact hwo _ (List.of_mem_zip hc).1
    · intro c hc
      exact ha2 _ (List.of_mem_zip hc).2
    · obtain ⟨i, hi, e⟩ := List.getElem_of_mem ha0
      refine ⟨(ws[i]'(by omega), ar[i]), ?_, e⟩
      exact List.mem_of_getElem? (i := i) (by rw [List.getElem?_zip_eq_some]; exact ⟨List.getElem?_eq_getElem (by omega), List.getElem?_eq_getElem hi⟩)
    · exact ((((But.of r0).trans e1).trans e2).trans (But.of h4)).none nl (pool_some (pool_same hp2 h4))
end
end Cf
namespace Cf
open PySem L2
abbrev sTerm : Stmt := top 14
/-- a term: a variable, or a word and parts -/
inductive Tm where
  | var (n : Int)
  | node (w : Str) (ps : List Tm)
mutual
inductive TmAt (H : Hp) : V → Tm → Prop
  | var (n : Int) : TmAt H (.int n) (.var n)
  | node {p : Addr} {w : Str} {vs : List V} {ps : List Tm} : H p = some (.tup (.str w :: vs)) → TmsAt H vs ps → TmAt H (.ref p) (.node w ps)
inductive TmsAt (H : Hp) : List V → List Tm → Prop
  | nil : TmsAt H [] []
  | cons {v : V} {vs : List V} {t : Tm} {ts : List Tm} : TmAt H v t → TmsAt H vs ts → TmsAt H (v :: vs) (t :: ts)
end
mutual
theorem TmAt.keep {H H' : Hp} (e : KeepT H H') : ∀ (t : Tm) (v : V), TmAt H v t → TmAt H' v t
  | .var n, _, h => by cases h; exact .var n
  | .node w ps, _, h => by
    cases h with
    | node h1 h2 => exact .node (e _ _ h1) (TmsAt.keep e ps _ h2)
theorem TmsAt.keep {H H' : Hp} (e : KeepT H H') : ∀ (ts : List Tm) (vs : List V), TmsAt H vs ts → TmsAt H' vs ts
  | [], _, h => by cases h; exact .nil
  | t :: ts, _, h => by
    cases h with
    | cons h1 h2 => exact .cons (TmAt.keep e t _ h1) (TmsAt.keep e ts _ h2)
end
theorem TmsAt.length {H : Hp} : ∀ {vs : List V} {ts : List Tm}, TmsAt H vs ts → vs.length = ts.length
  | [], _, h => by cases h; rfl
  | v :: vs, _, h => by
    cases h with
    | cons h1 h2 => exact congrArg (· + 1) (TmsAt.length h2)
theorem TmsAt.append {H : Hp} : ∀ {vs us : List V} {ts rs : List Tm}, TmsAt H vs ts → TmsAt H us rs → TmsAt H (vs ++ us) (ts ++ rs)
  | [], _, _, _, h, k => by cases h; exact k
  | v :: vs, _, _, _, h, k => by
    cases h with
    | cons h1 h2 => exact .cons h1 (TmsAt.append h2 k)
theorem TmsAt.snoc {H : Hp} {vs : List V} {v : V} {ts : List Tm} {t : Tm} (h : TmsAt H vs ts) (k : TmAt H v t) : TmsAt H (vs ++ [v]) (ts ++ [t]) := h.append (.cons k .nil)
theorem TmsAt.get {H : Hp} : ∀ {vs : List V} {ts : List Tm} {i : Nat} {t : Tm}, TmsAt H vs ts → ts[i]? = some t → ∃ v, vs[i]? = some v ∧ TmAt H v t
  | _, [], _, _, _, e => by simp at e
  | _, t :: ts, 0, _, h, e => by
    cases h with
    | cons h1 h2 => simp at e; subst e; exact ⟨_, rfl, h1⟩
  | _, t :: ts, i + 1, x, h, e => by
    cases h with
    | cons h1 h2 =>
      obtain ⟨v, a, b⟩ := TmsAt.get (i := i) h2 (by simpa using e)
      exact ⟨v, by simpa using a, b⟩
/-- a term over constructors with variables among some, of a height of at most so much -/
def TmOver (cs : List (Str × Nat)) (ns : List Int) : Nat → Tm → Prop
  | 0, _ => False
  | _ + 1, .var n => n ∈ ns
  | d + 1, .node w ps => (w, ps.length) ∈ cs ∧ ∀ p ∈ ps, TmOver cs ns d p
def spTerm (K : PySem.W.Frag) (n : Nat) : Sp := fun vs H Q _ => ∃ (a b cp np : Addr) (cs : List (Str × Nat)) (ns : List Int) (d : Nat), vs = [.ref a, .ref cp, .ref np, nV d] ∧ PoolAt H a b ∧ ConsAt H cp cs ∧ ConsOk cs ∧
  SqL K H np (ns.map V.int) ∧ np ≠ a ∧ ns.length ≤ 1000 ∧ 1 ≤ d ∧ d ≤ n ∧ ∀ (v : V) (t : Tm) (H' : Hp), TmAt H' v t → TmOver cs ns d t → PoolAt H' a b → But a H H' → Q v H'
theorem paired_left {H : Hp} {q : Addr} : ∀ {ps : List Addr} {cs : List (Str × Nat)}, Paired (PairAt H) ps cs → q ∈ ps → ∃ c ∈ cs, PairAt H q c
  | _, _, .nil, h => by cases h
  | _, _, .cons (b := b) x t, h => by
    rcases List.mem_cons.mp h with e | h
    · subst e; exact ⟨b, List.mem_cons_self, x⟩
    · obtain ⟨c, hc, k⟩ := paired_left t h
      exact ⟨c, List.mem_cons_of_mem _ hc, k⟩
theorem paired_get {H : Hp} {q : Addr} : ∀ {ps : List Addr} {cs : List (Str × Nat)} {i : Nat}, Paired (PairAt H) ps cs → ps[i]? = some q → ∃ c, cs[i]? = some c ∧ PairAt H q c
  | _, _, _, .nil, h => by simp at h
  | _, _, 0, .cons (b := b) x t, h => by simp at h; subst h; exact ⟨b, rfl, x⟩
  | _, _, i + 1, .cons x t, h => by
    obtain ⟨c, hc, k⟩ := paired_get (i := i) t (by simpa using h)
    exact ⟨c, by simpa using hc, k⟩
section
variable {P : Program} {w : World} {K : PySem.W.Frag} {mg : Str → Option Value} {base : Heap}
theorem scTerm : FnScope ["pool", "constructors", "numbers", "deep", "pair", "k"] ["pool", "constructors", "numbers", "deep"] (defScope sTerm) := ⟨rfl, rfl, rfl, by decide +kernel, rfl, by decide +kernel, by decide +kernel⟩
theorem ok_term1 {n : Nat} {f g e : Addr} {fd gd ed : FuncData} (F : Fun K "_law_term" "_law_term" sTerm f fd) (B : Blt mg) (G : FnOk P w K mg base CX0 2 g gd ["pool", "many"] spDraw) (bG : Binds K gd ["pool", "many"] [])
    (kG : PySem.W.keepIn K (.ref g) = true) (mG : mg "_law_draw" = some (.ref g)) (S : FnOk P w K mg base CX0 3 e ed ["pool", "items"] (spPick K)) (bS : Binds K ed ["pool", "items"] []) (kS : PySem.W.keepIn K (.ref e) = true) (mS : mg "_law_pick" = some (.ref e))
    (R : FnOk P w K mg base CX0 (n + 3) f fd ["pool", "constructors", "numbers", "deep"] (spTerm K n)) (bR : Binds K fd ["pool", "constructors", "numbers", "deep"] []) (mR : mg "_law_term" = some (.ref f)) :
    FnOk P w K mg base CX0 (n + 4) f fd ["pool", "constructors", "numbers", "deep"] (spTerm K (n + 1)) := by
  have kR := F.kp
  refine F.ok scTerm (fun vs H Q E h => ?_) (fun cdv A outer s H vs Q E hr h => ?_)
  · obtain ⟨a, b, cp, np, cs, ns, d, rfl, _⟩ := h
    rfl
  obtain ⟨a, b, cp, np, cs, ns, d, rfl, hp, hc, hok, hn, hna, hnl, hd1, hd2, q⟩ := h
  have nd := scTerm.nd
  refine ⟨_, Evl.pss_cut (ps_if (PW.pt (pw_and (pt_cmpR op_gt (pe_callB call_len_seq (by rfl) B.len PySem.boot_len (pa_cons (pv 2) pa_nil)) pe_int (nomark _))
        (pw_and1 (pt_cmpR op_eq (pe_call G (hr.mono (by omega)) rfl mG kG bG .nil pass0 (pa_cons (pv 0) (pa_cons pe_int pa_nil))) pe_int (nomark _)))))
      (pss_one (ps_ret (pe_call S (hr.mono (by omega)) rfl mS kS bS .nil pass0 (pa_cons (pv 0) (pa_cons (pv 2) pa_nil))))) pss_nil)
    (pss_cons (ps_set (i := 4) nd rfl (.inl rfl) (pe_call S (hr.mono (by omega)) rfl mS kS bS .nil pass0 (pa_cons (pv 0) (pa_cons
      (pe_lc (own := [("pair", 4)]) (g := gName 4) (tt := tOr (tTest (tOp rEq (tOp (rIxT K) (tVar 4) (tC (.int 1))) (tC (.int 0)))) (tTest (tOp (rI0 fun i j => .bl (decide (j < i))) (tVar 3) (tC (.int 1))))) rfl nd (pi_tup (pv 1))
        (blkOk_by (N := ["pool", "constructors", "numbers", "deep", "pair", "k"]) (sc := defScope sTerm) (by decide +kernel)) (fun _ _ _ _ _ => pg_name (i := 4) nd rfl (.inl rfl))
        (fun _ _ _ _ _ => pts_one (PW.pt (pw_or (pt_cmpR op_eq (pe_ix (r := rIxT K) ix_tup (pv 4) pe_int (fun _ _ => rfl)) pe_int (nomark _)) (pw_or1 (pt_cmpR op_gt (pv 3) pe_int (nomark _))))))
        (fun _ _ _ _ _ => pv 4)) pa_nil))))
    (pss_one (ps_ret (pe_op op_catA (pe_tup (pa_cons (pe_ix ix_tup (pv 4) pe_int (fun _ _ => rfl)) pa_nil)) (pe_callTy call_tuple_of (by rfl) B.tuple (by decide +kernel) (pa_cons
      (pe_lc (own := [("k", 5)]) (g := gName 5) (tt := tYes) rfl nd (pi_range1 rfl B.range (pa_cons (pe_ix ix_tup (pv 4) pe_int (fun _ _ => rfl)) pa_nil))
        (blkOk_by (N := ["pool", "constructors", "numbers", "deep", "pair", "k"]) (sc := defScope sTerm) (by decide +kernel)) (fun _ _ _ _ _ => pg_name (i := 5) nd rfl (.inl rfl)) (fun _ _ _ _ _ => pts_nil)
        (fun _ _ _ _ _ => pe_call R hr rfl mR kR bR .nil pass0 (pa_cons (pv 0) (pa_cons (pv 1) (pa_cons (pv 2) (pa_cons (pe_op op_sub (pv 3) pe_int) pa_nil)))))) pa_nil)))))), ?_⟩
  refine ⟨fun σ H1 => σ = [some (.ref a), some (.ref cp), some (.ref np), some (nV d), none, none] ∧ PoolAt H1 a b ∧ But a H H1, ?_, ?_⟩
  · refine ⟨_, rfl, np, _, rfl, .inl hn, _, _, rfl, rfl, _, rfl, ite2 (fun c1 => ?_) (fun c1 => iteF ⟨rfl, hp, But.refl _ _⟩)⟩
    have h0 : 0 < (ns.map V.int).length := by
      have c' : (0 : Int) < ((ns.map V.int).length : Int) := of_decide_eq_true c1
      omega
    refine ⟨_, rfl, a, b, 2, rfl, hp, by decide, by decide, fun x H1 x0 x1 hp1 e1 => ?_⟩
    refine ⟨rfl, _, rfl, ite2 (fun c2 => ?_) (fun c2 => ⟨rfl, hp1, e1⟩)⟩
    refine ⟨_, rfl, _, rfl, a, b, np, _, rfl, hp1, .inl (e1.seqL hna hn), hna, h0, by rw [List.length_map]; omega, fun v H2 hv hp2 e2 => ?_⟩
    obtain ⟨m, hm, rfl⟩ := List.mem_map.mp hv
    obtain ⟨d', rfl⟩ : ∃ d', d = d' + 1 := ⟨d - 1, by omega⟩
    exact q (.int m) (.var m) H2 (.var m) hm hp2 (e1.trans e2)
  · rintro σ H1 ⟨rfl, hp1, e1⟩
    have k1 : KeepT H H1 := KeepT.but e1 hp
    obtain ⟨qs, hc1, hc2⟩ := hc.keep k1
    have hqc : qs.length = cs.length := Paired.length hc2
    refine ⟨_, rfl, _, rfl, cp, rfl, ⟨_, SqT.of hc1⟩, fun D nD => ?_⟩
    refine lc_tup (xs := qs.map V.ref) (fun i H' => ∃ rs : List Addr, H' D = some (.lst (rs.map V.ref)) ∧ rs.length ≤ i ∧ Same H1 H' ∧ (∀ r ∈ rs, ∃ c ∈ cs, PairAt H1 r c ∧ (c.2 = 0 ∨ 1 < d)) ∧ ((∃ c ∈ cs.take i, c.2 = 0) → 0 < rs.length))
      ⟨[], upd_same, Nat.le_refl _, same_new nD _, fun _ h => (by cases h), fun h => by obtain ⟨c, hc, _⟩ := h; rw [List.take_zero] at hc; cases hc⟩ (fun i H' _ hh => ?_) (fun i x H' hx hh => ?_) (fun H' hh => ?_)
    · obtain ⟨rs, h1, h2, h3, h4, h5⟩ := hh
      exact SqT.of (h3 _ _ hc1)
    · obtain ⟨rs, h1, h2, h3, h4, h5⟩ := hh
      rw [List.getElem?_map] at hx
      obtain ⟨r, hr', rfl⟩ := Option.map_eq_some_iff.mp hx
      obtain ⟨c, hci, hcr⟩ := paired_get hc2 hr'
      have hil : i < cs.length := (List.getElem?_eq_some_iff.mp hci).1
      refine ⟨rfl, ?_⟩
      -- one kept: the list grows
      have keep1 : (c.2 = 0 ∨ 1 < d) → ∃ acc, H' D = some (.lst acc) ∧ acc.length < sizeLine ∧ ∃ rs : List Addr, upd H' D (.lst (acc ++ [V.ref r])) D = some (.lst (rs.map V.ref)) ∧ rs.length ≤ i + 1 ∧ Same H1 (upd H' D (.lst (acc ++ [V.ref r]))) ∧ (∀ r ∈ rs, ∃ c ∈ cs, PairAt H1 r c ∧ (c.2 = 0 ∨ 1 < d)) ∧ ((∃ c ∈ cs.take (i + 1), c.2 = 0) → 0 < rs.length) := fun hz => by
        refine ⟨_, h1, by rw [List.length_map]; exact small1000 (by have := hok.len; omega), rs ++ [r], ?_, ?_, ?_, ?_, ?_⟩
        · rw [upd_same, List.map_append]
          all_goals rfl
        · rw [List.length_append]; exact Nat.succ_le_succ h2
        · exact fun b o hb => by rw [upd_ne (ne_of_none hb nD)]; exact h3 _ _ hb
        · intro x hx
          rcases List.mem_append.mp hx with h | h
          · exact h4 x h
          · rw [List.mem_singleton.mp h]
            exact ⟨c, List.mem_of_getElem? hci, hcr, hz⟩
        · intro _; rw [List.length_append]; exact Nat.succ_pos _
      refine ⟨_, rfl, r, _, 1, _, rfl, rfl, SqT.of (h3 _ _ hcr), rfl, rfl, _, rfl, ite2 (fun c1 => ?_) (fun c1 => ?_)⟩
      · have hz : c.2 = 0 := by
          have e : nV c.2 = V.int 0 := of_decide_eq_true c1
          have e2 : (c.2 : Int) = 0 := V.int.inj e
          omega
        exact iteT ⟨_, rfl, keep1 (.inl hz)⟩
      · have hz : ¬ c.2 = 0 := fun e => c1 (decide_eq_true (by rw [e]; rfl))
        refine ⟨_, rfl, _, _, rfl, rfl, _, rfl, ite2 (fun c2 => ?_) (fun c2 => ?_)⟩
        · have hd' : 1 < d := by have c' : (1 : Int) < (d : Int) := of_decide_eq_true c2; omega
          exact ⟨_, rfl, keep1 (.inr hd')⟩
        · refine ⟨rs, h1, by omega, h3, h4, fun hcs => ?_⟩
          obtain ⟨c', hc', z⟩ := hcs
          rw [List.take_add_one, hci] at hc'
          rcases List.mem_append.mp hc' with h | h
          · exact h5 ⟨c', h, z⟩
          · have e : c' = c := by simpa using h
            rw [e] at z; exact absurd z hz
    · obtain ⟨rs, h1, h2, h3, h4, h5⟩ := hh
      rw [List.length_map, hqc, List.take_of_length_le (Nat.le_refl _)] at h5
      rw [List.length_map, hqc] at h2
      have hpos : 0 < rs.length := h5 hok.leaf
      refine ⟨a, b, D, _, rfl, pool_same hp1 h3, .inl (SqL.of h1), pool_a hp1 nD, by rw [List.length_map]; exact hpos, by rw [List.length_map]; have := hok.len; omega, fun v H2 hv hp2 e2 => ?_⟩
      obtain ⟨r, hr1, rfl⟩ := List.mem_map.mp hv
      obtain ⟨c, hcm, hcr, hcd⟩ := h4 r hr1
      have k2 : KeepT H1 H2 := (KeepT.of h3).trans (KeepT.but e2 (pool_same hp1 h3))
      have e12 : But a H H2 := (e1.trans (But.of h3)).trans e2
      have hr2 := k2 _ _ hcr
      refine ⟨_, rfl, r, _, 0, _, rfl, rfl, SqT.of hr2, rfl, (by show 1 ≤ sizeLine; decide), fun u nu => ?_⟩
      have ku := same_new nu (HO.tup [V.str c.1])
      have hc2' := hok.ar c hcm
      refine ⟨_, rfl, r, _, 1, _, rfl, rfl, SqT.of (ku _ _ hr2), rfl, _, rfl, by omega, by omega, fun D2 nD2 => ?_⟩
      have sm2 := ku.trans (same_new nD2 (HO.lst []))
      refine lc_range (n := c.2) (fun i H' => ∃ (vs : List V) (ts : List Tm), H' D2 = some (.lst vs) ∧ vs.length = i ∧ TmsAt H' vs ts ∧ (∀ t ∈ ts, TmOver cs ns (d - 1) t) ∧ PoolAt H' a b ∧ But a H2 H' ∧ H' u = some (.tup [V.str c.1]))
        ⟨[], [], upd_same, rfl, .nil, fun _ h => (by cases h), pool_same hp2 sm2, But.of sm2, by rw [upd_ne (ne_of_none upd_same nD2)]; exact upd_same⟩ (fun i H' hi hh => ?_) (fun H' hh => ?_)
      · obtain ⟨vs, ts, g1, g2, g3, g4, g5, g6, g7⟩ := hh
        have hd1' : 1 < d := by rcases hcd with h | h <;> omega
        refine ⟨rfl, ?_⟩
        have ed : (d : Int) - 1 = ((d - 1 : Nat) : Int) := by omega
        refine ⟨_, rfl, _, rfl, _, rfl, _, rfl, _, _, rfl, rfl, a, b, cp, np, cs, ns, d - 1, ?_, g5, ?_, hok, (e12.trans g6).seqL hna hn, hna, hnl, by omega, by omega, fun v t H3 t1 t2 t3 t4 => ?_⟩
        · show [V.ref a, V.ref cp, V.ref np, V.int ((d : Int) - 1)] = _
          rw [ed]
        · exact ConsAt.keep (ConsAt.keep ⟨qs, hc1, hc2⟩ k2) (KeepT.but g6 hp2)
        have nDa : D2 ≠ a := pool_a (pool_same hp2 ku) nD2
        refine ⟨vs, t4 _ _ nDa g1, small1000 (by omega), vs ++ [v], ts ++ [t], upd_same, by rw [List.length_append, g2]; rfl, ?_, ?_, ?_, ?_, ?_⟩
        · have kk : KeepT H' H3 := KeepT.but t4 g5
          have k3 : KeepT H3 (upd H3 D2 (.lst (vs ++ [v]))) := fun x xs hx => by rw [upd_ne (ne_of hx (t4 _ _ nDa g1) (by intro z; cases z))]; exact hx
          exact (TmsAt.keep k3 _ _ (TmsAt.keep kk _ _ g3)).snoc (TmAt.keep k3 _ _ t1)
        · intro y hy
          rcases List.mem_append.mp hy with h | h
          · exact g4 y h
          · rw [List.mem_singleton.mp h]; exact t2
        · exact pool_upd t3 nDa (pool_b (pool_same hp2 ku) nD2)
        · exact fun x o hx hxo => by rw [upd_ne (ne_of_none (ku _ _ hxo) nD2)]; exact t4 _ _ hx (g6 _ _ hx hxo)
        · have huD : u ≠ D2 := ne_of_none upd_same nD2
          rw [upd_ne huD]
          exact KeepT.but t4 g5 _ _ g7
      · obtain ⟨vs, ts, g1, g2, g3, g4, g5, g6, g7⟩ := hh
        refine ⟨D2, vs, rfl, .inl ⟨SqL.of g1, fun l nl => ?_⟩⟩
        have kl := same_new nl (HO.tup vs)
        have hts : ts.length = c.2 := by rw [← TmsAt.length g3, g2]
        obtain ⟨d', rfl⟩ : ∃ d', d = d' + 1 := ⟨d - 1, by omega⟩
        have hov : TmOver cs ns (d' + 1) (.node c.1 ts) := ⟨by rw [hts]; exact hcm, g4⟩
        have eA : But a H H' := e12.trans g6
        refine ⟨u, l, _, _, rfl, rfl, SqT.of (kl _ _ g7), SqT.of upd_same, ?_, fun z => (by cases z), fun _ z => ?_, fun _ z p np' => ?_⟩
        · show 1 + vs.length ≤ sizeLine
          exact Nat.le_of_lt (small1000 (by omega))
        · subst z
          cases g3
          exact q (.ref u) (.node c.1 []) _ (.node (kl _ _ g7) .nil) hov (pool_same g5 kl) (eA.trans (But.of kl))
        · have kp := kl.trans (same_new np' (HO.tup (V.str c.1 :: vs)))
          exact q (.ref p) (.node c.1 ts) _ (.node upd_same (TmsAt.keep (KeepT.of kp) _ _ g3)) hov (pool_same g5 kp) (eA.trans (But.of kp))
theorem ok_term {f g e : Addr} {fd gd ed : FuncData} (F : Fun K "_law_term" "_law_term" sTerm f fd) (B : Blt mg) (G : FnOk P w K mg base CX0 2 g gd ["pool", "many"] spDraw) (bG : Binds K gd ["pool", "many"] [])
    (kG : PySem.W.keepIn K (.ref g) = true) (mG : mg "_law_draw" = some (.ref g)) (S : FnOk P w K mg base CX0 3 e ed ["pool", "items"] (spPick K)) (bS : Binds K ed ["pool", "items"] []) (kS : PySem.W.keepIn K (.ref e) = true) (mS : mg "_law_pick" = some (.ref e))
    (bR : Binds K fd ["pool", "constructors", "numbers", "deep"] []) (mR : mg "_law_term" = some (.ref f)) : ∀ n : Nat, FnOk P w K mg base CX0 (n + 3) f fd ["pool", "constructors", "numbers", "deep"] (spTerm K n)
  | 0 => none_left fun vs H Q E h => by
    obtain ⟨a, b, cp, np, cs, ns, d, _, _, _, _, _, _, _, h1, h2, _⟩ := h
    omega
  | n + 1 => ok_term1 F B G bG kG mG S bS kS mS (ok_term F B G bG kG mG S bS kS mS bR mR n) bR mR
end
end Cf
namespace Cf
open PySem L2
abbrev sSame : Stmt := top 5
abbrev sIsInt : Stmt := top 6
/-- the same data to a depth, told by the heap -/
def Eqd (H : Hp) : Nat → V → V → Prop
  | 0, _, _ => False
  | n + 1, x, y => (x = y ∧ flatV x = true) ∨ ∃ (p q : Addr) (xs ys : List V), x = .ref p ∧ y = .ref q ∧ ((H p = some (.lst xs) ∧ H q = some (.lst ys)) ∨ (H p = some (.tup xs) ∧ H q = some (.tup ys))) ∧
      xs.length = ys.length ∧ xs.length ≤ 1000000 ∧ ∀ (i : Nat) (x y : V), xs[i]? = some x → ys[i]? = some y → Eqd H n x y
theorem Eqd.flat {H : Hp} {n : Nat} {x : V} (h : flatV x = true) : Eqd H (n + 1) x x := .inl ⟨rfl, h⟩
theorem Eqd.lst {H : Hp} {n : Nat} {p q : Addr} {xs ys : List V} (h1 : H p = some (.lst xs)) (h2 : H q = some (.lst ys)) (h3 : xs.length = ys.length) (h4 : xs.length ≤ 1000000)
    (h5 : ∀ (i : Nat) (x y : V), xs[i]? = some x → ys[i]? = some y → Eqd H n x y) : Eqd H (n + 1) (.ref p) (.ref q) := .inr ⟨p, q, xs, ys, rfl, rfl, .inl ⟨h1, h2⟩, h3, h4, h5⟩
theorem Eqd.tup {H : Hp} {n : Nat} {p q : Addr} {xs ys : List V} (h1 : H p = some (.tup xs)) (h2 : H q = some (.tup ys)) (h3 : xs.length = ys.length) (h4 : xs.length ≤ 1000000)
    (h5 : ∀ (i : Nat) (x y : V), xs[i]? = some x → ys[i]? = some y → Eqd H n x y) : Eqd H (n + 1) (.ref p) (.ref q) := .inr ⟨p, q, xs, ys, rfl, rfl, .inr ⟨h1, h2⟩, h3, h4, h5⟩
theorem Eqd.keep {H H' : Hp} (e : Same H H') : ∀ {n : Nat} {x y : V}, Eqd H n x y → Eqd H' n x y
  | 0, _, _, h => h
  | n + 1, _, _, h => by
    rcases h with h | ⟨p, q, xs, ys, rfl, rfl, h, h3, h4, h5⟩
    · exact .inl h
    · refine .inr ⟨p, q, xs, ys, rfl, rfl, ?_, h3, h4, fun i x y a b => Eqd.keep e (h5 i x y a b)⟩
      rcases h with ⟨a, b⟩ | ⟨a, b⟩
      · exact .inl ⟨e _ _ a, e _ _ b⟩
      · exact .inr ⟨e _ _ a, e _ _ b⟩
theorem Eqd.mono {H : Hp} : ∀ {n m : Nat} {x y : V}, n ≤ m → Eqd H n x y → Eqd H m x y
  | 0, _, _, _, _, h => h.elim
  | n + 1, 0, _, _, l, _ => by omega
  | n + 1, m + 1, _, _, l, h => by
    rcases h with h | ⟨p, q, xs, ys, rfl, rfl, h, h3, h4, h5⟩
    · exact .inl h
    · exact .inr ⟨p, q, xs, ys, rfl, rfl, h, h3, h4, fun i x y a b => Eqd.mono (by omega) (h5 i x y a b)⟩
def spSame (n : Nat) : Sp := fun vs H Q _ => ∃ x y : V, vs = [x, y] ∧ Eqd H n x y ∧ ∀ H', Same H H' → Q (.bl true) H'
/-- the name of a value's class -/
def TyN (H : Hp) : V → String → Prop
  | .non, T => T = "NoneType"
  | .bl _, T => T = "bool"
  | .int _, T => T = "int"
  | .str _, T => T = "str"
  | .ref p, T => (T = "list" ∧ ∃ xs, H p = some (.lst xs)) ∨ (T = "tuple" ∧ ∃ xs, H p = some (.tup xs)) ∨ (T = "dict" ∧ ∃ kvs, H p = some (.dK kvs))
  | _, _ => False
theorem tyx {K : PySem.W.Frag} {H : Hp} {v : V} {T : String} (h : TyN H v T) : TyX K H v (.type T) := by
  cases v with
  | non => cases (show T = "NoneType" from h); exact .base .non
  | bl b => cases (show T = "bool" from h); exact .base (.bl b)
  | int i => cases (show T = "int" from h); exact .base (.int i)
  | str z => cases (show T = "str" from h); exact .base (.str z)
  | ref p =>
    rcases h with ⟨rfl, xs, h⟩ | ⟨rfl, xs, h⟩ | ⟨rfl, xs, h⟩
    · exact .base (.lst h)
    · exact .base (.tup h)
    · exact .base (.dK h)
  | byt _ => exact (show False from h).elim
  | flt _ => exact (show False from h).elim
  | ty _ => exact (show False from h).elim
/-- isinstance(v, C), read -/
theorem isi {K : PySem.W.Frag} {H : Hp} {v : V} {T C : String} {b : Bool} {Q : VK} (h : TyN H v T) (k : kitB T C = some b) (q : Q (.bl b) H) : rIsi K [v, .ty C] H Q := ⟨v, .ty C, .type T, .type C, b, rfl, .ty C, tyx h, kit_ty k, q⟩
def spIsInt : Sp := fun vs H Q _ => ∃ (v : V) (T : String), vs = [v] ∧ TyN H v T ∧ Q (.bl (decide (T = "int"))) H
section
variable {P : Program} {w : World} {K : PySem.W.Frag} {mg : Str → Option Value} {base : Heap}
theorem scIsInt : FnScope ["actual"] ["actual"] (defScope sIsInt) := ⟨rfl, rfl, rfl, by decide +kernel, rfl, by decide +kernel, by decide +kernel⟩
theorem ok_isInt {f : Addr} {fd : FuncData} (F : Fun K "_law_is_integer" "_law_is_integer" sIsInt f fd) (B : Blt mg) : FnOk P w K mg base CX0 1 f fd ["actual"] spIsInt := by
  refine F.ok scIsInt (fun vs H Q E h => ?_) (fun cdv A outer s H vs Q E hr h => ?_)
  · obtain ⟨v, T, rfl, _⟩ := h
    rfl
  obtain ⟨v, T, rfl, hT, q⟩ := h
  refine ⟨_, pss_one (ps_ret (pe_and (pe_callB call_isi (by rfl) B.isinstance (by decide +kernel) (pa_cons (pv 0) (pa_cons (pe_bltn (v := .ty "int") (by rfl) B.int (by decide +kernel) rfl) pa_nil)))
    (pe_one (pe_not (pe_callB call_isi (by rfl) B.isinstance (by decide +kernel) (pa_cons (pv 0) (pa_cons (pe_bltn (v := .ty "bool") (by rfl) B.bool (by decide +kernel) rfl) pa_nil)))))))  , ?_⟩
  refine ⟨_, rfl, ?_⟩
  have hh := hT
  cases v with
  | non => cases (show T = "NoneType" from hT); exact ⟨_, _, _, _, false, rfl, .ty _, tyx hh, kit_ty (by decide +kernel), _, rfl, iteF q⟩
  | bl b => cases (show T = "bool" from hT); exact ⟨_, _, _, _, true, rfl, .ty _, tyx hh, kit_ty (by decide +kernel), _, rfl, iteT ⟨_, rfl, ⟨_, _, _, _, true, rfl, .ty _, tyx hh, kit_ty (by decide +kernel), _, rfl, q⟩⟩⟩
  | int i => cases (show T = "int" from hT); exact ⟨_, _, _, _, true, rfl, .ty _, tyx hh, kit_ty (by decide +kernel), _, rfl, iteT ⟨_, rfl, ⟨_, _, _, _, false, rfl, .ty _, tyx hh, kit_ty (by decide +kernel), _, rfl, q⟩⟩⟩
  | str z => cases (show T = "str" from hT); exact ⟨_, _, _, _, false, rfl, .ty _, tyx hh, kit_ty (by decide +kernel), _, rfl, iteF q⟩
  | ref p =>
    rcases hT with ⟨rfl, xs, h⟩ | ⟨rfl, xs, h⟩ | ⟨rfl, xs, h⟩
    · exact ⟨_, _, _, _, false, rfl, .ty _, tyx hh, kit_ty (by decide +kernel), _, rfl, iteF q⟩
    · exact ⟨_, _, _, _, false, rfl, .ty _, tyx hh, kit_ty (by decide +kernel), _, rfl, iteF q⟩
    · exact ⟨_, _, _, _, false, rfl, .ty _, tyx hh, kit_ty (by decide +kernel), _, rfl, iteF q⟩
  | byt _ => exact (show False from hT).elim
  | flt _ => exact (show False from hT).elim
  | ty _ => exact (show False from hT).elim
end
end Cf
namespace Cf
open PySem L2
section
variable {P : Program} {w : World} {K : PySem.W.Frag} {mg : Str → Option Value} {base : Heap}
theorem scSame : FnScope ["actual", "due", "k"] ["actual", "due"] (defScope sSame) := ⟨rfl, rfl, rfl, by decide +kernel, rfl, by decide +kernel, by decide +kernel⟩
theorem ok_same1 {n : Nat} {f : Addr} {fd : FuncData} (F : Fun K "_law_same" "_law_same" sSame f fd) (B : Blt mg) (R : FnOk P w K mg base CX0 n f fd ["actual", "due"] (spSame n)) (bR : Binds K fd ["actual", "due"] []) (mR : mg "_law_same" = some (.ref f)) :
    FnOk P w K mg base CX0 (n + 1) f fd ["actual", "due"] (spSame (n + 1)) := by
  have kR := F.kp
  refine F.ok scSame (fun vs H Q E h => ?_) (fun cdv A outer s H vs Q E hr h => ?_)
  · obtain ⟨x, y, rfl, _⟩ := h
    rfl
  obtain ⟨x, y, rfl, hxy, q⟩ := h
  have nd := scSame.nd
  refine ⟨_, pss_cons (ps_if (PW.pt (pw_or (pt_val (pe_callB call_isi (by rfl) B.isinstance (by decide +kernel) (pa_cons (pv 1) (pa_cons (pe_bltn (v := .ty "tuple") (by rfl) B.tuple (by decide +kernel) rfl) pa_nil)))) (pw_or1 (pt_val (pe_callB call_isi (by rfl) B.isinstance (by decide +kernel) (pa_cons (pv 1) (pa_cons (pe_bltn (v := .ty "list") (by rfl) B.list (by decide +kernel) rfl) pa_nil)))))))
      (pss_cons (ps_if (PW.pt (pw_or (pt_cmpR op_ne (pe_callB call_isi (by rfl) B.isinstance (by decide +kernel) (pa_cons (pv 1) (pa_cons (pe_bltn (v := .ty "tuple") (by rfl) B.tuple (by decide +kernel) rfl) pa_nil))) (pe_callB call_isi (by rfl) B.isinstance (by decide +kernel) (pa_cons (pv 0) (pa_cons (pe_bltn (v := .ty "tuple") (by rfl) B.tuple (by decide +kernel) rfl) pa_nil))) (nomark _)) (pw_or (pt_cmpR op_ne (pe_callB call_isi (by rfl) B.isinstance (by decide +kernel) (pa_cons (pv 1) (pa_cons (pe_bltn (v := .ty "list") (by rfl) B.list (by decide +kernel) rfl) pa_nil))) (pe_callB call_isi (by rfl) B.isinstance (by decide +kernel) (pa_cons (pv 0) (pa_cons (pe_bltn (v := .ty "list") (by rfl) B.list (by decide +kernel) rfl) pa_nil))) (nomark _)) (pw_or1 (pt_cmpR op_ne (pe_callB call_len_seq (by rfl) B.len PySem.boot_len (pa_cons (pv 0) pa_nil)) (pe_callB call_len_seq (by rfl) B.len PySem.boot_len (pa_cons (pv 1) pa_nil)) (nomark _))))))
          (pss_one (ps_ret pe_bl)) pss_nil)
        (pss_one (ps_ret (pe_cmpR op_eq (pe_callB call_len_seq (by rfl) B.len PySem.boot_len (pa_cons
          (pe_lc (own := [("k", 2)]) (g := gName 2) (tt := tNot (tB (tCall (spSame n) [] E0 (tCons (tOp (rIx K) (tVar 0) (tVar 2)) (tCons (tOp (rIx K) (tVar 1) (tVar 2)) tNil))))) rfl nd (pi_range1 rfl B.range (pa_cons (pe_callB call_len_seq (by rfl) B.len PySem.boot_len (pa_cons (pv 1) pa_nil)) pa_nil))
            (blkOk_by (N := ["actual", "due", "k"]) (sc := defScope sSame) (by decide +kernel)) (fun _ _ _ _ _ => pg_name (i := 2) nd rfl (.inl rfl))
            (fun _ _ _ _ _ => pts_one (pt_not (pt_val (pe_call R hr rfl mR kR bR .nil pass0 (pa_cons (pe_ix (r := rIx K) ix_seq (pv 0) (pv 2) (fun _ _ => rfl)) (pa_cons (pe_ix (r := rIx K) ix_seq (pv 1) (pv 2) (fun _ _ => rfl)) pa_nil))))))
            (fun _ _ _ _ _ => pv 2)) pa_nil)) pe_int (nomark _))))) pss_nil)
    (pss_cons (ps_if (pt_cmpR op_isN (pv 1) pe_non (nomark _)) (pss_one (ps_ret (pe_cmpR op_isN (pv 0) pe_non (nomark _)))) pss_nil)
    (pss_cons (ps_if (PW.pt (pw_or (pt_val (pe_callB call_isi (by rfl) B.isinstance (by decide +kernel) (pa_cons (pv 1) (pa_cons (pe_bltn (v := .ty "bool") (by rfl) B.bool (by decide +kernel) rfl) pa_nil)))) (pw_or1 (pt_val (pe_callB call_isi (by rfl) B.isinstance (by decide +kernel) (pa_cons (pv 0) (pa_cons (pe_bltn (v := .ty "bool") (by rfl) B.bool (by decide +kernel) rfl) pa_nil))))))) (pss_one (ps_ret (pe_and (pe_callB call_isi (by rfl) B.isinstance (by decide +kernel) (pa_cons (pv 1) (pa_cons (pe_bltn (v := .ty "bool") (by rfl) B.bool (by decide +kernel) rfl) pa_nil))) (pe_and (pe_callB call_isi (by rfl) B.isinstance (by decide +kernel) (pa_cons (pv 0) (pa_cons (pe_bltn (v := .ty "bool") (by rfl) B.bool (by decide +kernel) rfl) pa_nil))) (pe_one (pe_cmpR op_eq (pv 0) (pv 1) (nomark _))))))) pss_nil)
    (pss_cons (ps_if (pt_val (pe_callB call_isi (by rfl) B.isinstance (by decide +kernel) (pa_cons (pv 1) (pa_cons (pe_bltn (v := .ty "int") (by rfl) B.int (by decide +kernel) rfl) pa_nil)))) (pss_one (ps_ret (pe_and (pe_callB call_isi (by rfl) B.isinstance (by decide +kernel) (pa_cons (pv 0) (pa_cons (pe_bltn (v := .ty "int") (by rfl) B.int (by decide +kernel) rfl) pa_nil))) (pe_one (pe_cmpR op_eq (pv 0) (pv 1) (nomark _)))))) pss_nil)
    (pss_one (ps_ret (pe_and (pe_callB call_isi (by rfl) B.isinstance (by decide +kernel) (pa_cons (pv 0) (pa_cons (pe_bltn (v := .ty "str") (by rfl) B.str (by decide +kernel) rfl) pa_nil))) (pe_one (pe_cmpR op_eq (pv 0) (pv 1) (nomark _))))))))), ?_⟩
  have q0 := q H (Same.refl H)
  rcases hxy with ⟨rfl, hf⟩ | ⟨p, r, xs, ys, rfl, rfl, hh, hl, hlen, hall⟩
  · cases x with
    | non =>
      have hh : TyN H V.non "NoneType" := rfl
      refine ⟨_, rfl, ⟨_, _, _, _, false, rfl, .ty _, tyx hh, kit_ty (by decide +kernel), _, rfl, iteF ⟨_, rfl, ⟨_, _, _, _, false, rfl, .ty _, tyx hh, kit_ty (by decide +kernel), _, rfl, iteF ?_⟩⟩⟩⟩
      refine ⟨_, rfl, rfl, _, rfl, ite2 (fun _ => ?_) (fun c => absurd (decide_eq_true rfl) c)⟩
      exact ⟨_, rfl, rfl, q0⟩
    | bl b =>
      have hh : TyN H (V.bl b) "bool" := rfl
      refine ⟨_, rfl, ⟨_, _, _, _, false, rfl, .ty _, tyx hh, kit_ty (by decide +kernel), _, rfl, iteF ⟨_, rfl, ⟨_, _, _, _, false, rfl, .ty _, tyx hh, kit_ty (by decide +kernel), _, rfl, iteF ?_⟩⟩⟩⟩
      refine ⟨_, rfl, rfl, _, rfl, ite2 (fun c => (nomatch (of_decide_eq_true c))) (fun _ => ?_)⟩
      refine ⟨_, rfl, ⟨_, _, _, _, true, rfl, .ty _, tyx hh, kit_ty (by decide +kernel), _, rfl, iteT (iteT ?_)⟩⟩
      refine ⟨_, rfl, ⟨_, _, _, _, true, rfl, .ty _, tyx hh, kit_ty (by decide +kernel), _, rfl, iteT ⟨_, rfl, ⟨_, _, _, _, true, rfl, .ty _, tyx hh, kit_ty (by decide +kernel), _, rfl, iteT ?_⟩⟩⟩⟩
      refine ⟨_, rfl, _, rfl, rfl, ?_⟩
      rw [decide_eq_true rfl]
      exact q0
    | int i =>
      have hh : TyN H (V.int i) "int" := rfl
      refine ⟨_, rfl, ⟨_, _, _, _, false, rfl, .ty _, tyx hh, kit_ty (by decide +kernel), _, rfl, iteF ⟨_, rfl, ⟨_, _, _, _, false, rfl, .ty _, tyx hh, kit_ty (by decide +kernel), _, rfl, iteF ?_⟩⟩⟩⟩
      refine ⟨_, rfl, rfl, _, rfl, ite2 (fun c => (nomatch (of_decide_eq_true c))) (fun _ => ?_)⟩
      refine ⟨_, rfl, ⟨_, _, _, _, false, rfl, .ty _, tyx hh, kit_ty (by decide +kernel), _, rfl, iteF ⟨_, rfl, ⟨_, _, _, _, false, rfl, .ty _, tyx hh, kit_ty (by decide +kernel), _, rfl, iteF ?_⟩⟩⟩⟩
      refine ⟨_, rfl, ⟨_, _, _, _, true, rfl, .ty _, tyx hh, kit_ty (by decide +kernel), _, rfl, iteT ?_⟩⟩
      refine ⟨_, rfl, ⟨_, _, _, _, true, rfl, .ty _, tyx hh, kit_ty (by decide +kernel), _, rfl, iteT ?_⟩⟩
      refine ⟨_, rfl, _, rfl, rfl, ?_⟩
      rw [decide_eq_true rfl]
      exact q0
    | str z =>
      have hh : TyN H (V.str z) "str" := rfl
      refine ⟨_, rfl, ⟨_, _, _, _, false, rfl, .ty _, tyx hh, kit_ty (by decide +kernel), _, rfl, iteF ⟨_, rfl, ⟨_, _, _, _, false, rfl, .ty _, tyx hh, kit_ty (by decide +kernel), _, rfl, iteF ?_⟩⟩⟩⟩
      refine ⟨_, rfl, rfl, _, rfl, ite2 (fun c => (nomatch (of_decide_eq_true c))) (fun _ => ?_)⟩
      refine ⟨_, rfl, ⟨_, _, _, _, false, rfl, .ty _, tyx hh, kit_ty (by decide +kernel), _, rfl, iteF ⟨_, rfl, ⟨_, _, _, _, false, rfl, .ty _, tyx hh, kit_ty (by decide +kernel), _, rfl, iteF ?_⟩⟩⟩⟩
      refine ⟨_, rfl, ⟨_, _, _, _, false, rfl, .ty _, tyx hh, kit_ty (by decide +kernel), _, rfl, iteF ?_⟩⟩
      refine ⟨_, rfl, ⟨_, _, _, _, true, rfl, .ty _, tyx hh, kit_ty (by decide +kernel), _, rfl, iteT ?_⟩⟩
      refine ⟨_, rfl, _, rfl, rfl, ?_⟩
      rw [decide_eq_true rfl]
      exact q0
    | byt _ => cases hf
    | flt _ => cases hf
    | ty _ => cases hf
    | ref _ => cases hf
  · -- the two sequences, item by item
    have seq : ∀ (hp : SqL K H p xs ∨ SqT K H p xs) (hr' : SqL K H r ys ∨ SqT K H r ys), tRet (tOp rEq (tCB (fun xs H Q => ∃ (p : Addr) (ys : List V), xs = [.ref p] ∧ (SqL K H p ys ∨ SqT K H p ys) ∧ Q (.int ys.length) H) (tCons
        (tLc (iRng1 (tCons (tCB (fun xs H Q => ∃ (p : Addr) (ys : List V), xs = [.ref p] ∧ (SqL K H p ys ∨ SqT K H p ys) ∧ Q (.int ys.length) H) (tCons (tVar 1) tNil)) tNil)) (gName 2)
          (tNot (tB (tCall (spSame n) [] E0 (tCons (tOp (rIx K) (tVar 0) (tVar 2)) (tCons (tOp (rIx K) (tVar 1) (tVar 2)) tNil))))) (tVar 2) [2]) tNil)) (tC (.int 0)))
        { nx := fun _ H' => Q .non H', rt := Q } [some (.ref p), some (.ref r), none] H := by
      intro hp hr'
      refine ⟨_, rfl, r, _, rfl, hr', _, rfl, by omega, by omega, fun D nD => ?_⟩
      refine lc_range (n := ys.length) (fun i H' => H' D = some (.lst []) ∧ Same H H') ⟨upd_same, same_new nD _⟩ (fun i H' hi hh => ?_) (fun H' hh => ?_)
      · obtain ⟨h1, h2⟩ := hh
        have hx : xs[i]? = some xs[i] := List.getElem?_eq_getElem (by omega)
        have hy : ys[i]? = some ys[i] := List.getElem?_eq_getElem hi
        have hax : atI xs (0 + (i : Int)) = some xs[i] := by rw [Int.zero_add]; exact atI_nat hx
        have hay : atI ys (0 + (i : Int)) = some ys[i] := by rw [Int.zero_add]; exact atI_nat hy
        have ix : ∀ {z : Addr} {zs : List V} {v : V} {Q : VK}, (SqL K H z zs ∨ SqT K H z zs) → atI zs (0 + (i : Int)) = some v → Q v H' → rIx K (.ref z) (.int (0 + (i : Int))) H' Q := fun hz ha hq => by
          rcases hz with hz | hz
          · exact .inl ⟨_, _, _, _, rfl, rfl, h2.seq hz, ha, hq⟩
          · refine .inr (.inl ⟨_, _, _, _, rfl, rfl, ?_, ha, hq⟩)
            rcases hz with (hz | ⟨o, hz⟩) | hz
            · exact .inl (.inl (h2 _ _ hz))
            · exact .inl (.inr ⟨o, h2 _ _ hz⟩)
            · exact .inr hz
        refine ⟨rfl, _, rfl, _, rfl, ix hp hax ⟨_, rfl, _, rfl, ix hr' hay ?_⟩⟩
        exact ⟨_, _, rfl, (hall i _ _ hx hy).keep h2, fun H2 e2 => ⟨_, rfl, iteF ⟨e2 _ _ h1, h2.trans e2⟩⟩⟩
      · exact ⟨D, _, rfl, .inl (SqL.of hh.1), rfl, q H' hh.2⟩
    rcases hh with ⟨a, b⟩ | ⟨a, b⟩
    · have h1 : TyN H (V.ref p) "list" := .inl ⟨rfl, _, a⟩
      have hh : TyN H (V.ref r) "list" := .inl ⟨rfl, _, b⟩
      refine ⟨_, rfl, ⟨_, _, _, _, false, rfl, .ty _, tyx hh, kit_ty (by decide +kernel), _, rfl, iteF ⟨_, rfl, ⟨_, _, _, _, true, rfl, .ty _, tyx hh, kit_ty (by decide +kernel), _, rfl, iteT ?_⟩⟩⟩⟩
      refine ⟨_, rfl, ⟨_, _, _, _, false, rfl, .ty _, tyx hh, kit_ty (by decide +kernel), _, rfl, ⟨_, _, _, _, false, rfl, .ty _, tyx h1, kit_ty (by decide +kernel), rfl, _, rfl, iteF ?_⟩⟩⟩
      refine ⟨_, rfl, ⟨_, _, _, _, true, rfl, .ty _, tyx hh, kit_ty (by decide +kernel), _, rfl, ⟨_, _, _, _, true, rfl, .ty _, tyx h1, kit_ty (by decide +kernel), rfl, _, rfl, iteF ?_⟩⟩⟩
      refine ⟨_, rfl, p, _, rfl, .inl (SqL.of a), _, rfl, r, _, rfl, .inl (SqL.of b), rfl, _, rfl, ?_⟩
      rw [hl, decide_eq_true rfl]
      exact iteF (seq (.inl (SqL.of a)) (.inl (SqL.of b)))
    · have h1 : TyN H (V.ref p) "tuple" := .inr (.inl ⟨rfl, _, a⟩)
      have hh : TyN H (V.ref r) "tuple" := .inr (.inl ⟨rfl, _, b⟩)
      refine ⟨_, rfl, ⟨_, _, _, _, true, rfl, .ty _, tyx hh, kit_ty (by decide +kernel), _, rfl, iteT (iteT ?_)⟩⟩
      refine ⟨_, rfl, ⟨_, _, _, _, true, rfl, .ty _, tyx hh, kit_ty (by decide +kernel), _, rfl, ⟨_, _, _, _, true, rfl, .ty _, tyx h1, kit_ty (by decide +kernel), rfl, _, rfl, iteF ?_⟩⟩⟩
      refine ⟨_, rfl, ⟨_, _, _, _, false, rfl, .ty _, tyx hh, kit_ty (by decide +kernel), _, rfl, ⟨_, _, _, _, false, rfl, .ty _, tyx h1, kit_ty (by decide +kernel), rfl, _, rfl, iteF ?_⟩⟩⟩
      refine ⟨_, rfl, p, _, rfl, .inr (SqT.of a), _, rfl, r, _, rfl, .inr (SqT.of b), rfl, _, rfl, ?_⟩
      rw [hl, decide_eq_true rfl]
      exact iteF (seq (.inr (SqT.of a)) (.inr (SqT.of b)))
theorem ok_same {f : Addr} {fd : FuncData} (F : Fun K "_law_same" "_law_same" sSame f fd) (B : Blt mg) (bR : Binds K fd ["actual", "due"] []) (mR : mg "_law_same" = some (.ref f)) : ∀ n : Nat, FnOk P w K mg base CX0 n f fd ["actual", "due"] (spSame n)
  | 0 => none_left fun vs H Q E h => by
    obtain ⟨x, y, _, h, _⟩ := h
    exact h
  | n + 1 => ok_same1 F B (ok_same F B bR mR n) bR mR
end
end Cf
namespace Cf
open PySem L2
abbrev sPool : Stmt := top 7
def spPool (K : PySem.W.Frag) : Sp := fun vs H Q _ => ∃ (a : Addr) (ns : List Int), vs = [.ref a] ∧ SqL K H a (ns.map V.int) ∧ ns.length ≤ 63 ∧ ∀ (p b : Addr) (H' : Hp), PoolAt H' p b → Same H H' → H p = none → Q (.ref p) H'
section
variable {P : Program} {w : World} {K : PySem.W.Frag} {mg : Str → Option Value} {base : Heap}
theorem scPool : FnScope ["script", "salt", "cell"] ["script"] (defScope sPool) := ⟨rfl, rfl, rfl, by decide +kernel, rfl, by decide +kernel, by decide +kernel⟩
theorem ok_pool {f : Addr} {fd : FuncData} (F : Fun K "_law_pool" "_law_pool" sPool f fd) (B : Blt mg) : FnOk P w K mg base CX0 1 f fd ["script"] (spPool K) := by
  refine F.ok scPool (fun vs H Q E h => ?_) (fun cdv A outer s H vs Q E hr h => ?_)
  · obtain ⟨a, ns, rfl, _⟩ := h
    rfl
  obtain ⟨a, ns, rfl, hS, hl, q⟩ := h
  have nd := scPool.nd
  refine ⟨_, pss_cons (ps_set (i := 1) nd rfl (.inl rfl) pe_int)
    (pss_cons (ps_for PassesOwn.never rfl (pi_list (pe_slice sl_list (pv 0) po_none (po_some pe_int))) (pg_name (i := 2) nd rfl (.inl rfl))
      (pss_one (ps_set (i := 1) nd rfl (.inl rfl) (pe_op op_mod (pe_callTy call_int1 (by rfl) B.int (by decide +kernel) (pa_cons (pe_op op_add (pe_op op_mul (pv 1) pe_int) (pv 2)) pa_nil)) pe_int))))
    (pss_one (ps_ret (pe_lst (pa_cons (pe_callTy call_list_of (by rfl) B.list (by decide +kernel) (pa_cons (pv 0) pa_nil)) (pa_cons pe_int (pa_cons pe_int (pa_cons pe_int (pa_cons (pv 1) pa_nil))))))))), ?_⟩
  refine ⟨_, rfl, 63, rfl, a, _, rfl, hS, fun p np => ?_⟩
  have sm := same_new np (HO.lst (cutV (ns.map V.int) none (some 63)))
  have hsub : ∀ v ∈ cutV (ns.map V.int) none (some 63), ∃ i : Int, v = .int i := fun v hv => by
    have h1 := List.mem_of_mem_drop (List.mem_of_mem_take hv)
    obtain ⟨i, _, e⟩ := List.mem_map.mp h1
    exact ⟨i, e.symm⟩
  refine ⟨p, rfl, ⟨_, SqL.of upd_same⟩, ?_⟩
  refine for_list (xs := cutV (ns.map V.int) none (some 63)) (fun i σ H' => H' = upd H p (.lst (cutV (ns.map V.int) none (some 63))) ∧ ∃ (t : Int) (c : Option V), σ = [some (.ref a), some (.int t), c])
    ⟨rfl, _, _, rfl⟩ (fun i σ H' _ hp => by rw [hp.1]; exact SqL.of upd_same) (fun i x σ H' hx hp => ?_) (fun σ H' hp => ?_)
  · obtain ⟨rfl, t, c, rfl⟩ := hp
    obtain ⟨i, rfl⟩ := hsub x (List.mem_of_getElem? hx)
    refine ⟨_, rfl, _, _, rfl, rfl, .inr ⟨by decide, by decide⟩, _, rfl, _, _, rfl, rfl, .inl ⟨_, rfl, _, _, rfl, rfl, (by show (0 : Int) < _; decide), ?_⟩⟩
    exact ⟨rfl, _, _, rfl⟩
  · obtain ⟨rfl, t, c, rfl⟩ := hp
    refine ⟨_, rfl, a, _, rfl, .inl (sm.seq hS), fun l nl => ?_⟩
    refine ⟨_, rfl, (by show 5 ≤ sizeLine; decide), fun m nm => ?_⟩
    have s2 := sm.trans ((same_new nl (HO.lst (ns.map V.int))).trans (same_new nm (HO.lst [.ref l, .int 0, .int 0, .int 0, .int t])))
    refine q m l _ ⟨ns, 0, 0, 0, t, upd_same, ?_, hl, Int.le_refl 0⟩ s2 ((sm.trans (same_new nl (HO.lst (ns.map V.int)))).free nm)
    rw [upd_ne (ne_of_none upd_same nm), upd_same]
end
end Cf
namespace Cr
open PySem PySem.Spec PyProof.Rows L2
/-! list.extend by a tuple -/
theorem ext_tup (l b : Addr) (items items2 : Array Value) (n n2 : Nat) (od : Option Addr) (sl : Array (Option Value)) (h0 : ¬(!items.isEmpty && Builtin.List.listTooLong (items.size + items2.size)) = true)
    (h1 : items.size ≤ sizeLine) (h2 : (items ++ items2).size ≤ sizeLine + 1) :
    Meets (Builtin.«list.extend» ⟨[.ref l, .ref b], []⟩) (fun _ R s =>
      s.heap.get? l = some { cls := .type "list", dict := none, data := .seq items n, slots := #[] } ∧
      s.heap.get? b = some ⟨.type "tuple", od, .seq items2 n2, sl⟩ ∧
      R (.ok (.ret Value.none)) { s with heap := s.heap.update l (Obj.mapSeq fun x => x ++ items2), toks := s.toks }) :=
  .of_wp fun prog w A R s h => by
    obtain ⟨hp, g, d, tk, os⟩ := s
    obtain ⟨hl, hb, h⟩ := h
    have f1 := AutoSeq1.idx_int
    have f2 := AutoSeq1.sub_tuple_tuple
    have f3 := AutoSeq1.sub_list_list
    have f4 := AutoSeq1.sub_tuple_list
    have f5 := AutoSeq1.sub_list_tuple
    wp_walk using (wpAny_updateSeq hl rfl (hz := h1) (_hz' := h2)), AutoSeq1.wpAny_loadPart' hl, AutoSeq1.wpAny_loadPart' hb
    exact ⟨_, rfl, h⟩
def rExtT (K : PySem.W.Frag) : V → List V → Hp → VK → Prop := fun x vs H Q => ∃ (l b : Addr) (xs zs : List V), x = .ref l ∧ vs = [.ref b] ∧ H l = some (.lst xs) ∧ H b = some (.tup zs) ∧ xs.length + zs.length ≤ sizeLine ∧ Q .non (upd H l (.lst (xs ++ zs)))
theorem mt_extT {X : Cx} : MtM X "list.extend" (rExtT X.K) := by
  intro pins s σ H x vs v us Q I rx rv ⟨l, b, xs, zs, ex, evs, hL, hB, hz, q⟩
  subst ex evs
  obtain rfl : v = Value.ref l := rx
  obtain ⟨u, rfl, ru⟩ := rv.one
  obtain rfl : u = Value.ref b := ru
  obtain ⟨z1, i1, n1, r1, len1, e1⟩ := I.lstM hL
  obtain ⟨z2, i2, r2, ob, e2, c2, n2, d2⟩ := (show ObjOk X.prog X.w H s.heap b (.tup zs) from I.hok b _ hB)
  obtain ⟨oc, od, dt, sl⟩ := ob
  simp only at c2 d2
  subst c2 d2
  have len2 := r2.length
  have hh : (i1.toArray ++ i2.toArray).size ≤ sizeLine := by rw [Array.size_append, List.size_toArray, List.size_toArray]; omega
  have h0 : ¬(!i1.toArray.isEmpty && Builtin.List.listTooLong (i1.toArray.size + i2.toArray.size)) = true := by
    rw [notLongL (by rw [← Array.size_append]; exact hh), Bool.and_false]
    exact Bool.false_ne_true
  refine call_meets F.slot_list_extend ⟨_, e1, rfl⟩ F.entry_list_extend (F.args_list_extend_2 _ _)
    (ext_tup l b i1.toArray i2.toArray n1 n2 od sl h0 (by rw [List.size_toArray]; omega) (by omega)) ⟨e1, e2, ?_⟩
  exact ⟨.non, _, I.lset (its' := i1 ++ i2) hL e1 (by simp) (r1.append r2) (by rw [List.length_append]; exact hz), rfl, q⟩
/-! t[::-1] and t[:0:-1] of a tuple -/
theorem back_adjust {hi : Option Int} {k n : Nat} (h : (hi = none ∧ k = 0) ∨ (hi = some 0 ∧ k = 1 ∧ 0 < n)) : Builtin.Slice.sliceAdjust none hi (-1) (n : Int) = ((n : Int) - 1, (k : Int) - 1) := by
  rcases h with ⟨rfl, rfl⟩ | ⟨rfl, rfl, h⟩
  · rfl
  · have e : ¬ ((0 : Int) < 0) := by decide
    show ((n : Int) - 1, if (0 : Int) < 0 then max (0 + (n : Int)) (-1) else min 0 ((n : Int) - 1)) = _
    rw [if_neg e]
    exact Prod.ext rfl (by show min 0 ((n : Int) - 1) = ((1 : Nat) : Int) - 1; omega)
theorem back_places (k n : Nat) : Builtin.Slice.slicePlaces ((n : Int) - 1) ((k : Int) - 1) (-1) = n - k := by
  have e : ¬ ((-1 : Int) > 0) := by decide
  unfold Builtin.Slice.slicePlaces
  rw [if_neg e]
  by_cases h : (n : Int) - 1 > (k : Int) - 1
  · rw [if_pos h]
    show (((n : Int) - 1 - ((k : Int) - 1) - 1) / 1 + 1).toNat = n - k
    rw [Int.ediv_one]
    omega
  · rw [if_neg h]
    show 0 = n - k
    omega
theorem back_pick (xs : Array Value) (k : Nat) : ∀ c : Nat, c ≤ xs.size - k → (List.range c).filterMap (fun (m : Nat) => xs[((xs.size : Int) - 1 + (m : Int) * (-1)).toNat]?) = ((xs.toList.drop k).reverse).take c
  | 0, _ => by simp
  | c + 1, h => by
    have hl : (xs.toList.drop k).length = xs.size - k := by rw [List.length_drop, Array.length_toList]
    have e : ((xs.size : Int) - 1 + (c : Int) * (-1)).toNat = xs.size - 1 - c := by omega
    rw [List.range_succ, List.filterMap_append, back_pick xs k c (by omega), List.take_add_one, List.getElem?_reverse (by omega), List.getElem?_drop, hl]
    have e2 : k + (xs.size - k - 1 - c) = xs.size - 1 - c := by omega
    rw [e2, Array.getElem?_toList]
    congr 1
    rw [List.filterMap_cons, e]
    cases xs[xs.size - 1 - c]? <;> rfl
section
variable {prog : Program} {w : World} {A : Around} {E : Value → Shared → Prop} {s : Shared}
theorem applied_back {sl : Addr} {vl vu vs : Value} {hi : Option Int} {n k : Nat} {Q : Int × Int × Nat → Shared → Prop} (hs : s.heap.IsSliceOf sl vl vu vs) (pl : IsPart vl none) (pu : IsPart vu hi) (ps : IsPart vs (some (-1)))
    (hk : (hi = none ∧ k = 0) ∨ (hi = some 0 ∧ k = 1 ∧ 0 < n)) (h : Q ((n : Int) - 1, -1, n - k) s) : wpAny (model prog w) A (Builtin.Slice.sliceApplied (.ref sl) (pure (n : Int))) Q E s := by
  obtain ⟨ob, hob, _, hd⟩ := id hs
  unfold Builtin.Slice.sliceApplied Builtin.Slice.sliceFields
  have f2 : ∀ {R : Value × Value × Value → Shared → Prop}, R (vl, vu, vs) s → wpAny (model prog w) A (do return (← field (.ref sl) 0, ← field (.ref sl) 1, ← field (.ref sl) 2)) R E s := fun hR =>
    wpAny_bind (wpAny_field hob hd (x := vl) rfl (wpAny_bind (wpAny_field hob hd (x := vu) rfl (wpAny_bind (wpAny_field hob hd (x := vs) rfl (wpAny_pure hR))))))
  refine wpAny_bind (f2 (wpAny_bind (HT.slicePart_ ps ?_)))
  show wpAny _ _ (if ((-1 : Int) == 0) = true then _ else _) _ _ s
  rw [if_neg (by decide)]
  refine wpAny_bind (HT.slicePart_ pl (wpAny_bind (HT.slicePart_ pu (wpAny_bind (wpAny_pure ?_)))))
  show wpAny _ _ (match Builtin.Slice.sliceAdjust none hi (-1) (n : Int) with | (lo, up) => pure (lo, (-1 : Int), Builtin.Slice.slicePlaces lo up (-1))) _ _ s
  rw [back_adjust hk]
  show wpAny _ _ (pure ((n : Int) - 1, (-1 : Int), Builtin.Slice.slicePlaces ((n : Int) - 1) ((k : Int) - 1) (-1))) _ _ s
  rw [back_places]
  exact wpAny_pure h
theorem item_back {t sl : Addr} {items : Array Value} {vl vu vs : Value} {hi : Option Int} {k : Nat} {Q : Value → Shared → Prop} (ht : IsTup s.heap t items) (hs : s.heap.IsSliceOf sl vl vu vs) (pl : IsPart vl none) (pu : IsPart vu hi) (ps : IsPart vs (some (-1)))
    (hk : (hi = none ∧ k = 0) ∨ (hi = some 0 ∧ k = 1 ∧ 0 < items.size)) (hz : items.size ≤ sizeLine)
    (h : Q (.ref s.heap.objs.size) { s with heap := s.heap.push { cls := .type "tuple", data := .seq ((items.toList.drop k).reverse).toArray } }) : wpAny (model prog w) A (getItem (.ref t) (.ref sl)) Q E s := by
  obtain ⟨ob, hob, hc, _⟩ := id hs
  have isl : s.TypeIs (.ref sl) "slice" := ⟨ob, hob, hc⟩
  have room : sizeOk (.seq ((items.toList.drop k).reverse).toArray) := by
    show ((items.toList.drop k).reverse).toArray.size ≤ sizeLine
    rw [List.size_toArray, List.length_reverse, List.length_drop, Array.length_toList]
    omega
  unfold getItem
  try with_reducible refine wpAny_holding ?_
  first | refine wpAny_bind (wpAny_pure ?_) | skip
  refine wpAny_bind (wpAny_sequenceKey ht.typeIs (by decide) (wpAny_bind ?_))
  refine wpAny_callSpecial?_slot (name := Str.ofString "__getitem__") ht.typeIs PyProof.Rows.slot_tuple_getitem ?_
  refine wpAny_call_entry PyProof.Rows.slot_tuple_getitem ht.typeIs entry_tuple_getitem ?_ (args_tuple_getitem _ _)
  show wpAny _ _ (Builtin.Tuple.tupleItemsOf (.ref t) >>= _) _ _ s
  refine wpAny_bind (tupleItemsOf_ ht (wpAny_bind (wpAny_typeOf isl ?_)))
  rw [if_pos (by decide)]
  refine wpAny_bind (applied_back hs pl pu ps hk ?_)
  have hno : ¬ ((((items.size : Int) - 1 == 0) && ((-1 : Int) == 1) && (items.size - k == items.size)) = true) := by
    rw [show ((-1 : Int) == 1) = false by decide, Bool.and_false, Bool.false_and]
    exact Bool.false_ne_true
  show wpAny _ _ (if (((items.size : Int) - 1 == 0) && ((-1 : Int) == 1) && (items.size - k == items.size)) = true then _ else _) _ _ s
  have hp := back_pick items k (items.size - k) (Nat.le_refl _)
  rw [List.take_of_length_le (by rw [List.length_reverse, List.length_drop, Array.length_toList]; exact Nat.le_refl _)] at hp
  rw [if_neg hno, hp]
  first
    | exact wpAny_bind (m := Builtin.Tuple.tupleExact _) (wpAny_newObj_type (wpAny_pure ⟨_, rfl, wpAny_pure h⟩) room)
    | exact wpAny_bind (m := Builtin.Tuple.tupleExact _) (wpAny_newObj_type (wpAny_bind (wpAny_pure (wpAny_pure ⟨_, rfl, wpAny_pure h⟩))) room)
    | exact wpAny_bind (wpAny_bind (m := Builtin.Tuple.tupleExact _) (wpAny_newObj_type (wpAny_pure (wpAny_pure ⟨_, rfl, wpAny_pure h⟩)) room))
    | exact wpAny_bind (wpAny_bind (m := Builtin.Tuple.tupleExact _) (wpAny_newObj_type (wpAny_pure ⟨_, rfl, wpAny_pure h⟩) room))
end
section
variable {X : Cx}
/-- t[:hi:-1], hi left out or 0: k items at the front are left out, the rest backwards -/
def tBack (K : PySem.W.Frag) (te : TE) (tu : TO) : TE := fun σ H Q => te σ H fun x H1 => tu σ H1 fun u H2 => ∃ (a : Addr) (xs : List V) (k : Nat), x = .ref a ∧ SqT K H2 a xs ∧ ((u = none ∧ k = 0) ∨ (u = some 0 ∧ k = 1 ∧ 0 < xs.length)) ∧
  ∀ p, H2 p = none → Q (.ref p) (upd H2 p (.tup (xs.drop k).reverse))
theorem pe_back {e : Expr} {hi : Option Expr} {te : TE} {tu : TO} {kk : Nat} {p1 p2 p3 pos : Pos} (he : PE X e te) (hu : PO X hi tu) :
    PE X (.Subscript e (.Slice none hi (some (.UnaryOp .USub (.Constant (.int 1) kk p1) p2)) p3) pos) (tBack X.K te tu) := by
  refine ⟨fun pins s0 σ H0 Q I0 h => Subscript_ (thn (he.run pins s0 σ H0 _ I0 h) fun v s1 ⟨x, H1, I1, rx, q1⟩ => ?_)⟩
  have hst : PO X (some (.UnaryOp .USub (.Constant (.int 1) kk p1) p2)) (tPart (tUn (rU fun i => .int (-i)) (tC (.int 1)))) := po_some (pe_un un_neg pe_int)
  refine wpAny_Slice (thn (po_none.run pins s1 σ H1 (fun o G => o = none ∧ G = H1) I1 ⟨rfl, rfl⟩) fun vl s2 ⟨o1, G, I2, pl, eo, eG⟩ => ?_)
  subst eo eG
  refine thn (hu.run pins s2 σ G _ I2 q1) fun vu s3 ⟨u, G2, I3, pu, q2⟩ => ?_
  refine thn (hst.run pins s3 σ G2 (fun o G => o = some (-1) ∧ G = G2) I3 ⟨1, rfl, -1, rfl, rfl, rfl⟩) fun vs s4 ⟨o2, G3, I4, ps, eo2, eG2⟩ => ?_
  subst eo2 eG2
  obtain ⟨a, xs, k, ex, hx, hk, q⟩ := q2
  subst ex
  obtain rfl : v = Value.ref a := rx
  have I5 : Inv X pins σ G3 { s4 with heap := s4.heap.push { cls := .type "slice", data := .fields #[vl, vu, vs] } } := I4.kept (t' := s4.toks) fun b ob q => Heap.get?_push_of_some _ q
  obtain ⟨its, r, ht, hz⟩ := I5.tuple hx
  have hlen := r.length
  show wpAny (model X.prog X.w) X.A (subscriptTail e (.Slice none hi (some (.UnaryOp .USub (.Constant (.int 1) kk p1) p2)) p3) (.ref a) (.ref s4.heap.objs.size)) (EP X pins σ Q) X.xe _
  refine tail_any (ops := [.ref a, .ref s4.heap.objs.size]) ht.typeIs PyProof.Rows.slot_tuple_getitem.lookup ?_ (by with_unfolding_all rfl)
  refine item_back (k := k) ht (Heap.IsSliceOf.new _ vl vu vs) pl pu ps ?_ (by rw [List.size_toArray]; omega) ?_
  · rcases hk with h | ⟨h1, h2, h3⟩
    · exact .inl h
    · exact .inr ⟨h1, h2, by rw [List.size_toArray]; omega⟩
  refine ⟨.ref _, _, I5.laid (t' := s4.toks) (o := .tup (xs.drop k).reverse) (fun b ob q => Heap.get?_push_of_some _ q) (Nat.le_refl _) ?_, rfl, q _ (I5.hok.fresh (Nat.le_refl _))⟩
  exact ⟨by rw [List.length_reverse, List.length_drop]; omega, _, (r.drop k).reverse, IsTup.new _ _⟩
end
end Cr
namespace Cr
open PySem PySem.Spec PyProof.Rows L2
section
variable {J : It} {n : Nat} {G : Hp → Prop} {Y : Nat → Hp → V → Hp → Prop}
/-- a dict comprehension over a walk: what holds (Pv) by the turn and the heap, the new dict at D within it -/
theorem dc_it (walk : Walk J n G Y) {g : TG} {tt : TT} {tk tv : TE} {vs : List Nat} {σ : L2.St} {H1 : Hp} {D : Addr} {Qd : Hp → Prop} (Pv : Nat → Hp → Prop) (start : Pv 0 (upd H1 D (.dK []))) (stays : ∀ i H, i ≤ n → Pv i H → G H)
    (turn : ∀ i x H H', i < n → Pv i H → Y i H x H' → g x (wipe σ vs) H' fun σ2 H2 => wipe σ2 vs = wipe σ vs ∧ tt σ2 H2 fun b H3 =>
      if b = true then tk σ2 H3 fun y H4 => tv σ2 H4 fun z H5 => ∃ kvs k, y = kV k ∧ H5 D = some (.dK kvs) ∧ kvs.length < sizeLine ∧ Pv (i + 1) (upd H5 D (.dK (putK kvs k z))) else Pv (i + 1) H3) (fin : ∀ H, Pv n H → Qd H) :
    ∃ W : Nat → Nat → Hp → Prop, (∃ m, W 0 m (upd H1 D (.dK []))) ∧ ∀ i m H, W i m H →
      (J.stop i H ∧ Qd H) ∨ (J.go i H ∧ ∃ Nx : Hp → Prop, (∀ H', Nx H' → ∃ m', m' < m ∧ W (i + 1) m' H') ∧ ∀ x H', J.yld i H x H' → g x (wipe σ vs) H' fun σ2 H2 => wipe σ2 vs = wipe σ vs ∧ tt σ2 H2 fun b H3 =>
        if b = true then tk σ2 H3 fun y H4 => tv σ2 H4 fun z H5 => ∃ kvs k, y = kV k ∧ H5 D = some (.dK kvs) ∧ kvs.length < sizeLine ∧ Nx (upd H5 D (.dK (putK kvs k z))) else Nx H3) := by
  refine ⟨fun i m G' => (i ≤ n ∧ m = n - i) ∧ Pv i G', ⟨n, ⟨Nat.zero_le _, rfl⟩, start⟩, fun i m G' hw => ?_⟩
  obtain ⟨⟨hi, rfl⟩, p⟩ := hw
  have st := stays i G' hi p
  rcases Nat.lt_or_ge i n with hlt | hge
  · exact .inr ⟨walk.goes i G' hlt st, Pv (i + 1), fun H' p' => ⟨n - (i + 1), by omega, ⟨hlt, rfl⟩, p'⟩, fun x H' y => turn i x G' H' hlt p (walk.yields i G' x H' hlt st y)⟩
  · obtain rfl : i = n := by omega
    exact .inl ⟨walk.stops G' st, fin G' p⟩
end
/-- how many different ints are in a list -/
def many (ns : List Int) : Nat := (firstMet (fun i => ns.getD i 0) ns.length).length
section
variable {X : Cx}
def tSize (K : PySem.W.Frag) (ta : TE) : TE := fun σ H Q => ta σ H fun x H1 => ∃ (l : Addr) (ns : List Int), x = .ref l ∧ SqL K H1 l (ns.map V.int) ∧ ns.length ≤ 4000 ∧ Q (.int (many ns : Nat)) H1
/-- len(set(xs)), xs a list of ints -/
theorem pe_lenSet {e : Expr} {ta : TE} {p p2 q pos : Pos} (gl : Gl X "len") (ml : X.mg "len" = none) (gs : Gl X "set") (ms : X.mg "set" = none) (ha : PE X e ta) (hc : X.calm = true := by rfl)
    (na : starEach [e] X.env = (false, eval e X.env) :: starEach [] X.env := by rfl) : PE X (.Call (.Name "len" p) [.Call (.Name "set" p2) [e] [] q] [] pos) (tSize X.K ta) := by
  refine ⟨fun pins s σ H Q I h => Call_ (ld_blt I gl ml boot_len (PyProof.Rows.callWith_builtin1 (PyProof.Rows.args_cons (Call_ (ld_blt I gs ms boot_set ?_)) rfl) rfl rfl))⟩
  refine PyProof.Rows.callWith_type1 (PyProof.Rows.args_cons (thn (ha.run pins s σ H _ I h) fun v s1 ⟨x, H1, I1, r1, q1⟩ => PyProof.Rows.args_nil ?_) na) na rfl
  obtain ⟨l, ns, ex, hq, hl, q1⟩ := q1
  subst ex
  obtain rfl : v = Value.ref l := r1
  obtain ⟨its, r, pl, hz⟩ := I1.list hq
  have es : its.toArray.size = ns.length := by rw [List.size_toArray, ← r.length, List.length_map]
  refine call_set_list (I1.ok.hd hc) pl.isList (by simpa using RZ.intsAre_vals r) (by rw [es]; unfold scanBound; omega) fun h' tk hS hk => PyProof.Rows.args_nil ?_
  rw [es] at hS
  obtain ⟨o, en, ep, t, ho, hex, hd, _, _, _, hf, hn⟩ := hS
  have lm := firstMet_length_le (fun i => ns.getD i 0) ns.length
  refine call_len_set ho hex hd hf (by rw [hn]; omega) ⟨.int (many ns : Nat), H1, (I1.kept (t' := tk) fun b o e => hk b o (Heap.lt_size e) e).tok _, ⟨_, by rw [hn]; rfl⟩, q1⟩
end
end Cr
namespace Cr
open PySem PySem.Spec PyProof.Rows L2
/-! the law's own frame stands outside every repr; repr of nested data -/
def RunsG (P : Program) (w : World) (K : PySem.W.Frag) (mg : Str → Option Value) (base : Heap) (k : Nat) (f : Addr) (fd : FuncData) (ps : List Str) (sp : Sp) : Prop :=
  ∀ (A : Around) (outer : List Env) (s : Shared) (H : Hp) (args : Args) (us : List Value) (vs : List V) (Q : VK) (E : XK), A.guards = some [] → Room k A → Env0 P w K mg base A outer s H → BindsTo s fd args (ps.zip us) → Vals vs us → sp vs H Q E →
    codeAny (model P w) A (.call (.ref f) args) (CR CX0 outer P w H s Q E) s
section
variable {P : Program} {w : World} {K : PySem.W.Frag} {mg : Str → Option Value} {base : Heap}
theorem fn_g {k : Nat} {x qual : Str} {st : Stmt} {f : Addr} {fd : FuncData} {N ps : List Str} {sp : Sp} (F : Fun K x qual st f fd) (S : FnScope N ps (defScope st)) (len : ∀ vs H Q E, sp vs H Q E → vs.length = ps.length)
    (body : ∀ (cdv : Value) (A : Around) (outer : List Env) (s : Shared) (H : Hp) (vs : List V) (Q : VK) (E : XK), A.guards = some [] → Room k (A.deeper (envOfC qual (defScope st) s.heap.objs.size f cdv)) → sp vs H Q E →
      ∃ t, PSs (cxOf CX0 P w K mg base N qual (defScope st) f cdv A outer s H E).nox (defBody st) t ∧ t { nx := fun _ H' => Q .non H', rt := Q } (start N vs) H) : RunsG P w K mg base (k + 1) f fd ps sp := by
  obtain ⟨oc, od, kV, doc, pm, an, cdv, ct, osl, rfl, lk, hcd⟩ := F.ex
  intro A outer s H args us vs Q E hg hr env bind rel hsp
  have n1 := len _ _ _ _ hsp
  have kin : K.In s.heap := env.mod.kin.keeps fun c u z => (env.bs c u z).1
  have nol : s.heap.NoLimit := env.mod.nolimit.keeps fun c u z => (env.bs c u z).1
  have kinds : ∀ y ∈ ps.zip us, (defScope st).names.lookup y.1 = some .local ∨ ((defScope st).names.lookup y.1 = some .cell ∧ ((cellsFrom (s.heap.objs.size + 1) (defScope st).names []).lookup y.1).isSome = true) := by
    rintro ⟨n, v⟩ hy
    rcases S.par n (List.of_mem_zip hy).1 with z | z
    · exact Or.inl z
    · exact Or.inr ⟨z, PySem.W.cellsFrom_some _ _ _ (Or.inl z)⟩
  refine codeAny_call_function hr.depth (kin _ _ lk) rfl S.co S.gen rfl (PySem.W.codeRec_of kin hcd) (bind _ _ _ _ (wpAny_newFunctionEnv_cells S.kind kinds fun e1 h1 t1 y => ?_))
  subst h1
  refine ⟨nol.keeps y.toInCall.keep, codeAny_func ?_⟩
  obtain ⟨t, ht, hq⟩ := body cdv A outer s H vs Q E hg (hr.deeper _) hsp
  have inv0 : Inv (cxOf CX0 P w K mg base N qual (defScope st) f cdv A outer s H E) [] (start N vs) H t1 := inv_start S hr.hd env n1 rel y
  refine wpAny_mono (ht.nox.run [] t1 (start N vs) H _ inv0 hq) (fun fl s' z => ?_) fun e s' z => z
  cases fl with
  | ret u =>
    obtain ⟨v, σ', H', J, rv, q⟩ := z
    exact ⟨v, H', J.os, J.bare, J.base, J.hok, rv, q⟩
  | next =>
    obtain ⟨σ', H', J, q⟩ := z
    exact ⟨V.non, H', J.os, J.bare, J.base, J.hok, rfl, q⟩
  | brk => exact z.elim fun _ z => z.elim fun _ z => z.2.elim
  | cont => exact z.elim fun _ z => z.elim fun _ z => z.2.elim
end
/-- the call of the law by the claim's caller -/
theorem law_g {P : Program} {w : World} {K : PySem.W.Frag} {mg mb : Str → Option Value} {k : Nat} {fa a : Addr} {fd : FuncData} {x : Str} {sp : Sp} {t : Shared} {us : List Value} {ns : List Int} (kin : K.In t.heap) (main : t.heap.Ns mainGlobals mg) (blt : t.heap.Ns builtinsNs mb)
    (boot : ∀ y : Str, y ≠ "__name__" → mb y = bootBuiltins y) (nol : t.heap.NoLimit) (gens : t.gens = #[]) (scr : t.heap.get? a = some { cls := .type "list", data := .seq us.toArray }) (nums : IntsAre us ns) (short : ns.length ≤ sizeLine) (room : Room k callerA)
    (F : ∀ base : Heap, K.In base → base.Ns mainGlobals mg → RunsG P w K mg base k fa fd [x] sp) (bind : ∀ (s : Shared) (u : Value), BindsTo s fd ⟨[u], []⟩ [(x, u)]) (say : ∀ H : Hp, Only H → SqL K H a (ns.map V.int) → sp [.ref a] H (fun v _ => v = .bl true) fun _ _ _ => False) :
    codeAny (model P w) callerA (.call (.ref fa) ⟨[.ref a], []⟩) (fun r s' => r = .ok (.ret (.bool true)) ∧ OldK t.heap s'.heap ∧ s'.os = t.os ∧ AllBare s'.gens) t := by
  have vals := vals_ints nums
  have main1 : ∀ H : Hp, Only H → SqL K H a (ns.map V.int) → HOk P w H t.heap → (∀ c, H c ≠ none → c = a) → (H a ≠ none → K.lookup a = none) →
      codeAny (model P w) callerA (.call (.ref fa) ⟨[.ref a], []⟩) (fun r s' => r = .ok (.ret (.bool true)) ∧ OldK t.heap s'.heap ∧ s'.os = t.os ∧ AllBare s'.gens) t := by
    intro H only seq ok just noK
    have free : ∀ {c : Addr} {o : Obj} {es : Array DictEntry} {ep : Nat}, t.heap.get? c = some o → o.data = .dict es ep → H c = none := by
      intro c o es ep e d
      cases z : H c with
      | none => rfl
      | some u =>
        obtain rfl : c = a := just c (by rw [z]; exact Option.some_ne_none u)
        rw [scr] at e
        cases e
        exact absurd (show Data.seq us.toArray _ = Data.dict es ep from d) (by intro y; cases y)
    have ns2 : ∀ {c : Addr} {m : Str → Option Value}, t.heap.Ns c m → (hidT t.heap H).Ns c m := by
      rintro c m ⟨o, es, ep, e, d, r⟩
      exact ⟨o, es, ep, hidT_get e (free e d), d, r⟩
    have kin2 : K.In (hidT t.heap H) := by
      intro c o e
      refine hidT_get (kin c o e) ?_
      cases z : H c with
      | none => rfl
      | some u =>
        obtain rfl : c = a := just c (by rw [z]; exact Option.some_ne_none u)
        rw [noK (by rw [z]; exact Option.some_ne_none u)] at e
        cases e
    have mod : Mod K mg (hidT t.heap H) := ⟨kin2, ns2 main, ⟨mb, ns2 blt, boot⟩, by obtain ⟨mc, y1, y2⟩ := nol; exact ⟨mc, ns2 y1, y2⟩⟩
    have env : Env0 P w K mg (hidT t.heap H) callerA [] t H := ⟨rfl, mod, fun c o e => of_hidT e, Nat.le_of_eq (hidT_size _ _), trivial, fun c hc => absurd (show c ∈ ([] : List Addr) from hc) (by simp), ok, .of_eq gens⟩
    refine codeAny_mono (F _ kin2 (ns2 main) callerA [] t H ⟨[.ref a], []⟩ [.ref a] [.ref a] _ _ rfl room env (bind t (.ref a)) (.cons rfl .nil) (say H only seq)) fun r s' z => ?_
    match r, z with
    | .error e, z => exact False.elim z
    | .ok .next, z => exact False.elim z
    | .ok .brk, z => exact False.elim z
    | .ok .cont, z => exact False.elim z
    | .ok (.ret u), z =>
      obtain ⟨v, H', os, bare, un, ok', rv, q⟩ := z
      cases (show v = .bl true from q)
      cases (show u = Value.bool true from rv)
      refine ⟨rfl, OldK.of_keep fun c o e => ?_, os, bare⟩
      cases z : H c with
      | none => exact un.keep c o e z (fun y => absurd (show c ∈ ([] : List Addr) from y) (by simp)) (by simp)
      | some u =>
        rcases only c with y | ⟨oc, xs, y⟩
        · rw [z] at y
          cases y
        · obtain ⟨y1, _⟩ := ok c _ y
          obtain ⟨y2, _⟩ := ok' c _ (un.frzs c oc _ y)
          rw [e] at y1
          cases y1
          exact y2
  cases hk : K.lookup a with
  | some o =>
    have e := kin a o hk
    rw [scr] at e
    cases e
    refine main1 (fun _ => none) (fun _ => Or.inl rfl) (.inr ⟨_, us.toArray, _, hk, rfl, rfl, rfl, by rw [List.size_toArray, nums.length]; exact short, by simpa using vals⟩) (fun c u z => ?_) (fun c z => absurd rfl z) fun z => absurd rfl z
    exact absurd (show (none : Option HO) = some u from z) (by intro y; cases y)
  | none =>
    refine main1 (upd (fun _ => none) a (.frz { cls := .type "list", data := .seq us.toArray } (.lst (ns.map V.int)))) (fun c => ?_) (.inl (.inr ⟨{ cls := .type "list", data := .seq us.toArray }, upd_same⟩)) (fun c u z => ?_) (fun c z => ?_) fun _ => hk
    · by_cases e : c = a
      · subst e
        exact Or.inr ⟨_, _, upd_same⟩
      · exact Or.inl (upd_ne e)
    · by_cases e : c = a
      · subst e
        cases upd_same.symm.trans z
        exact ⟨scr, by rw [List.length_map]; exact short, us, _, vals, scr⟩
      · cases (upd_ne e).symm.trans z
    · by_cases e : c = a
      · exact e
      · exact absurd (upd_ne e) z
theorem walk_g {l : PySem.W.OpenLaw} {n k : Nat} {q : Program} {loose : List Str} {XP : (Str → Option Value) → Heap → Prop} {YP : World → Heap → Prop} {d : DefRec} {K : Params → PySem.W.Frag} {sp : World → Sp} {x : Str} (hn : l.most = some n) (hn2 : n ≤ sizeLine) (hdf : d.params.defaults = []) (room : Room k callerA)
    (hY : ∀ (w : World) (h : Heap), YP w h → (K w.params).In h)
    (F : ∀ (w : World) (mg : Str → Option Value) (fa : Addr) (h : Heap), (K w.params).In h → h.Ns mainGlobals mg → mg d.name = some (.ref fa) → ∃ fd : FuncData, (∀ (s : Shared) (u : Value), BindsTo s fd ⟨[u], []⟩ [(x, u)]) ∧
      ∀ base : Heap, (K w.params).In base → base.Ns mainGlobals mg → RunsG l.prog w (K w.params) mg base k fa fd [x] (sp w))
    (say : ∀ (w : World) (H : Hp) (a : Addr) (ns : List Int), ns.length ≤ n → Only H → SqL (K w.params) H a (ns.map V.int) → sp w [.ref a] H (fun v _ => v = .bl true) fun _ _ _ => False) : PySem.W.WalkO q loose XP YP l.row.toRowW d [] (fun f vs => PySem.call f vs) := by
  refine Att.attach_call hn hdf fun w _ t mg mb fa o pm cd doc a us ns G Y ho hd hcd hmg hobj hints hlen hg => ?_
  obtain ⟨fd, bind, run⟩ := F w mg fa _ (hY w _ Y) G.T.g hmg
  exact law_g (hY w _ Y) G.T.g G.T.b G.T.builtins G.T.nolimit hg hobj hints (Nat.le_trans hlen hn2) room run bind fun H only seq => say w H a ns hlen only seq
section
open PySem.Builtin PySem.Builtin.List
variable {prog : Program} {w : World} {A : Around} {E : Value → Shared → Prop} {s : Shared}
/-- repr of a list that has items -/
theorem repr_list {a : Addr} {o : Obj} {x : Value} {l : List Value} {n : Nat} {ds : List PyData} {as : List Addr} {Q : Value → Shared → Prop} (ho : s.heap.get? a = some o) (hc : o.cls = .type "list") (hd : o.data = .seq (x :: l).toArray n) (rs : ReadsAll s.heap (x :: l) ds as)
    (hs : PyData.showableAll ds = true) (hsm : sysModules ∉ as) (hz : (listText (PyData.shownAll ds)).length ≤ sizeLine) (hg : A.guards = some []) (hu : A.units + 1 + (PyData.depthAll ds + 1) < cLine)
    (q : ∀ h' u tk, (∀ b o, s.heap.get? b = some o → h'.get? b = some o) → Q (.str (listText (PyData.shownAll ds)) u) { s with heap := h', toks := tk }) : wpAny (model prog w) A (call (.builtin "repr") [.ref a]) Q E s := by
  obtain ⟨bs, hb, hk⟩ := ReprAllK.of_readsAll (prog := prog) (w := w) rs hs (fun _ => hsm) (fun t ht => Nat.le_trans (listText_mem_le ht) hz)
  have r : Reads s.heap (.ref a) (.list ds) (a :: as) := .list ho hc hd (by simpa using rs)
  have hna : a ∉ bs := not_mem_of_deeper r (by simp only [PyData.depth]; omega) hb
  have ty : s.TypeIs (.ref a) "list" := ⟨o, ho, hc⟩
  refine Calls.call_function_entry PySem.F.kind_repr PySem.F.plain_repr PySem.F.entry_repr (PySem.F.args_repr1 _) ?_
  unfold Builtin.«repr»
  refine wpAny_bind (m := oneArg "repr" _) (wpAny_pure ?_)
  refine wpAny_bind (wpAny_cRoomFor (by show A.units + 1 < cLine; omega) ?_)
  refine wpAny_bind (wpAny_specialOf (name := Str.ofString "__repr__") ty PySem.F.slot_list_repr.lookup ?_)
  rw [if_neg (by simp)]
  refine wpAny_bind (m := callSpecialIfBound? (.ref a) (Str.ofString "__repr__") _) (wpAny_callSpecialIfBound?_slot (name := Str.ofString "__repr__") ty PySem.F.slot_list_repr
    (call_list_reprK ho hc hd hna (by simpa using hk.length_eq) (fun i y e => hk.item i y (by simpa using e)) (show A.in1.guards = some [] from hg) (fun b _ => Clear.nil b) (by show A.units + 1 + _ < cLine; exact hu) (fun _ _ e => e) (fun h' u tk k => ?_) hz))
  refine wpAny_bind (wpAny_isInstance (typeIs_str _ _ _) isSubtype_str_str ?_)
  exact wpAny_pure ⟨_, rfl, q h' u tk k⟩
end
end Cr
namespace Cf
open PySem L2
mutual
def Tm.size : Tm → Nat
  | .var _ => 1
  | .node _ ps => 1 + Tm.sizes ps
def Tm.sizes : List Tm → Nat
  | [] => 0
  | t :: ts => t.size + Tm.sizes ts
end
mutual
def Tm.high : Tm → Nat
  | .var _ => 1
  | .node _ ps => 1 + Tm.highs ps
def Tm.highs : List Tm → Nat
  | [] => 0
  | t :: ts => max t.high (Tm.highs ts)
end
mutual
def Tm.occ : Tm → List Int
  | .var n => [n]
  | .node _ ps => Tm.occs ps
def Tm.occs : List Tm → List Int
  | [] => []
  | t :: ts => t.occ ++ Tm.occs ts
end
theorem Tm.size_pos (t : Tm) : 0 < t.size := by
  cases t with
  | var n => exact Nat.succ_pos 0
  | node w ps => show 0 < 1 + Tm.sizes ps; omega
theorem Tm.high_pos (t : Tm) : 0 < t.high := by
  cases t with
  | var n => exact Nat.succ_pos 0
  | node w ps => show 0 < 1 + Tm.highs ps; omega
theorem Tm.sizes_append : ∀ (ts rs : List Tm), Tm.sizes (ts ++ rs) = Tm.sizes ts + Tm.sizes rs
  | [], rs => by show Tm.sizes rs = 0 + Tm.sizes rs; omega
  | t :: ts, rs => by
    show t.size + Tm.sizes (ts ++ rs) = t.size + Tm.sizes ts + Tm.sizes rs
    rw [Tm.sizes_append ts rs]; omega
theorem Tm.sizes_rev : ∀ ts : List Tm, Tm.sizes ts.reverse = Tm.sizes ts
  | [] => rfl
  | t :: ts => by
    rw [List.reverse_cons, Tm.sizes_append, Tm.sizes_rev ts]
    show Tm.sizes ts + (t.size + 0) = t.size + Tm.sizes ts
    omega
theorem Tm.sizes_len : ∀ ts : List Tm, ts.length ≤ Tm.sizes ts
  | [] => Nat.le_refl _
  | t :: ts => by
    have h := t.size_pos
    have ih := Tm.sizes_len ts
    show ts.length + 1 ≤ t.size + Tm.sizes ts
    omega
theorem Tm.occs_append : ∀ (ts rs : List Tm), Tm.occs (ts ++ rs) = Tm.occs ts ++ Tm.occs rs
  | [], rs => rfl
  | t :: ts, rs => by
    show t.occ ++ Tm.occs (ts ++ rs) = (t.occ ++ Tm.occs ts) ++ Tm.occs rs
    rw [Tm.occs_append ts rs, List.append_assoc]
mutual
theorem Tm.occ_len : ∀ t : Tm, t.occ.length ≤ t.size
  | .var n => Nat.le_refl _
  | .node w ps => by
    have h := Tm.occs_len ps
    show (Tm.occs ps).length ≤ 1 + Tm.sizes ps
    omega
theorem Tm.occs_len : ∀ ts : List Tm, (Tm.occs ts).length ≤ Tm.sizes ts
  | [] => Nat.le_refl _
  | t :: ts => by
    have h := Tm.occ_len t
    have h2 := Tm.occs_len ts
    show (t.occ ++ Tm.occs ts).length ≤ t.size + Tm.sizes ts
    rw [List.length_append]
    omega
end
theorem TmsAt.last {H : Hp} : ∀ {us : List V} {v : V} {ts : List Tm}, TmsAt H (us ++ [v]) ts → ∃ rs t, ts = rs ++ [t] ∧ TmsAt H us rs ∧ TmAt H v t
  | [], v, _, h => by
    cases h with
    | cons h1 h2 => cases h2; exact ⟨[], _, rfl, .nil, h1⟩
  | u :: us, v, _, h => by
    cases h with
    | cons h1 h2 =>
      obtain ⟨rs, t, rfl, a, b⟩ := TmsAt.last h2
      exact ⟨_ :: rs, t, rfl, .cons h1 a, b⟩
theorem TmsAt.rev {H : Hp} : ∀ {vs : List V} {ts : List Tm}, TmsAt H vs ts → TmsAt H vs.reverse ts.reverse
  | [], _, h => by cases h; exact .nil
  | v :: vs, _, h => by
    cases h with
    | cons h1 h2 =>
      rw [List.reverse_cons, List.reverse_cons]
      exact (TmsAt.rev h2).snoc h1
theorem cut1 (x : V) (vs : List V) : cutV (x :: vs) (some 1) none = vs := by
  unfold cutV
  have e : HT.sIx (x :: vs).length 0 (some 1) = 1 := by
    show (if (1 : Int) < 0 then ((1 : Int) + ((vs.length + 1 : Nat) : Int)).toNat else min (1 : Int).toNat (vs.length + 1)) = 1
    rw [if_neg (by decide)]
    show min 1 (vs.length + 1) = 1
    omega
  rw [e, HT.sIx_none]
  show vs.take (vs.length + 1 - 1) = vs
  rw [Nat.add_sub_cancel, List.take_length]
theorem notWhole (x : V) (vs : List V) : ¬ (HT.sIx (x :: vs).length 0 (some 1) = 0 ∧ HT.sIx (x :: vs).length (x :: vs).length none = (x :: vs).length) := by
  intro h
  have e : HT.sIx (x :: vs).length 0 (some 1) = 1 := by
    show (if (1 : Int) < 0 then ((1 : Int) + ((vs.length + 1 : Nat) : Int)).toNat else min (1 : Int).toNat (vs.length + 1)) = 1
    rw [if_neg (by decide)]
    show min 1 (vs.length + 1) = 1
    omega
  omega
theorem pop_at (us : List V) (v : V) : (us ++ [v])[(us ++ [v]).length - 1]? = some v := by
  rw [List.length_append]
  show (us ++ [v])[us.length + 1 - 1]? = some v
  rw [Nat.add_sub_cancel, List.getElem?_append_right (Nat.le_refl _), Nat.sub_self]
  rfl
theorem last_cases (vs : List V) : vs = [] ∨ ∃ us v, vs = us ++ [v] := by
  rcases List.eq_nil_or_concat vs with h | ⟨us, v, h⟩
  · exact .inl h
  · exact .inr ⟨us, v, by rw [h, List.concat_eq_append]⟩
def spSize : Sp := fun vs H Q _ => ∃ (v : V) (t : Tm), vs = [v] ∧ TmAt H v t ∧ t.size ≤ 1000 ∧ ∀ H', Same H H' → Q (nV t.size) H'
section
variable {P : Program} {w : World} {K : PySem.W.Frag} {mg : Str → Option Value} {base : Heap}
end
end Cf
namespace Cf
open PySem L2
/-- the different ones, in the order in which they come first -/
def addNew (acc : List Int) (n : Int) : List Int := if n ∈ acc then acc else acc ++ [n]
def firsts (ns : List Int) : List Int := ns.foldl addNew []
theorem firsts_take {ns : List Int} {i : Nat} {n : Int} (h : ns[i]? = some n) : firsts (ns.take (i + 1)) = addNew (firsts (ns.take i)) n := by
  unfold firsts
  rw [List.take_add_one, h, List.foldl_append]
  rfl
theorem addNew_len (acc : List Int) (n : Int) : (addNew acc n).length ≤ acc.length + 1 := by
  unfold addNew
  split
  · exact Nat.le_succ _
  · rw [List.length_append]; exact Nat.le_refl _
theorem firsts_len (ns : List Int) : (firsts ns).length ≤ ns.length := by
  have h : ∀ (ns acc : List Int), (ns.foldl addNew acc).length ≤ acc.length + ns.length := by
    intro ns
    induction ns with
    | nil => intro acc; exact Nat.le_refl _
    | cons n r ih =>
      intro acc
      have h1 := ih (addNew acc n)
      have h2 := addNew_len acc n
      show (r.foldl addNew (addNew acc n)).length ≤ acc.length + (r.length + 1)
      omega
  have e := h ns []
  rw [List.length_nil, Nat.zero_add] at e
  exact e
theorem keys_new {kvs : List (Key × V)} {acc : List Int} (h : kvs.map (·.1) = acc.map Sum.inl) (n : Int) (v : V) : (putK kvs (Sum.inl n : Key) v).map (·.1) = (addNew acc n).map Sum.inl := by
  unfold putK addNew
  by_cases hn : n ∈ acc
  · have e : (kvs.any fun kv => decide (kv.1 = (Sum.inl n : Key))) = true := by
      have hm : (Sum.inl n : Key) ∈ kvs.map (·.1) := by rw [h]; exact List.mem_map.mpr ⟨n, hn, rfl⟩
      obtain ⟨kv, h1, h2⟩ := List.mem_map.mp hm
      exact List.any_eq_true.mpr ⟨kv, h1, decide_eq_true h2⟩
    rw [if_pos e, if_pos hn, List.map_map, ← h]
    refine List.map_congr_left fun kv _ => ?_
    show (if kv.1 = (Sum.inl n : Key) then (kv.1, v) else kv).1 = kv.1
    split <;> rfl
  · have e : ¬ (kvs.any fun kv => decide (kv.1 = (Sum.inl n : Key))) = true := fun z => by
      obtain ⟨kv, h1, h2⟩ := List.any_eq_true.mp z
      have hm : (Sum.inl n : Key) ∈ acc.map Sum.inl := by rw [← h]; exact List.mem_map.mpr ⟨kv, h1, of_decide_eq_true h2⟩
      obtain ⟨m, h3, h4⟩ := List.mem_map.mp hm
      cases h4
      exact hn h3
    rw [if_neg e, if_neg hn, List.map_append, List.map_append, h]
    rfl
def spOcc : Sp := fun vs H Q _ => ∃ (p : Addr) (us : List V) (ts : List Tm), vs = [.ref p] ∧ H p = some (.tup us) ∧ TmsAt H us ts ∧ Tm.sizes ts ≤ 1000 ∧
  ∀ (q : Addr) (H' : Hp), H q = none → H' q = some (.lst ((Tm.occs ts).map V.int)) → Same H H' → Q (.ref q) H'
def spVarsIn : Sp := fun vs H Q _ => ∃ (p : Addr) (us : List V) (ts : List Tm), vs = [.ref p] ∧ H p = some (.tup us) ∧ TmsAt H us ts ∧ Tm.sizes ts ≤ 1000 ∧
  ∀ (q : Addr) (H' : Hp), H q = none → H' q = some (.lst ((firsts (Tm.occs ts)).map V.int)) → Same H H' → Q (.ref q) H'
def spVars : Sp := fun vs H Q _ => ∃ (v : V) (t : Tm), vs = [v] ∧ TmAt H v t ∧ t.size ≤ 1000 ∧
  ∀ (q : Addr) (H' : Hp), H q = none → H' q = some (.lst ((firsts t.occ).map V.int)) → Same H H' → Q (.ref q) H'
def spLinear : Sp := fun vs H Q _ => ∃ (v : V) (t : Tm), vs = [v] ∧ TmAt H v t ∧ t.size ≤ 1000 ∧
  ∀ H', Same H H' → Q (.bl (decide (Cr.many t.occ = t.occ.length))) H'
section
variable {P : Program} {w : World} {K : PySem.W.Frag} {mg : Str → Option Value} {base : Heap}
end
end Cf
namespace Cf
open PySem L2
theorem Tm.occs_take {ps : List Tm} {i : Nat} {t : Tm} (h : ps[i]? = some t) : Tm.occs (ps.take (i + 1)) = Tm.occs (ps.take i) ++ t.occ := by
  rw [List.take_add_one, h, Tm.occs_append]
  show _ ++ (t.occ ++ []) = _
  rw [List.append_nil]
theorem Tm.size_mem : ∀ {ps : List Tm} {t : Tm}, t ∈ ps → t.size ≤ Tm.sizes ps
  | p :: ps, t, h => by
    show t.size ≤ p.size + Tm.sizes ps
    rcases List.mem_cons.mp h with rfl | h
    · omega
    · have := Tm.size_mem h; omega
theorem Tm.high_mem : ∀ {ps : List Tm} {t : Tm}, t ∈ ps → t.high ≤ Tm.highs ps
  | p :: ps, t, h => by
    show t.high ≤ max p.high (Tm.highs ps)
    rcases List.mem_cons.mp h with rfl | h
    · omega
    · have := Tm.high_mem h; omega
theorem sum_sizes : ∀ ps : List Tm, (ps.map fun p => (p.size : Int)).sum = ((Tm.sizes ps : Nat) : Int)
  | [] => rfl
  | p :: ps => by
    rw [List.map_cons, List.sum_cons, sum_sizes ps]
    show (p.size : Int) + ((Tm.sizes ps : Nat) : Int) = ((p.size + Tm.sizes ps : Nat) : Int)
    omega
theorem max_highs {ps : List Tm} {m : Int} (h : m ∈ ps.map fun p => (p.high : Int)) (g : ∀ y ∈ ps.map (fun p => (p.high : Int)), y ≤ m) : m = ((Tm.highs ps : Nat) : Int) := by
  obtain ⟨t, ht, rfl⟩ := List.mem_map.mp h
  have h1 := Tm.high_mem ht
  have h2 : ∀ (qs : List Tm), (∀ x ∈ qs, (x.high : Int) ≤ (t.high : Int)) → Tm.highs qs ≤ t.high := by
    intro qs
    induction qs with
    | nil => intro _; exact Nat.zero_le _
    | cons q r ih =>
      intro z
      have a := z q List.mem_cons_self
      have b := ih fun x hx => z x (List.mem_cons_of_mem _ hx)
      show max q.high (Tm.highs r) ≤ t.high
      omega
  have h3 := h2 ps fun x hx => g _ (List.mem_map.mpr ⟨x, hx, rfl⟩)
  omega
theorem inV_int (n : Int) (ns : List Int) : inV (.int n) (ns.map V.int) = decide (n ∈ ns) := by
  unfold inV
  induction ns with
  | nil => rfl
  | cons m r ih =>
    rw [List.map_cons, List.any_cons, ih]
    show ((m == n) || decide (n ∈ r)) = decide (n ∈ m :: r)
    by_cases e : n = m
    · subst e; simp
    · have e' : ¬ m = n := fun z => e z.symm
      simp [e, e']
theorem flat_int (ns : List Int) : (ns.map V.int).all flatV = true := by simp [flatV]
def spLOcc (n : Nat) : Sp := fun vs H Q _ => ∃ (v : V) (t : Tm), vs = [v] ∧ TmAt H v t ∧ t.high ≤ n ∧ t.size ≤ 1000 ∧ ∀ (q : Addr) (H' : Hp), H q = none → H' q = some (.lst (t.occ.map V.int)) → Same H H' → Q (.ref q) H'
def spUnlike (K : PySem.W.Frag) : Sp := fun vs H Q _ => ∃ (p : Addr) (ns : List Int), vs = [.ref p] ∧ SqL K H p (ns.map V.int) ∧ ns.length ≤ 1000 ∧ ∀ (q : Addr) (H' : Hp), H q = none → H' q = some (.lst ((firsts ns).map V.int)) → Same H H' → Q (.ref q) H'
def spLSize (n : Nat) : Sp := fun vs H Q _ => ∃ (v : V) (t : Tm), vs = [v] ∧ TmAt H v t ∧ t.high ≤ n ∧ t.size ≤ 1000 ∧ ∀ H', Same H H' → Q (nV t.size) H'
def spLHeight (n : Nat) : Sp := fun vs H Q _ => ∃ (v : V) (t : Tm), vs = [v] ∧ TmAt H v t ∧ t.high ≤ n ∧ t.size ≤ 1000 ∧ ∀ H', Same H H' → Q (nV t.high) H'
theorem TmAt.name {H : Hp} {v : V} {t : Tm} (h : TmAt H v t) : TyN H v (match t with | .var _ => "int" | .node _ _ => "tuple") := by
  cases h with
  | var n => exact rfl
  | node h1 h2 => exact .inr (.inl ⟨rfl, _, h1⟩)
section
variable {P : Program} {w : World} {K : PySem.W.Frag} {mg : Str → Option Value} {base : Heap}
end
end Cf
namespace Cf
open PySem L2
theorem over_small {cs : List (Str × Nat)} {ns : List Int} (h : ∀ c ∈ cs, c.2 ≤ 2) : ∀ (d : Nat) (t : Tm), TmOver cs ns d t → t.size + 1 ≤ 2 ^ d ∧ t.high ≤ d
  | 0, _, o => o.elim
  | d + 1, .var n, _ => ⟨by show 1 + 1 ≤ 2 ^ (d + 1); have := Nat.pow_le_pow_right (n := 2) (by decide) (show 1 ≤ d + 1 by omega); omega, by show 1 ≤ d + 1; omega⟩
  | d + 1, .node w ps, o => by
    have h2 : ps.length ≤ 2 := h _ o.1
    have all : ∀ (qs : List Tm), (∀ p ∈ qs, TmOver cs ns d p) → Tm.sizes qs ≤ qs.length * (2 ^ d - 1) ∧ Tm.highs qs ≤ d := by
      intro qs
      induction qs with
      | nil => intro _; exact ⟨Nat.zero_le _, Nat.zero_le _⟩
      | cons p r ih =>
        intro z
        have a := over_small h d p (z p List.mem_cons_self)
        have b := ih fun x hx => z x (List.mem_cons_of_mem _ hx)
        refine ⟨?_, ?_⟩
        · show p.size + Tm.sizes r ≤ (r.length + 1) * (2 ^ d - 1)
          rw [Nat.succ_mul]
          omega
        · show max p.high (Tm.highs r) ≤ d
          omega
    have k := all ps o.2
    have k2 : ps.length * (2 ^ d - 1) ≤ 2 * (2 ^ d - 1) := Nat.mul_le_mul_right _ h2
    have k3 : 0 < 2 ^ d := Nat.pow_pos (by decide)
    refine ⟨?_, ?_⟩
    · show 1 + Tm.sizes ps + 1 ≤ 2 ^ (d + 1)
      rw [Nat.pow_succ]
      omega
    · show 1 + Tm.highs ps ≤ d + 1
      omega
theorem cutV_map (ns : List Int) (lo hi : Option Int) : ∃ ms : List Int, cutV (ns.map V.int) lo hi = ms.map V.int ∧ ms.length ≤ ns.length ∧ ∀ m ∈ ms, m ∈ ns := by
  refine ⟨(ns.drop (HT.sIx (ns.map V.int).length 0 lo)).take (HT.sIx (ns.map V.int).length (ns.map V.int).length hi - HT.sIx (ns.map V.int).length 0 lo), ?_, ?_, ?_⟩
  · unfold cutV
    rw [List.map_take, List.map_drop]
  · rw [List.length_take, List.length_drop]; omega
  · intro m hm
    exact List.mem_of_mem_drop (List.mem_of_mem_take hm)
end Cf
namespace Cf
open PySem L2
mutual
def Tm.sub (f : Int → Tm) : Tm → Tm
  | .var n => f n
  | .node w ps => .node w (Tm.subs f ps)
def Tm.subs (f : Int → Tm) : List Tm → List Tm
  | [] => []
  | t :: ts => t.sub f :: Tm.subs f ts
end
theorem Tm.subs_map (f : Int → Tm) : ∀ ts : List Tm, Tm.subs f ts = ts.map fun t => t.sub f
  | [] => rfl
  | t :: ts => congrArg (t.sub f :: ·) (Tm.subs_map f ts)
/-- a substitution stands at d: its pairs in order -/
def SubAt (H : Hp) (d : Addr) (σ : List (Int × Tm)) : Prop := ∃ kvs : List (Key × V), H d = some (.dK kvs) ∧ Paired (fun (p : Key × V) (x : Int × Tm) => p.1 = Sum.inl x.1 ∧ TmAt H p.2 x.2) kvs σ
def onv (σ : List (Int × Tm)) (n : Int) : Tm := (σ.lookup n).getD (.var n)
theorem SubAt.keep {H H' : Hp} {d : Addr} {σ : List (Int × Tm)} (h : SubAt H d σ) (e : Same H H') : SubAt H' d σ := by
  obtain ⟨kvs, h1, h2⟩ := h
  exact ⟨kvs, e _ _ h1, Paired.mapP h2 fun _ _ q => ⟨q.1, TmAt.keep (KeepT.of e) _ _ q.2⟩⟩
theorem look_pairs {H : Hp} {n : Int} : ∀ {kvs : List (Key × V)} {σ : List (Int × Tm)}, Paired (fun (p : Key × V) (x : Int × Tm) => p.1 = Sum.inl x.1 ∧ TmAt H p.2 x.2) kvs σ →
    (∃ v t, valV kvs (Sum.inl n : Key) = some v ∧ σ.lookup n = some t ∧ TmAt H v t) ∨ (valV kvs (Sum.inl n : Key) = none ∧ σ.lookup n = none)
  | _, _, .nil => .inr ⟨rfl, rfl⟩
  | (k, v) :: kvs, (m, t) :: σ, .cons h r => by
    obtain ⟨h1, h2⟩ := h
    have hk : k = Sum.inl m := h1
    subst hk
    by_cases e : n = m
    · subst e
      exact .inl ⟨v, t, valV_pos rfl, by rw [List.lookup_cons, beq_self_eq_true], h2⟩
    · have e1 : ¬ (Sum.inl m : Key) = Sum.inl n := fun z => e (Sum.inl.inj z).symm
      have e2 : (n == m) = false := beq_eq_false_iff_ne.mpr e
      have e3 : valV ((Sum.inl m, v) :: kvs) (Sum.inl n : Key) = valV kvs (Sum.inl n : Key) := valV_neg e1
      have e4 : ((m, t) :: σ).lookup n = σ.lookup n := by rw [List.lookup_cons, e2]
      rw [e3, e4]
      exact look_pairs r
theorem SubAt.look {H : Hp} {d : Addr} {σ : List (Int × Tm)} (h : SubAt H d σ) (n : Int) : ∃ kvs, H d = some (.dK kvs) ∧
    ((∃ v t, valV kvs (Sum.inl n : Key) = some v ∧ σ.lookup n = some t ∧ TmAt H v t) ∨ (valV kvs (Sum.inl n : Key) = none ∧ σ.lookup n = none)) := by
  obtain ⟨kvs, h1, h2⟩ := h
  exact ⟨kvs, h1, look_pairs h2⟩
abbrev sSubst : Stmt := top 1
def spSubst (n : Nat) : Sp := fun vs H Q _ => ∃ (v : V) (t : Tm) (x : Addr × List (Int × Tm)), vs = [v, .ref x.1] ∧ TmAt H v t ∧ t.high ≤ n ∧ t.size ≤ 1000 ∧ SubAt H x.1 x.2 ∧ ∀ (v' : V) (H' : Hp), TmAt H' v' (t.sub (onv x.2)) → Same H H' → Q v' H'
section
variable {P : Program} {w : World} {K : PySem.W.Frag} {mg : Str → Option Value} {base : Heap}
theorem scSubst : FnScope ["term", "substitution", "part"] ["term", "substitution"] (defScope sSubst) := ⟨rfl, rfl, rfl, by decide +kernel, rfl, by decide +kernel, by decide +kernel⟩
theorem ok_Subst1 {n : Nat} {f : Addr} {fd : FuncData} (F : Fun K "substituted" "substituted" sSubst f fd) (B : Blt mg) (R : FnOk P w K mg base CX0 (n + 0) f fd ["term", "substitution"] (spSubst n)) (bR : Binds K fd ["term", "substitution"] []) (mR : mg "substituted" = some (.ref f)) :
    FnOk P w K mg base CX0 (n + 1) f fd ["term", "substitution"] (spSubst (n + 1)) := by
  have kR := F.kp
  refine F.ok scSubst (fun vs H Q E h => ?_) (fun cdv A outer s H vs Q E hr h => ?_)
  · obtain ⟨v, t, x, rfl, _⟩ := h
    rfl
  obtain ⟨v, t, x, rfl, ht, hh, hz, hx, q⟩ := h
  have nd := scSubst.nd
  have hu := hu_of hr
  refine ⟨_, pss_cons (ps_if (pt_cmpR op_isTy (pe_callTy RZ.call_type4 (by rfl) B.type (by decide +kernel) (pa_cons (pv 0) pa_nil)) (pe_bltn (v := .ty "int") (by rfl) B.int (by decide +kernel) rfl) (nomark _)) (pss_one (ps_ret (pe_dget2 hu (pv 1) (pv 0) (pv 0) ⟨rfl, rfl, rfl, rfl⟩))) pss_nil)
    (pss_one (ps_ret (pe_op op_catA (pe_tup (pa_cons (pe_ix ix_tup (pv 0) pe_int (fun _ _ => rfl)) pa_nil)) (pe_callTy call_tuple_of (by rfl) B.tuple (by decide +kernel) (pa_cons
      (pe_lc (own := [("part", 2)]) (g := gName 2) (tt := tYes) rfl nd (pi_tup (pe_slice sl_tup (pv 0) (po_some pe_int) po_none)) (blkOk_by (N := ["term", "substitution", "part"]) (sc := defScope sSubst) (by decide +kernel))
        (fun _ _ _ _ _ => pg_name (i := 2) nd rfl (.inl rfl)) (fun _ _ _ _ _ => pts_nil) (fun _ _ _ _ _ => pe_call R hr rfl mR kR bR .nil pass0 (pa_cons (pv 2) (pa_cons (pv 1) pa_nil)))) pa_nil))))), ?_⟩
  cases ht with
  | var m =>
    refine ⟨_, rfl, _, _, rfl, .int m, _, _, rfl, rfl, _, rfl, ite2 (fun _ => ?_) (fun c => absurd rfl (of_decide_eq_false (Bool.eq_false_iff.mpr c)))⟩
    obtain ⟨kvs, hd, hl⟩ := hx.look m
    refine ⟨_, rfl, x.1, rfl, .inl ⟨kvs, .inl hd⟩, _, rfl, _, rfl, _, DGet.k (k := Sum.inl m) hd, ?_⟩
    rcases hl with ⟨v, t, e1, e2, e3⟩ | ⟨e1, e2⟩
    · rw [e1]
      refine q v H ?_ (Same.refl H)
      show TmAt H v ((x.2.lookup m).getD (.var m))
      rw [e2]
      exact e3
    · rw [e1]
      refine q (.int m) H ?_ (Same.refl H)
      show TmAt H _ ((x.2.lookup m).getD (.var m))
      rw [e2]
      exact .var m
  | @node z w vs ps h1 h2 =>
    refine ⟨_, rfl, _, _, rfl, .tup h1, _, _, rfl, rfl, _, rfl, ite2 (fun c => absurd (of_decide_eq_true c) (by decide)) (fun _ => ?_)⟩
    have e1 : Tm.high (.node w ps) = 1 + Tm.highs ps := rfl
    have e2 : Tm.size (.node w ps) = 1 + Tm.sizes ps := rfl
    have lv := h2.length
    have lps := Tm.sizes_len ps
    refine ⟨_, rfl, _, _, _, _, rfl, rfl, SqT.of h1, at_of (j := 0) rfl rfl, (by show 1 ≤ sizeLine; decide), fun u nu => ?_⟩
    have s0 := same_new nu (HO.tup [V.str w])
    have h1' := s0 _ _ h1
    refine ⟨_, rfl, 1, rfl, z, _, rfl, SqT.of h1', notWhole _ _, fun d nd' => ?_⟩
    rw [cut1]
    have s1 := s0.trans (same_new nd' (HO.tup vs))
    refine ⟨d, rfl, ⟨_, SqT.of upd_same⟩, fun D nD => ?_⟩
    have hdD : d ≠ D := ne_of_none upd_same nD
    have hud : u ≠ d := ne_of_none upd_same nd'
    have hu0 : upd (upd H u (.tup [V.str w])) d (.tup vs) u = some (.tup [V.str w]) := by rw [upd_ne hud]; exact upd_same
    have huD : u ≠ D := ne_of_none hu0 nD
    refine lc_tup (xs := vs) (fun i H' => ∃ us : List V, H' D = some (.lst us) ∧ us.length = i ∧ TmsAt H' us ((ps.take i).map fun p => p.sub (onv x.2)) ∧ H' d = some (.tup vs) ∧ H' u = some (.tup [V.str w]) ∧ Same (upd (upd H u (.tup [V.str w])) d (.tup vs)) H')
      ⟨[], upd_same, rfl, .nil, by rw [upd_ne hdD]; exact upd_same, by rw [upd_ne huD]; exact hu0, same_new nD _⟩ (fun i H' _ hh => by obtain ⟨_, _, _, _, h, _⟩ := hh; exact SqT.of h) (fun i y H' hy hh => ?_) (fun H' hh => ?_)
    · obtain ⟨us, g1, g2, g3, g4, g5, g6⟩ := hh
      have hil : i < ps.length := by rw [← lv]; exact (List.getElem?_eq_some_iff.mp hy).1
      have hpi : ps[i]? = some ps[i] := List.getElem?_eq_getElem hil
      obtain ⟨c, hc1, hc2⟩ := h2.get hpi
      obtain rfl : y = c := Option.some.inj (hy.symm.trans hc1)
      have m1 := Tm.size_mem (List.getElem_mem hil)
      have m2 := Tm.high_mem (List.getElem_mem hil)
      have sm := s1.trans g6
      refine ⟨rfl, _, rfl, _, rfl, y, ps[i], x, rfl, TmAt.keep (KeepT.of sm) _ _ hc2, by omega, by omega, hx.keep sm, fun v' H2 hv' sm2 => ?_⟩
      have gD := sm2 _ _ g1
      have kz : KeepT H2 (upd H2 D (.lst (us ++ [v']))) := fun b xs hb => by rw [upd_ne (ne_of hb gD (by intro z; cases z))]; exact hb
      refine ⟨us, gD, small1000 (by omega), us ++ [v'], upd_same, by rw [List.length_append, g2]; rfl, ?_, kz _ _ (sm2 _ _ g4), kz _ _ (sm2 _ _ g5), ?_⟩
      · rw [List.take_add_one, hpi, List.map_append]
        exact (TmsAt.keep kz _ _ (TmsAt.keep (KeepT.of sm2) _ _ g3)).snoc (TmAt.keep kz _ _ hv')
      · exact fun b o hb => by rw [upd_ne (ne_of_none hb nD)]; exact sm2 _ _ (g6 _ _ hb)
    · obtain ⟨us, g1, g2, g3, g4, g5, g6⟩ := hh
      rw [lv, List.take_length, ← Tm.subs_map] at g3
      refine ⟨D, us, rfl, .inl ⟨SqL.of g1, fun l nl => ?_⟩⟩
      have kl := same_new nl (HO.tup us)
      have sm := s1.trans g6
      refine ⟨u, l, _, _, rfl, rfl, SqT.of (kl _ _ g5), SqT.of upd_same, ?_, fun z => (by cases z), fun _ z => ?_, fun _ z p np' => ?_⟩
      · show 1 + us.length ≤ sizeLine
        exact Nat.le_of_lt (small1000 (by omega))
      · subst z
        have hn := g3.length
        rw [List.length_nil] at hn
        have e3 : Tm.subs (onv x.2) ps = [] := List.length_eq_zero_iff.mp hn.symm
        refine q (.ref u) _ ?_ (sm.trans kl)
        show TmAt _ _ (.node w (Tm.subs (onv x.2) ps))
        rw [e3]
        exact .node (kl _ _ g5) .nil
      · have kp := kl.trans (same_new np' (HO.tup (V.str w :: us)))
        exact q (.ref p) _ (.node upd_same (TmsAt.keep (KeepT.of kp) _ _ g3)) (sm.trans kp)
theorem ok_Subst {f : Addr} {fd : FuncData} (F : Fun K "substituted" "substituted" sSubst f fd) (B : Blt mg) (bR : Binds K fd ["term", "substitution"] []) (mR : mg "substituted" = some (.ref f)) : ∀ n : Nat, FnOk P w K mg base CX0 (n + 0) f fd ["term", "substitution"] (spSubst n)
  | 0 => none_left fun vs H Q E h => by
    obtain ⟨v, t, x, _, _, h1, _⟩ := h
    have := t.high_pos
    omega
  | n + 1 => ok_Subst1 F B (ok_Subst F B bR mR n) bR mR
end
abbrev sShift : Stmt := top 3
def spShift (n : Nat) : Sp := fun vs H Q _ => ∃ (v : V) (t : Tm) (x : Int), vs = [v, .int x] ∧ TmAt H v t ∧ t.high ≤ n ∧ t.size ≤ 1000 ∧ True ∧ ∀ (v' : V) (H' : Hp), TmAt H' v' (t.sub (fun n => .var (n + x))) → Same H H' → Q v' H'
section
variable {P : Program} {w : World} {K : PySem.W.Frag} {mg : Str → Option Value} {base : Heap}
theorem scShift : FnScope ["term", "n", "part"] ["term", "n"] (defScope sShift) := ⟨rfl, rfl, rfl, by decide +kernel, rfl, by decide +kernel, by decide +kernel⟩
theorem ok_Shift1 {n : Nat} {f : Addr} {fd : FuncData} (F : Fun K "shifted" "shifted" sShift f fd) (B : Blt mg) (R : FnOk P w K mg base CX0 (n + 0) f fd ["term", "n"] (spShift n)) (bR : Binds K fd ["term", "n"] []) (mR : mg "shifted" = some (.ref f)) :
    FnOk P w K mg base CX0 (n + 1) f fd ["term", "n"] (spShift (n + 1)) := by
  have kR := F.kp
  refine F.ok scShift (fun vs H Q E h => ?_) (fun cdv A outer s H vs Q E hr h => ?_)
  · obtain ⟨v, t, x, rfl, _⟩ := h
    rfl
  obtain ⟨v, t, x, rfl, ht, hh, hz, hx, q⟩ := h
  have nd := scShift.nd
  have hu := hu_of hr
  refine ⟨_, pss_cons (ps_if (pt_cmpR op_isTy (pe_callTy RZ.call_type4 (by rfl) B.type (by decide +kernel) (pa_cons (pv 0) pa_nil)) (pe_bltn (v := .ty "int") (by rfl) B.int (by decide +kernel) rfl) (nomark _)) (pss_one (ps_ret (pe_op op_add (pv 0) (pv 1)))) pss_nil)
    (pss_one (ps_ret (pe_op op_catA (pe_tup (pa_cons (pe_ix ix_tup (pv 0) pe_int (fun _ _ => rfl)) pa_nil)) (pe_callTy call_tuple_of (by rfl) B.tuple (by decide +kernel) (pa_cons
      (pe_lc (own := [("part", 2)]) (g := gName 2) (tt := tYes) rfl nd (pi_tup (pe_slice sl_tup (pv 0) (po_some pe_int) po_none)) (blkOk_by (N := ["term", "n", "part"]) (sc := defScope sShift) (by decide +kernel))
        (fun _ _ _ _ _ => pg_name (i := 2) nd rfl (.inl rfl)) (fun _ _ _ _ _ => pts_nil) (fun _ _ _ _ _ => pe_call R hr rfl mR kR bR .nil pass0 (pa_cons (pv 2) (pa_cons (pv 1) pa_nil)))) pa_nil))))), ?_⟩
  cases ht with
  | var m =>
    refine ⟨_, rfl, _, _, rfl, .int m, _, _, rfl, rfl, _, rfl, ite2 (fun _ => ?_) (fun c => absurd rfl (of_decide_eq_false (Bool.eq_false_iff.mpr c)))⟩
    exact ⟨_, rfl, _, rfl, _, _, rfl, rfl, q (.int (m + x)) H (.var _) (Same.refl H)⟩
  | @node z w vs ps h1 h2 =>
    refine ⟨_, rfl, _, _, rfl, .tup h1, _, _, rfl, rfl, _, rfl, ite2 (fun c => absurd (of_decide_eq_true c) (by decide)) (fun _ => ?_)⟩
    have e1 : Tm.high (.node w ps) = 1 + Tm.highs ps := rfl
    have e2 : Tm.size (.node w ps) = 1 + Tm.sizes ps := rfl
    have lv := h2.length
    have lps := Tm.sizes_len ps
    refine ⟨_, rfl, _, _, _, _, rfl, rfl, SqT.of h1, at_of (j := 0) rfl rfl, (by show 1 ≤ sizeLine; decide), fun u nu => ?_⟩
    have s0 := same_new nu (HO.tup [V.str w])
    have h1' := s0 _ _ h1
    refine ⟨_, rfl, 1, rfl, z, _, rfl, SqT.of h1', notWhole _ _, fun d nd' => ?_⟩
    rw [cut1]
    have s1 := s0.trans (same_new nd' (HO.tup vs))
    refine ⟨d, rfl, ⟨_, SqT.of upd_same⟩, fun D nD => ?_⟩
    have hdD : d ≠ D := ne_of_none upd_same nD
    have hud : u ≠ d := ne_of_none upd_same nd'
    have hu0 : upd (upd H u (.tup [V.str w])) d (.tup vs) u = some (.tup [V.str w]) := by rw [upd_ne hud]; exact upd_same
    have huD : u ≠ D := ne_of_none hu0 nD
    refine lc_tup (xs := vs) (fun i H' => ∃ us : List V, H' D = some (.lst us) ∧ us.length = i ∧ TmsAt H' us ((ps.take i).map fun p => p.sub (fun n => .var (n + x))) ∧ H' d = some (.tup vs) ∧ H' u = some (.tup [V.str w]) ∧ Same (upd (upd H u (.tup [V.str w])) d (.tup vs)) H')
      ⟨[], upd_same, rfl, .nil, by rw [upd_ne hdD]; exact upd_same, by rw [upd_ne huD]; exact hu0, same_new nD _⟩ (fun i H' _ hh => by obtain ⟨_, _, _, _, h, _⟩ := hh; exact SqT.of h) (fun i y H' hy hh => ?_) (fun H' hh => ?_)
    · obtain ⟨us, g1, g2, g3, g4, g5, g6⟩ := hh
      have hil : i < ps.length := by rw [← lv]; exact (List.getElem?_eq_some_iff.mp hy).1
      have hpi : ps[i]? = some ps[i] := List.getElem?_eq_getElem hil
      obtain ⟨c, hc1, hc2⟩ := h2.get hpi
      obtain rfl : y = c := Option.some.inj (hy.symm.trans hc1)
      have m1 := Tm.size_mem (List.getElem_mem hil)
      have m2 := Tm.high_mem (List.getElem_mem hil)
      have sm := s1.trans g6
      refine ⟨rfl, _, rfl, _, rfl, y, ps[i], x, rfl, TmAt.keep (KeepT.of sm) _ _ hc2, by omega, by omega, trivial, fun v' H2 hv' sm2 => ?_⟩
      have gD := sm2 _ _ g1
      have kz : KeepT H2 (upd H2 D (.lst (us ++ [v']))) := fun b xs hb => by rw [upd_ne (ne_of hb gD (by intro z; cases z))]; exact hb
      refine ⟨us, gD, small1000 (by omega), us ++ [v'], upd_same, by rw [List.length_append, g2]; rfl, ?_, kz _ _ (sm2 _ _ g4), kz _ _ (sm2 _ _ g5), ?_⟩
      · rw [List.take_add_one, hpi, List.map_append]
        exact (TmsAt.keep kz _ _ (TmsAt.keep (KeepT.of sm2) _ _ g3)).snoc (TmAt.keep kz _ _ hv')
      · exact fun b o hb => by rw [upd_ne (ne_of_none hb nD)]; exact sm2 _ _ (g6 _ _ hb)
    · obtain ⟨us, g1, g2, g3, g4, g5, g6⟩ := hh
      rw [lv, List.take_length, ← Tm.subs_map] at g3
      refine ⟨D, us, rfl, .inl ⟨SqL.of g1, fun l nl => ?_⟩⟩
      have kl := same_new nl (HO.tup us)
      have sm := s1.trans g6
      refine ⟨u, l, _, _, rfl, rfl, SqT.of (kl _ _ g5), SqT.of upd_same, ?_, fun z => (by cases z), fun _ z => ?_, fun _ z p np' => ?_⟩
      · show 1 + us.length ≤ sizeLine
        exact Nat.le_of_lt (small1000 (by omega))
      · subst z
        have hn := g3.length
        rw [List.length_nil] at hn
        have e3 : Tm.subs (fun n => .var (n + x)) ps = [] := List.length_eq_zero_iff.mp hn.symm
        refine q (.ref u) _ ?_ (sm.trans kl)
        show TmAt _ _ (.node w (Tm.subs (fun n => .var (n + x)) ps))
        rw [e3]
        exact .node (kl _ _ g5) .nil
      · have kp := kl.trans (same_new np' (HO.tup (V.str w :: us)))
        exact q (.ref p) _ (.node upd_same (TmsAt.keep (KeepT.of kp) _ _ g3)) (sm.trans kp)
theorem ok_Shift {f : Addr} {fd : FuncData} (F : Fun K "shifted" "shifted" sShift f fd) (B : Blt mg) (bR : Binds K fd ["term", "n"] []) (mR : mg "shifted" = some (.ref f)) : ∀ n : Nat, FnOk P w K mg base CX0 (n + 0) f fd ["term", "n"] (spShift n)
  | 0 => none_left fun vs H Q E h => by
    obtain ⟨v, t, x, _, _, h1, _⟩ := h
    have := t.high_pos
    omega
  | n + 1 => ok_Shift1 F B (ok_Shift F B bR mR n) bR mR
end
abbrev sReplace : Stmt := top 15
def spReplace (n : Nat) : Sp := fun vs H Q _ => ∃ (v : V) (t : Tm) (x : Addr × List (Int × Tm)), vs = [v, .ref x.1] ∧ TmAt H v t ∧ t.high ≤ n ∧ t.size ≤ 1000 ∧ SubAt H x.1 x.2 ∧ ∀ (v' : V) (H' : Hp), TmAt H' v' (t.sub (onv x.2)) → Same H H' → Q v' H'
section
variable {P : Program} {w : World} {K : PySem.W.Frag} {mg : Str → Option Value} {base : Heap}
theorem scReplace : FnScope ["term", "given", "part"] ["term", "given"] (defScope sReplace) := ⟨rfl, rfl, rfl, by decide +kernel, rfl, by decide +kernel, by decide +kernel⟩
theorem ok_Replace1 {n : Nat} {f g : Addr} {fd gd : FuncData} (F : Fun K "_law_replace" "_law_replace" sReplace f fd) (B : Blt mg) (G : FnOk P w K mg base CX0 1 g gd ["actual"] spIsInt) (bG : Binds K gd ["actual"] [])
    (kG : PySem.W.keepIn K (.ref g) = true) (mG : mg "_law_is_integer" = some (.ref g)) (R : FnOk P w K mg base CX0 (n + 1) f fd ["term", "given"] (spReplace n)) (bR : Binds K fd ["term", "given"] []) (mR : mg "_law_replace" = some (.ref f)) :
    FnOk P w K mg base CX0 (n + 2) f fd ["term", "given"] (spReplace (n + 1)) := by
  have kR := F.kp
  refine F.ok scReplace (fun vs H Q E h => ?_) (fun cdv A outer s H vs Q E hr h => ?_)
  · obtain ⟨v, t, x, rfl, _⟩ := h
    rfl
  obtain ⟨v, t, x, rfl, ht, hh, hz, hx, q⟩ := h
  have nd := scReplace.nd
  have hu := hu_of hr
  refine ⟨_, pss_cons (ps_if (pt_val (pe_call G (hr.mono (by omega)) rfl mG kG bG .nil pass0 (pa_cons (pv 0) pa_nil))) (pss_one (ps_ret (pe_ifExp (pt_cmp (pc_din hu (pv 0) (pv 1))) (pe_dget hu (pv 1) (pv 0) (fun _ _ => rfl)) (pv 0)))) pss_nil)
    (pss_one (ps_ret (pe_op op_catA (pe_tup (pa_cons (pe_ix ix_tup (pv 0) pe_int (fun _ _ => rfl)) pa_nil)) (pe_callTy call_tuple_of (by rfl) B.tuple (by decide +kernel) (pa_cons
      (pe_lc (own := [("part", 2)]) (g := gName 2) (tt := tYes) rfl nd (pi_tup (pe_slice sl_tup (pv 0) (po_some pe_int) po_none)) (blkOk_by (N := ["term", "given", "part"]) (sc := defScope sReplace) (by decide +kernel))
        (fun _ _ _ _ _ => pg_name (i := 2) nd rfl (.inl rfl)) (fun _ _ _ _ _ => pts_nil) (fun _ _ _ _ _ => pe_call R hr rfl mR kR bR .nil pass0 (pa_cons (pv 2) (pa_cons (pv 1) pa_nil)))) pa_nil))))), ?_⟩
  cases ht with
  | var m =>
    refine ⟨_, rfl, _, "int", rfl, rfl, _, rfl, iteT ?_⟩
    obtain ⟨kvs, hd, hl⟩ := hx.look m
    refine ⟨_, rfl, _, rfl, x.1, _, rfl, DGet.k (k := Sum.inl m) hd, _, rfl, ?_⟩
    rcases hl with ⟨v, t, e1, e2, e3⟩ | ⟨e1, e2⟩
    · rw [e1]
      refine iteT ⟨_, rfl, _, rfl, x.1, v, rfl, ?_, ?_⟩
      · rw [← e1]
        exact DGet.k (k := Sum.inl m) hd
      refine q v H ?_ (Same.refl H)
      show TmAt H v ((x.2.lookup m).getD (.var m))
      rw [e2]
      exact e3
    · rw [e1]
      refine iteF ⟨_, rfl, ?_⟩
      refine q (.int m) H ?_ (Same.refl H)
      show TmAt H _ ((x.2.lookup m).getD (.var m))
      rw [e2]
      exact .var m
  | @node z w vs ps h1 h2 =>
    refine ⟨_, rfl, _, "tuple", rfl, .inr (.inl ⟨rfl, _, h1⟩), _, rfl, iteF ?_⟩
    have e1 : Tm.high (.node w ps) = 1 + Tm.highs ps := rfl
    have e2 : Tm.size (.node w ps) = 1 + Tm.sizes ps := rfl
    have lv := h2.length
    have lps := Tm.sizes_len ps
    refine ⟨_, rfl, _, _, _, _, rfl, rfl, SqT.of h1, at_of (j := 0) rfl rfl, (by show 1 ≤ sizeLine; decide), fun u nu => ?_⟩
    have s0 := same_new nu (HO.tup [V.str w])
    have h1' := s0 _ _ h1
    refine ⟨_, rfl, 1, rfl, z, _, rfl, SqT.of h1', notWhole _ _, fun d nd' => ?_⟩
    rw [cut1]
    have s1 := s0.trans (same_new nd' (HO.tup vs))
    refine ⟨d, rfl, ⟨_, SqT.of upd_same⟩, fun D nD => ?_⟩
    have hdD : d ≠ D := ne_of_none upd_same nD
    have hud : u ≠ d := ne_of_none upd_same nd'
    have hu0 : upd (upd H u (.tup [V.str w])) d (.tup vs) u = some (.tup [V.str w]) := by rw [upd_ne hud]; exact upd_same
    have huD : u ≠ D := ne_of_none hu0 nD
    refine lc_tup (xs := vs) (fun i H' => ∃ us : List V, H' D = some (.lst us) ∧ us.length = i ∧ TmsAt H' us ((ps.take i).map fun p => p.sub (onv x.2)) ∧ H' d = some (.tup vs) ∧ H' u = some (.tup [V.str w]) ∧ Same (upd (upd H u (.tup [V.str w])) d (.tup vs)) H')
      ⟨[], upd_same, rfl, .nil, by rw [upd_ne hdD]; exact upd_same, by rw [upd_ne huD]; exact hu0, same_new nD _⟩ (fun i H' _ hh => by obtain ⟨_, _, _, _, h, _⟩ := hh; exact SqT.of h) (fun i y H' hy hh => ?_) (fun H' hh => ?_)
    · obtain ⟨us, g1, g2, g3, g4, g5, g6⟩ := hh
      have hil : i < ps.length := by rw [← lv]; exact (List.getElem?_eq_some_iff.mp hy).1
      have hpi : ps[i]? = some ps[i] := List.getElem?_eq_getElem hil
      obtain ⟨c, hc1, hc2⟩ := h2.get hpi
      obtain rfl : y = c := Option.some.inj (hy.symm.trans hc1)
      have m1 := Tm.size_mem (List.getElem_mem hil)
      have m2 := Tm.high_mem (List.getElem_mem hil)
      have sm := s1.trans g6
      refine ⟨rfl, _, rfl, _, rfl, y, ps[i], x, rfl, TmAt.keep (KeepT.of sm) _ _ hc2, by omega, by omega, hx.keep sm, fun v' H2 hv' sm2 => ?_⟩
      have gD := sm2 _ _ g1
      have kz : KeepT H2 (upd H2 D (.lst (us ++ [v']))) := fun b xs hb => by rw [upd_ne (ne_of hb gD (by intro z; cases z))]; exact hb
      refine ⟨us, gD, small1000 (by omega), us ++ [v'], upd_same, by rw [List.length_append, g2]; rfl, ?_, kz _ _ (sm2 _ _ g4), kz _ _ (sm2 _ _ g5), ?_⟩
      · rw [List.take_add_one, hpi, List.map_append]
        exact (TmsAt.keep kz _ _ (TmsAt.keep (KeepT.of sm2) _ _ g3)).snoc (TmAt.keep kz _ _ hv')
      · exact fun b o hb => by rw [upd_ne (ne_of_none hb nD)]; exact sm2 _ _ (g6 _ _ hb)
    · obtain ⟨us, g1, g2, g3, g4, g5, g6⟩ := hh
      rw [lv, List.take_length, ← Tm.subs_map] at g3
      refine ⟨D, us, rfl, .inl ⟨SqL.of g1, fun l nl => ?_⟩⟩
      have kl := same_new nl (HO.tup us)
      have sm := s1.trans g6
      refine ⟨u, l, _, _, rfl, rfl, SqT.of (kl _ _ g5), SqT.of upd_same, ?_, fun z => (by cases z), fun _ z => ?_, fun _ z p np' => ?_⟩
      · show 1 + us.length ≤ sizeLine
        exact Nat.le_of_lt (small1000 (by omega))
      · subst z
        have hn := g3.length
        rw [List.length_nil] at hn
        have e3 : Tm.subs (onv x.2) ps = [] := List.length_eq_zero_iff.mp hn.symm
        refine q (.ref u) _ ?_ (sm.trans kl)
        show TmAt _ _ (.node w (Tm.subs (onv x.2) ps))
        rw [e3]
        exact .node (kl _ _ g5) .nil
      · have kp := kl.trans (same_new np' (HO.tup (V.str w :: us)))
        exact q (.ref p) _ (.node upd_same (TmsAt.keep (KeepT.of kp) _ _ g3)) (sm.trans kp)
theorem ok_Replace {f g : Addr} {fd gd : FuncData} (F : Fun K "_law_replace" "_law_replace" sReplace f fd) (B : Blt mg) (G : FnOk P w K mg base CX0 1 g gd ["actual"] spIsInt) (bG : Binds K gd ["actual"] [])
    (kG : PySem.W.keepIn K (.ref g) = true) (mG : mg "_law_is_integer" = some (.ref g)) (bR : Binds K fd ["term", "given"] []) (mR : mg "_law_replace" = some (.ref f)) : ∀ n : Nat, FnOk P w K mg base CX0 (n + 1) f fd ["term", "given"] (spReplace n)
  | 0 => none_left fun vs H Q E h => by
    obtain ⟨v, t, x, _, _, h1, _⟩ := h
    have := t.high_pos
    omega
  | n + 1 => ok_Replace1 F B G bG kG mG (ok_Replace F B G bG kG mG bR mR n) bR mR
end
abbrev sMoved : Stmt := top 16
def spMoved (n : Nat) : Sp := fun vs H Q _ => ∃ (v : V) (t : Tm) (x : Int), vs = [v, .int x] ∧ TmAt H v t ∧ t.high ≤ n ∧ t.size ≤ 1000 ∧ True ∧ ∀ (v' : V) (H' : Hp), TmAt H' v' (t.sub (fun n => .var (n + x))) → Same H H' → Q v' H'
section
variable {P : Program} {w : World} {K : PySem.W.Frag} {mg : Str → Option Value} {base : Heap}
theorem scMoved : FnScope ["term", "by", "part"] ["term", "by"] (defScope sMoved) := ⟨rfl, rfl, rfl, by decide +kernel, rfl, by decide +kernel, by decide +kernel⟩
theorem ok_Moved1 {n : Nat} {f g : Addr} {fd gd : FuncData} (F : Fun K "_law_moved" "_law_moved" sMoved f fd) (B : Blt mg) (G : FnOk P w K mg base CX0 1 g gd ["actual"] spIsInt) (bG : Binds K gd ["actual"] [])
    (kG : PySem.W.keepIn K (.ref g) = true) (mG : mg "_law_is_integer" = some (.ref g)) (R : FnOk P w K mg base CX0 (n + 1) f fd ["term", "by"] (spMoved n)) (bR : Binds K fd ["term", "by"] []) (mR : mg "_law_moved" = some (.ref f)) :
    FnOk P w K mg base CX0 (n + 2) f fd ["term", "by"] (spMoved (n + 1)) := by
  have kR := F.kp
  refine F.ok scMoved (fun vs H Q E h => ?_) (fun cdv A outer s H vs Q E hr h => ?_)
  · obtain ⟨v, t, x, rfl, _⟩ := h
    rfl
  obtain ⟨v, t, x, rfl, ht, hh, hz, hx, q⟩ := h
  have nd := scMoved.nd
  have hu := hu_of hr
  refine ⟨_, pss_cons (ps_if (pt_val (pe_call G (hr.mono (by omega)) rfl mG kG bG .nil pass0 (pa_cons (pv 0) pa_nil))) (pss_one (ps_ret (pe_op op_add (pv 0) (pv 1)))) pss_nil)
    (pss_one (ps_ret (pe_op op_catA (pe_tup (pa_cons (pe_ix ix_tup (pv 0) pe_int (fun _ _ => rfl)) pa_nil)) (pe_callTy call_tuple_of (by rfl) B.tuple (by decide +kernel) (pa_cons
      (pe_lc (own := [("part", 2)]) (g := gName 2) (tt := tYes) rfl nd (pi_tup (pe_slice sl_tup (pv 0) (po_some pe_int) po_none)) (blkOk_by (N := ["term", "by", "part"]) (sc := defScope sMoved) (by decide +kernel))
        (fun _ _ _ _ _ => pg_name (i := 2) nd rfl (.inl rfl)) (fun _ _ _ _ _ => pts_nil) (fun _ _ _ _ _ => pe_call R hr rfl mR kR bR .nil pass0 (pa_cons (pv 2) (pa_cons (pv 1) pa_nil)))) pa_nil))))), ?_⟩
  cases ht with
  | var m =>
    refine ⟨_, rfl, _, "int", rfl, rfl, _, rfl, iteT ?_⟩
    exact ⟨_, rfl, _, rfl, _, _, rfl, rfl, q (.int (m + x)) H (.var _) (Same.refl H)⟩
  | @node z w vs ps h1 h2 =>
    refine ⟨_, rfl, _, "tuple", rfl, .inr (.inl ⟨rfl, _, h1⟩), _, rfl, iteF ?_⟩
    have e1 : Tm.high (.node w ps) = 1 + Tm.highs ps := rfl
    have e2 : Tm.size (.node w ps) = 1 + Tm.sizes ps := rfl
    have lv := h2.length
    have lps := Tm.sizes_len ps
    refine ⟨_, rfl, _, _, _, _, rfl, rfl, SqT.of h1, at_of (j := 0) rfl rfl, (by show 1 ≤ sizeLine; decide), fun u nu => ?_⟩
    have s0 := same_new nu (HO.tup [V.str w])
    have h1' := s0 _ _ h1
    refine ⟨_, rfl, 1, rfl, z, _, rfl, SqT.of h1', notWhole _ _, fun d nd' => ?_⟩
    rw [cut1]
    have s1 := s0.trans (same_new nd' (HO.tup vs))
    refine ⟨d, rfl, ⟨_, SqT.of upd_same⟩, fun D nD => ?_⟩
    have hdD : d ≠ D := ne_of_none upd_same nD
    have hud : u ≠ d := ne_of_none upd_same nd'
    have hu0 : upd (upd H u (.tup [V.str w])) d (.tup vs) u = some (.tup [V.str w]) := by rw [upd_ne hud]; exact upd_same
    have huD : u ≠ D := ne_of_none hu0 nD
    refine lc_tup (xs := vs) (fun i H' => ∃ us : List V, H' D = some (.lst us) ∧ us.length = i ∧ TmsAt H' us ((ps.take i).map fun p => p.sub (fun n => .var (n + x))) ∧ H' d = some (.tup vs) ∧ H' u = some (.tup [V.str w]) ∧ Same (upd (upd H u (.tup [V.str w])) d (.tup vs)) H')
      ⟨[], upd_same, rfl, .nil, by rw [upd_ne hdD]; exact upd_same, by rw [upd_ne huD]; exact hu0, same_new nD _⟩ (fun i H' _ hh => by obtain ⟨_, _, _, _, h, _⟩ := hh; exact SqT.of h) (fun i y H' hy hh => ?_) (fun H' hh => ?_)
    · obtain ⟨us, g1, g2, g3, g4, g5, g6⟩ := hh
      have hil : i < ps.length := by rw [← lv]; exact (List.getElem?_eq_some_iff.mp hy).1
      have hpi : ps[i]? = some ps[i] := List.getElem?_eq_getElem hil
      obtain ⟨c, hc1, hc2⟩ := h2.get hpi
      obtain rfl : y = c := Option.some.inj (hy.symm.trans hc1)
      have m1 := Tm.size_mem (List.getElem_mem hil)
      have m2 := Tm.high_mem (List.getElem_mem hil)
      have sm := s1.trans g6
      refine ⟨rfl, _, rfl, _, rfl, y, ps[i], x, rfl, TmAt.keep (KeepT.of sm) _ _ hc2, by omega, by omega, trivial, fun v' H2 hv' sm2 => ?_⟩
      have gD := sm2 _ _ g1
      have kz : KeepT H2 (upd H2 D (.lst (us ++ [v']))) := fun b xs hb => by rw [upd_ne (ne_of hb gD (by intro z; cases z))]; exact hb
      refine ⟨us, gD, small1000 (by omega), us ++ [v'], upd_same, by rw [List.length_append, g2]; rfl, ?_, kz _ _ (sm2 _ _ g4), kz _ _ (sm2 _ _ g5), ?_⟩
      · rw [List.take_add_one, hpi, List.map_append]
        exact (TmsAt.keep kz _ _ (TmsAt.keep (KeepT.of sm2) _ _ g3)).snoc (TmAt.keep kz _ _ hv')
      · exact fun b o hb => by rw [upd_ne (ne_of_none hb nD)]; exact sm2 _ _ (g6 _ _ hb)
    · obtain ⟨us, g1, g2, g3, g4, g5, g6⟩ := hh
      rw [lv, List.take_length, ← Tm.subs_map] at g3
      refine ⟨D, us, rfl, .inl ⟨SqL.of g1, fun l nl => ?_⟩⟩
      have kl := same_new nl (HO.tup us)
      have sm := s1.trans g6
      refine ⟨u, l, _, _, rfl, rfl, SqT.of (kl _ _ g5), SqT.of upd_same, ?_, fun z => (by cases z), fun _ z => ?_, fun _ z p np' => ?_⟩
      · show 1 + us.length ≤ sizeLine
        exact Nat.le_of_lt (small1000 (by omega))
      · subst z
        have hn := g3.length
        rw [List.length_nil] at hn
        have e3 : Tm.subs (fun n => .var (n + x)) ps = [] := List.length_eq_zero_iff.mp hn.symm
        refine q (.ref u) _ ?_ (sm.trans kl)
        show TmAt _ _ (.node w (Tm.subs (fun n => .var (n + x)) ps))
        rw [e3]
        exact .node (kl _ _ g5) .nil
      · have kp := kl.trans (same_new np' (HO.tup (V.str w :: us)))
        exact q (.ref p) _ (.node upd_same (TmsAt.keep (KeepT.of kp) _ _ g3)) (sm.trans kp)
theorem ok_Moved {f g : Addr} {fd gd : FuncData} (F : Fun K "_law_moved" "_law_moved" sMoved f fd) (B : Blt mg) (G : FnOk P w K mg base CX0 1 g gd ["actual"] spIsInt) (bG : Binds K gd ["actual"] [])
    (kG : PySem.W.keepIn K (.ref g) = true) (mG : mg "_law_is_integer" = some (.ref g)) (bR : Binds K fd ["term", "by"] []) (mR : mg "_law_moved" = some (.ref f)) : ∀ n : Nat, FnOk P w K mg base CX0 (n + 1) f fd ["term", "by"] (spMoved n)
  | 0 => none_left fun vs H Q E h => by
    obtain ⟨v, t, x, _, _, h1, _⟩ := h
    have := t.high_pos
    omega
  | n + 1 => ok_Moved1 F B G bG kG mG (ok_Moved F B G bG kG mG bR mR n) bR mR
end
end Cf
namespace Cf
open PySem L2
/-! renaming of variables -/
mutual
theorem Tm.sub_congr {f g : Int → Tm} : ∀ t : Tm, (∀ n ∈ t.occ, f n = g n) → t.sub f = t.sub g
  | .var n, h => h n (List.mem_singleton.mpr rfl)
  | .node w ps, h => by
    show Tm.node w (Tm.subs f ps) = Tm.node w (Tm.subs g ps)
    rw [Tm.subs_congr ps h]
theorem Tm.subs_congr {f g : Int → Tm} : ∀ ts : List Tm, (∀ n ∈ Tm.occs ts, f n = g n) → Tm.subs f ts = Tm.subs g ts
  | [], _ => rfl
  | t :: ts, h => by
    show t.sub f :: Tm.subs f ts = t.sub g :: Tm.subs g ts
    rw [Tm.sub_congr t fun n hn => h n (List.mem_append_left _ hn), Tm.subs_congr ts fun n hn => h n (List.mem_append_right _ hn)]
end
def ren (r : Int → Int) : Tm → Tm := Tm.sub fun n => .var (r n)
mutual
theorem ren_sub (r : Int → Int) (g : Int → Tm) : ∀ t : Tm, (ren r t).sub g = t.sub fun n => g (r n)
  | .var n => rfl
  | .node w ps => by
    show Tm.node w (Tm.subs g (Tm.subs (fun n => .var (r n)) ps)) = Tm.node w (Tm.subs (fun n => g (r n)) ps)
    rw [rens_sub r g ps]
theorem rens_sub (r : Int → Int) (g : Int → Tm) : ∀ ts : List Tm, Tm.subs g (Tm.subs (fun n => .var (r n)) ts) = Tm.subs (fun n => g (r n)) ts
  | [] => rfl
  | t :: ts => by
    have h1 := ren_sub r g t
    have h2 := rens_sub r g ts
    show (t.sub fun n => .var (r n)).sub g :: Tm.subs g (Tm.subs (fun n => .var (r n)) ts) = _
    rw [h2]
    exact congrArg (· :: _) h1
end
mutual
theorem ren_occ (r : Int → Int) : ∀ t : Tm, (ren r t).occ = t.occ.map r
  | .var n => rfl
  | .node w ps => rens_occ r ps
theorem rens_occ (r : Int → Int) : ∀ ts : List Tm, Tm.occs (Tm.subs (fun n => .var (r n)) ts) = (Tm.occs ts).map r
  | [] => rfl
  | t :: ts => by
    have h1 := ren_occ r t
    have h2 := rens_occ r ts
    show (t.sub fun n => .var (r n)).occ ++ Tm.occs (Tm.subs (fun n => .var (r n)) ts) = (t.occ ++ Tm.occs ts).map r
    rw [h2, List.map_append]
    exact congrArg (· ++ _) h1
end
mutual
theorem ren_size (r : Int → Int) : ∀ t : Tm, (ren r t).size = t.size
  | .var n => rfl
  | .node w ps => congrArg (1 + ·) (rens_size r ps)
theorem rens_size (r : Int → Int) : ∀ ts : List Tm, Tm.sizes (Tm.subs (fun n => .var (r n)) ts) = Tm.sizes ts
  | [] => rfl
  | t :: ts => by
    have h1 := ren_size r t
    have h2 := rens_size r ts
    show (t.sub fun n => .var (r n)).size + Tm.sizes (Tm.subs (fun n => .var (r n)) ts) = t.size + Tm.sizes ts
    rw [h2]
    exact congrArg (· + _) h1
end
mutual
theorem ren_high (r : Int → Int) : ∀ t : Tm, (ren r t).high = t.high
  | .var n => rfl
  | .node w ps => congrArg (1 + ·) (rens_high r ps)
theorem rens_high (r : Int → Int) : ∀ ts : List Tm, Tm.highs (Tm.subs (fun n => .var (r n)) ts) = Tm.highs ts
  | [] => rfl
  | t :: ts => by
    have h1 := ren_high r t
    have h2 := rens_high r ts
    show max (t.sub fun n => .var (r n)).high (Tm.highs (Tm.subs (fun n => .var (r n)) ts)) = max t.high (Tm.highs ts)
    rw [h2]
    exact congrArg (fun x => max x _) h1
end
/-! the numbers 0, 1, 2, .. of the different ones of a list -/
def numFrom (k : Nat) : List Int → List (Int × Tm)
  | [] => []
  | n :: r => (n, .var (k : Int)) :: numFrom (k + 1) r
def posFrom (k : Nat) : List Int → Int → Int
  | [], n => n
  | m :: r, n => if n = m then (k : Int) else posFrom (k + 1) r n
theorem onv_num : ∀ (xs : List Int) (k : Nat) (n : Int), onv (numFrom k xs) n = .var (posFrom k xs n)
  | [], _, _ => rfl
  | m :: r, k, n => by
    have ih := onv_num r (k + 1) n
    unfold onv at ih ⊢
    show (((m, Tm.var (k : Int)) :: numFrom (k + 1) r).lookup n).getD (.var n) = .var (if n = m then (k : Int) else posFrom (k + 1) r n)
    rw [List.lookup_cons]
    by_cases e : n = m
    · subst e
      rw [beq_self_eq_true, if_pos rfl]
      rfl
    · rw [beq_eq_false_iff_ne.mpr e, if_neg e]
      exact ih
theorem numFrom_snoc : ∀ (xs : List Int) (k : Nat) (n : Int), numFrom k (xs ++ [n]) = numFrom k xs ++ [(n, .var ((k + xs.length : Nat) : Int))]
  | [], _, _ => rfl
  | m :: r, k, n => by
    show (m, Tm.var (k : Int)) :: numFrom (k + 1) (r ++ [n]) = (m, Tm.var (k : Int)) :: (numFrom (k + 1) r ++ [(n, .var ((k + (r.length + 1) : Nat) : Int))])
    rw [numFrom_snoc r (k + 1) n]
    have e : k + 1 + r.length = k + (r.length + 1) := by omega
    rw [e]
theorem pos_map {r : Int → Int} {n : Int} : ∀ (xs : List Int) (k : Nat), n ∈ xs → (∀ m ∈ xs, r n = r m → n = m) → posFrom k (xs.map r) (r n) = posFrom k xs n
  | m :: xs, k, h, inj => by
    show (if r n = r m then (k : Int) else posFrom (k + 1) (xs.map r) (r n)) = if n = m then (k : Int) else posFrom (k + 1) xs n
    by_cases e : n = m
    · subst e; rw [if_pos rfl, if_pos rfl]
    · rw [if_neg e, if_neg fun z => e (inj m List.mem_cons_self z)]
      exact pos_map xs (k + 1) ((List.mem_cons.mp h).resolve_left e) fun m' hm z => inj m' (List.mem_cons_of_mem _ hm) z
theorem pos_ge : ∀ (xs : List Int) (k : Nat) (n : Int), n ∈ xs → (k : Int) ≤ posFrom k xs n
  | m :: xs, k, n, h => by
    show (k : Int) ≤ if n = m then (k : Int) else posFrom (k + 1) xs n
    by_cases e : n = m
    · rw [if_pos e]; exact Int.le_refl _
    · rw [if_neg e]
      have := pos_ge xs (k + 1) n ((List.mem_cons.mp h).resolve_left e)
      omega
theorem pos_inj : ∀ (xs : List Int) (k : Nat) (n m : Int), n ∈ xs → m ∈ xs → posFrom k xs n = posFrom k xs m → n = m
  | x :: xs, k, n, m, hn, hm, h => by
    have h' : (if n = x then (k : Int) else posFrom (k + 1) xs n) = if m = x then (k : Int) else posFrom (k + 1) xs m := h
    by_cases e1 : n = x
    · by_cases e2 : m = x
      · rw [e1, e2]
      · rw [if_pos e1, if_neg e2] at h'
        have := pos_ge xs (k + 1) m ((List.mem_cons.mp hm).resolve_left e2)
        omega
    · by_cases e2 : m = x
      · rw [if_neg e1, if_pos e2] at h'
        have := pos_ge xs (k + 1) n ((List.mem_cons.mp hn).resolve_left e1)
        omega
      · rw [if_neg e1, if_neg e2] at h'
        exact pos_inj xs (k + 1) n m ((List.mem_cons.mp hn).resolve_left e1) ((List.mem_cons.mp hm).resolve_left e2) h'
theorem addNew_mem {acc : List Int} {n m : Int} : m ∈ addNew acc n ↔ m ∈ acc ∨ m = n := by
  unfold addNew
  by_cases h : n ∈ acc
  · rw [if_pos h]
    exact ⟨.inl, fun z => z.elim id fun e => e ▸ h⟩
  · rw [if_neg h, List.mem_append, List.mem_singleton]
theorem fold_mem : ∀ (ns acc : List Int) (m : Int), m ∈ ns.foldl addNew acc ↔ m ∈ acc ∨ m ∈ ns
  | [], acc, m => by simp
  | n :: r, acc, m => by
    show m ∈ r.foldl addNew (addNew acc n) ↔ _
    rw [fold_mem r, addNew_mem, List.mem_cons, or_assoc]
theorem firsts_mem {ns : List Int} {m : Int} : m ∈ firsts ns ↔ m ∈ ns := by
  unfold firsts
  rw [fold_mem]
  simp
theorem addNew_nd {acc : List Int} {n : Int} (h : acc.Nodup) : (addNew acc n).Nodup := by
  unfold addNew
  by_cases e : n ∈ acc
  · rw [if_pos e]; exact h
  · rw [if_neg e]
    exact List.nodup_append.mpr ⟨h, by simp, fun u hu v hv => by rw [List.mem_singleton.mp hv]; rintro rfl; exact e hu⟩
theorem fold_nd : ∀ (ns acc : List Int), acc.Nodup → (ns.foldl addNew acc).Nodup
  | [], _, h => h
  | n :: r, acc, h => fold_nd r _ (addNew_nd h)
theorem firsts_nd (ns : List Int) : (firsts ns).Nodup := fold_nd ns [] List.nodup_nil
theorem fold_map {r : Int → Int} : ∀ (ns acc : List Int), (∀ n ∈ ns, ∀ m ∈ acc ++ ns, r n = r m → n = m) → (ns.map r).foldl addNew (acc.map r) = (ns.foldl addNew acc).map r
  | [], acc, _ => rfl
  | n :: ns, acc, inj => by
    have e : addNew (acc.map r) (r n) = (addNew acc n).map r := by
      unfold addNew
      by_cases h : n ∈ acc
      · rw [if_pos h, if_pos (List.mem_map.mpr ⟨n, h, rfl⟩)]
      · rw [if_neg h, if_neg, List.map_append]
        · rfl
        · intro z
          obtain ⟨m, hm, e⟩ := List.mem_map.mp z
          exact h (inj n List.mem_cons_self m (List.mem_append_left _ hm) e.symm ▸ hm)
    show (ns.map r).foldl addNew (addNew (acc.map r) (r n)) = (ns.foldl addNew (addNew acc n)).map r
    rw [e]
    refine fold_map ns (addNew acc n) fun a ha m hm z => inj a (List.mem_cons_of_mem _ ha) m ?_ z
    rcases List.mem_append.mp hm with h | h
    · rcases addNew_mem.mp h with h | rfl
      · exact List.mem_append_left _ h
      · exact List.mem_append_right _ List.mem_cons_self
    · exact List.mem_append_right _ (List.mem_cons_of_mem _ h)
theorem firsts_map {r : Int → Int} {ns : List Int} (inj : ∀ n ∈ ns, ∀ m ∈ ns, r n = r m → n = m) : firsts (ns.map r) = (firsts ns).map r := fold_map ns [] fun n hn m hm z => inj n hn m (by simpa using hm) z
/-- terms with their variables numbered from 0 -/
def tidy (ts : List Tm) : List Tm := ts.map (ren (posFrom 0 (firsts (Tm.occs ts))))
theorem occ_sub {ts : List Tm} {t : Tm} {n : Int} (h : t ∈ ts) (hn : n ∈ t.occ) : n ∈ Tm.occs ts := by
  induction ts with
  | nil => cases h
  | cons p ps ih =>
    show n ∈ p.occ ++ Tm.occs ps
    rcases List.mem_cons.mp h with rfl | h
    · exact List.mem_append_left _ hn
    · exact List.mem_append_right _ (ih h)
theorem tidy_ren {r : Int → Int} {ts : List Tm} (inj : ∀ n ∈ Tm.occs ts, ∀ m ∈ Tm.occs ts, r n = r m → n = m) : tidy (ts.map (ren r)) = tidy ts := by
  have e : Tm.occs (ts.map (ren r)) = (Tm.occs ts).map r := by
    rw [← rens_occ, Tm.subs_map]
    rfl
  unfold tidy
  rw [e, firsts_map inj, List.map_map]
  refine List.map_congr_left fun t ht => ?_
  show (ren r t).sub (fun n => .var (posFrom 0 ((firsts (Tm.occs ts)).map r) n)) = t.sub (fun n => .var (posFrom 0 (firsts (Tm.occs ts)) n))
  rw [ren_sub]
  refine Tm.sub_congr t fun n hn => ?_
  have hm := occ_sub ht hn
  show Tm.var (posFrom 0 ((firsts (Tm.occs ts)).map r) (r n)) = Tm.var (posFrom 0 (firsts (Tm.occs ts)) n)
  rw [pos_map _ _ (firsts_mem.mpr hm) fun m hm' z => inj n hm m (firsts_mem.mp hm') z]
theorem tidy_tidy (ts : List Tm) : tidy (tidy ts) = tidy ts :=
  tidy_ren fun n hn m hm z => pos_inj _ 0 n m (firsts_mem.mpr hn) (firsts_mem.mpr hm) z
theorem tidy_subst (ts : List Tm) : (ts.map fun t => t.sub (onv (numFrom 0 (firsts (Tm.occs ts))))) = tidy ts := by
  unfold tidy ren
  refine List.map_congr_left fun t _ => Tm.sub_congr t fun n _ => onv_num _ _ _
theorem sizes_map {f : Tm → Tm} (h : ∀ t, (f t).size = t.size) : ∀ ts : List Tm, Tm.sizes (ts.map f) = Tm.sizes ts
  | [] => rfl
  | t :: ts => by
    show (f t).size + Tm.sizes (ts.map f) = t.size + Tm.sizes ts
    rw [h, sizes_map h ts]
/-- the same term twice is the same data -/
theorem eqd_tm {H : Hp} : ∀ (n : Nat) (t : Tm) (u v : V), TmAt H u t → TmAt H v t → t.high ≤ n → t.size ≤ 1000 → Eqd H (n + 1) u v
  | n, .var m, u, v, h1, h2, _, _ => by cases h1; cases h2; exact .flat rfl
  | 0, .node w ps, u, v, h1, h2, hh, _ => by
    have := Tm.high_pos (.node w ps)
    omega
  | n + 1, .node w ps, u, v, h1, h2, hh, hz => by
    cases h1 with
    | @node p _ us _ a1 b1 =>
      cases h2 with
      | @node q _ vs _ a2 b2 =>
        have e1 : Tm.high (.node w ps) = 1 + Tm.highs ps := rfl
        have e2 : Tm.size (.node w ps) = 1 + Tm.sizes ps := rfl
        have l1 := b1.length
        have l2 := b2.length
        have l3 := Tm.sizes_len ps
        refine .tup a1 a2 (by rw [List.length_cons, List.length_cons, l1, l2]) (by rw [List.length_cons]; omega) fun i x y hx hy => ?_
        match i, hx, hy with
        | 0, hx, hy => cases hx; cases hy; exact .flat rfl
        | i + 1, hx, hy =>
          have hx' : us[i]? = some x := hx
          have hy' : vs[i]? = some y := hy
          have hil : i < ps.length := by rw [← l1]; exact (List.getElem?_eq_some_iff.mp hx').1
          have hpi : ps[i]? = some ps[i] := List.getElem?_eq_getElem hil
          obtain ⟨x', k1, k2⟩ := b1.get hpi
          obtain rfl : x = x' := Option.some.inj (hx'.symm.trans k1)
          obtain ⟨y', k3, k4⟩ := b2.get hpi
          obtain rfl : y = y' := Option.some.inj (hy'.symm.trans k3)
          have m1 := Tm.size_mem (List.getElem_mem hil)
          have m2 := Tm.high_mem (List.getElem_mem hil)
          exact eqd_tm n ps[i] x y k2 k4 (by omega) (by omega)
/-- tuples of the same terms -/
theorem eqd_tms {H : Hp} {n : Nat} {p q : Addr} {us vs : List V} {ts : List Tm} (h1 : H p = some (.tup us)) (h2 : H q = some (.tup vs)) (a : TmsAt H us ts) (b : TmsAt H vs ts) (hh : ∀ t ∈ ts, t.high ≤ n) (hz : Tm.sizes ts ≤ 1000) : Eqd H (n + 2) (.ref p) (.ref q) := by
  have l1 := a.length
  have l2 := b.length
  have l3 := Tm.sizes_len ts
  refine .tup h1 h2 (by rw [l1, l2]) (by omega) fun i x y hx hy => ?_
  have hil : i < ts.length := by rw [← l1]; exact (List.getElem?_eq_some_iff.mp hx).1
  have hpi : ts[i]? = some ts[i] := List.getElem?_eq_getElem hil
  obtain ⟨x', k1, k2⟩ := a.get hpi
  obtain rfl : x = x' := Option.some.inj (hx.symm.trans k1)
  obtain ⟨y', k3, k4⟩ := b.get hpi
  obtain rfl : y = y' := Option.some.inj (hy.symm.trans k3)
  have m1 := Tm.size_mem (List.getElem_mem hil)
  exact eqd_tm n ts[i] x y k2 k4 (hh _ (List.getElem_mem hil)) (by omega)
theorem sizes_le {k : Nat} : ∀ ts : List Tm, (∀ t ∈ ts, t.size ≤ k) → Tm.sizes ts ≤ ts.length * k
  | [], _ => Nat.zero_le _
  | t :: ts, h => by
    have a := h t List.mem_cons_self
    have b := sizes_le ts fun x hx => h x (List.mem_cons_of_mem _ hx)
    show t.size + Tm.sizes ts ≤ (ts.length + 1) * k
    rw [Nat.succ_mul]
    omega
mutual
theorem over_occ {cs : List (Str × Nat)} {ns : List Int} : ∀ (t : Tm) (d : Nat), TmOver cs ns d t → ∀ n ∈ t.occ, n ∈ ns
  | .var m, d, h, n, hn => by
    cases d with
    | zero => exact h.elim
    | succ d =>
      rw [List.mem_singleton.mp hn]
      exact h
  | .node w ps, d, h, n, hn => by
    cases d with
    | zero => exact h.elim
    | succ d => exact overs_occ ps d h.2 n hn
theorem overs_occ {cs : List (Str × Nat)} {ns : List Int} : ∀ (ts : List Tm) (d : Nat), (∀ t ∈ ts, TmOver cs ns d t) → ∀ n ∈ Tm.occs ts, n ∈ ns
  | [], _, _, n, hn => by cases hn
  | t :: ts, d, h, n, hn => by
    rcases List.mem_append.mp hn with z | z
    · exact over_occ t d (h t List.mem_cons_self) n z
    · exact overs_occ ts d (fun x hx => h x (List.mem_cons_of_mem _ hx)) n z
end
end Cf
namespace Cf
open PySem L2
mutual
/-- a term as nested data -/
def Tm.data : Tm → PyData
  | .var n => .int n
  | .node w ps => .tuple (.str w :: Tm.datas ps)
def Tm.datas : List Tm → List PyData
  | [] => []
  | t :: ts => t.data :: Tm.datas ts
end
mutual
/-- a term whose words have their arities -/
def Tm.In (f : Str → Nat) : Tm → Prop
  | .var _ => True
  | .node w ps => ps.length = f w ∧ WordOk w ∧ Tm.Ins f ps
def Tm.Ins (f : Str → Nat) : List Tm → Prop
  | [] => True
  | t :: ts => t.In f ∧ Tm.Ins f ts
end
theorem Tm.ins_of {f : Str → Nat} : ∀ {ts : List Tm}, (∀ t ∈ ts, t.In f) → Tm.Ins f ts
  | [], _ => trivial
  | t :: ts, h => ⟨h t List.mem_cons_self, Tm.ins_of fun x hx => h x (List.mem_cons_of_mem _ hx)⟩
theorem Tm.ins_mem {f : Str → Nat} {t : Tm} : ∀ {ts : List Tm}, Tm.Ins f ts → t ∈ ts → t.In f
  | u :: ts, h, m => by
    rcases List.mem_cons.mp m with rfl | m
    · exact h.1
    · exact Tm.ins_mem h.2 m
theorem word_lay {w : Str} (h : WordOk w) : PyData.strOk w = true := by
  unfold PyData.strOk
  rw [Array.all_eq_true_iff_forall_mem]
  intro c hc
  have := (h.2.2 c (by simpa using hc)).2
  exact decide_eq_true (by omega)
mutual
theorem Tm.lay0 {f : Str → Nat} : ∀ t : Tm, t.In f → t.data.canLay0 = true
  | .var n, _ => by simp [Tm.data, PyData.canLay0]
  | .node w ps, h => by
    have h2 := Tm.lays0 ps h.2.2
    have h1 := word_lay h.2.1
    simp [Tm.data, PyData.canLay0, PyData.canLayAll0, h1, h2]
theorem Tm.lays0 {f : Str → Nat} : ∀ ts : List Tm, Tm.Ins f ts → PyData.canLayAll0 (Tm.datas ts) = true
  | [], _ => by simp [Tm.datas, PyData.canLayAll0]
  | t :: ts, h => by
    have h1 := Tm.lay0 t h.1
    have h2 := Tm.lays0 ts h.2
    simp [Tm.datas, PyData.canLayAll0, h1, h2]
end
mutual
theorem Tm.deep : ∀ t : Tm, t.data.depth ≤ t.high
  | .var n => by simp [Tm.data, PyData.depth]
  | .node w ps => by
    have h := Tm.deeps ps
    have e : Tm.high (.node w ps) = 1 + Tm.highs ps := rfl
    simp [Tm.data, PyData.depth, PyData.depthAll]
    omega
theorem Tm.deeps : ∀ ts : List Tm, PyData.depthAll (Tm.datas ts) ≤ Tm.highs ts
  | [] => by simp [Tm.datas, PyData.depthAll]
  | t :: ts => by
    have h1 := Tm.deep t
    have h2 := Tm.deeps ts
    have e : Tm.highs (t :: ts) = max t.high (Tm.highs ts) := rfl
    simp [Tm.datas, PyData.depthAll]
    omega
end
theorem Tm.shaped {f : Str → Nat} {t : Tm} (i : t.In f) (h : t.high ≤ 64) : SeqAt.shaped t.data = true := by
  unfold SeqAt.shaped
  rw [Tm.lay0 t i]
  have := Tm.deep t
  simp
  omega
mutual
theorem Tm.eqv : ∀ t u : Tm, PyData.eqv t.data u.data = true ↔ t = u
  | .var n, .var m => by simp [Tm.data, PyData.eqv]
  | .var n, .node w ps => by simp [Tm.data, PyData.eqv]
  | .node w ps, .var n => by simp [Tm.data, PyData.eqv]
  | .node w ps, .node x qs => by
    have h := Tm.eqvs ps qs
    simp [Tm.data, PyData.eqv, PyData.eqvAll, h]
theorem Tm.eqvs : ∀ ts us : List Tm, PyData.eqvAll (Tm.datas ts) (Tm.datas us) = true ↔ ts = us
  | [], [] => by simp [Tm.datas, PyData.eqvAll]
  | [], _ :: _ => by simp [Tm.datas, PyData.eqvAll]
  | _ :: _, [] => by simp [Tm.datas, PyData.eqvAll]
  | t :: ts, u :: us => by
    have h1 := Tm.eqv t u
    have h2 := Tm.eqvs ts us
    simp [Tm.datas, PyData.eqvAll, h1, h2]
end
mutual
theorem TmAt.dp {K : PySem.W.Frag} {H : Hp} : ∀ {v : V} {t : Tm}, TmAt H v t → Dp K H v t.data
  | _, .var n, h => by cases h; exact .int n
  | _, .node w ps, h => by
    cases h with
    | node h1 h2 => exact .tup (SqT.of h1) (.cons (.str w) (TmsAt.dp h2))
theorem TmsAt.dp {K : PySem.W.Frag} {H : Hp} : ∀ {vs : List V} {ts : List Tm}, TmsAt H vs ts → DpAll K H vs (Tm.datas ts)
  | _, [], h => by cases h; exact .nil
  | _, t :: ts, h => by
    cases h with
    | cons h1 h2 => exact .cons (TmAt.dp h1) (TmsAt.dp h2)
end
/-- two terms compared -/
theorem eq_tm {K : PySem.W.Frag} {H : Hp} {x y : V} {t u : Tm} {f : Str → Nat} {Q : VK} (hx : TmAt H x t) (hy : TmAt H y u) (i1 : t.In f) (i2 : u.In f) (h1 : t.high ≤ 64) (h2 : u.high ≤ 64) (q1 : t = u → Q (.bl true) H) (q2 : t ≠ u → Q (.bl false) H) : rEqD K x y H Q := by
  refine ⟨t.data, u.data, hx.dp, hy.dp, Tm.shaped i1 h1, Tm.shaped i2 h2, ?_⟩
  cases z : PyData.eqv t.data u.data with
  | true => exact q1 ((Tm.eqv t u).mp z)
  | false => exact q2 fun e => by rw [(Tm.eqv t u).mpr e] at z; cases z
theorem ne_tm {K : PySem.W.Frag} {H : Hp} {x y : V} {t u : Tm} {f : Str → Nat} {Q : VK} (hx : TmAt H x t) (hy : TmAt H y u) (i1 : t.In f) (i2 : u.In f) (h1 : t.high ≤ 64) (h2 : u.high ≤ 64) (q1 : t = u → Q (.bl false) H) (q2 : t ≠ u → Q (.bl true) H) : rNeD K x y H Q := by
  refine ⟨t.data, u.data, hx.dp, hy.dp, Tm.shaped i1 h1, Tm.shaped i2 h2, ?_⟩
  cases z : PyData.eqv t.data u.data with
  | true => exact q1 ((Tm.eqv t u).mp z)
  | false => exact q2 fun e => by rw [(Tm.eqv t u).mpr e] at z; cases z
end Cf
namespace Cf
open PySem L2
def keysOf (M : List (Int × Tm)) : List Int := M.map (·.1)
/-- what these pairs ask of a substitution -/
def Ext (M : List (Int × Tm)) (θ : Int → Tm) : Prop := ∀ e ∈ M, θ e.1 = e.2
def MOk (f : Str → Nat) (M : List (Int × Tm)) : Prop := (keysOf M).Nodup ∧ ∀ e ∈ M, e.2.In f ∧ e.2.high ≤ 64
/-- b: whether a pattern fits a term beside the pairs M; M' the pairs then -/
structure Fit (b : Bool) (M M' : List (Int × Tm)) (p t : Tm) : Prop where
  yes : b = true → (∀ n, n ∈ keysOf M' ↔ n ∈ keysOf M ∨ n ∈ p.occ) ∧ ∀ θ, Ext M' θ ↔ Ext M θ ∧ p.sub θ = t
  no : b = false → ∀ θ, Ext M θ → p.sub θ ≠ t
theorem snoc_inj {α : Type} {a b : List α} {x y : α} : a ++ [x] = b ++ [y] ↔ a = b ∧ x = y := by
  constructor
  · intro h
    obtain ⟨h1, h2⟩ := List.append_inj' h rfl
    exact ⟨h1, by simpa using h2⟩
  · rintro ⟨rfl, rfl⟩
    rfl
theorem look_mem {M : List (Int × Tm)} {n : Int} {t : Tm} (h : M.lookup n = some t) : (n, t) ∈ M := by
  induction M with
  | nil => cases h
  | cons e M ih =>
    obtain ⟨m, u⟩ := e
    rw [List.lookup_cons] at h
    by_cases z : n = m
    · subst z
      rw [beq_self_eq_true] at h
      cases h
      exact List.mem_cons_self
    · rw [beq_eq_false_iff_ne.mpr z] at h
      exact List.mem_cons_of_mem _ (ih h)
theorem look_no {M : List (Int × Tm)} {n : Int} (h : M.lookup n = none) : n ∉ keysOf M := by
  induction M with
  | nil => intro z; cases z
  | cons e M ih =>
    obtain ⟨m, u⟩ := e
    rw [List.lookup_cons] at h
    by_cases z : n = m
    · subst z
      rw [beq_self_eq_true] at h
      cases h
    · rw [beq_eq_false_iff_ne.mpr z] at h
      intro y
      rcases List.mem_cons.mp y with y | y
      · exact z y
      · exact ih h y
theorem look_at {M : List (Int × Tm)} {n : Int} {t : Tm} (nd : (keysOf M).Nodup) (h : (n, t) ∈ M) : M.lookup n = some t := by
  induction M with
  | nil => cases h
  | cons e M ih =>
    obtain ⟨m, u⟩ := e
    obtain ⟨n1, n2⟩ := List.nodup_cons.mp nd
    rw [List.lookup_cons]
    rcases List.mem_cons.mp h with h | h
    · cases h
      rw [beq_self_eq_true]
    · have z : ¬ n = m := fun z => n1 (z ▸ List.mem_map.mpr ⟨_, h, rfl⟩)
      rw [beq_eq_false_iff_ne.mpr z]
      exact ih n2 h
theorem ext_onv {M : List (Int × Tm)} (nd : (keysOf M).Nodup) : Ext M (onv M) := fun e he => by
  show (M.lookup e.1).getD _ = _
  rw [look_at nd (t := e.2) he]
  rfl
theorem ext_snoc {M : List (Int × Tm)} {n : Int} {t : Tm} {θ : Int → Tm} : Ext (M ++ [(n, t)]) θ ↔ Ext M θ ∧ θ n = t := by
  constructor
  · exact fun h => ⟨fun e he => h e (List.mem_append_left _ he), h (n, t) (List.mem_append_right _ (List.mem_singleton_self _))⟩
  · rintro ⟨h1, h2⟩ e he
    rcases List.mem_append.mp he with he | he
    · exact h1 e he
    · rw [List.mem_singleton.mp he]
      exact h2
theorem keys_snoc (M : List (Int × Tm)) (n : Int) (t : Tm) : keysOf (M ++ [(n, t)]) = keysOf M ++ [n] := by
  unfold keysOf
  rw [List.map_append]
  rfl
theorem MOk.snoc {f : Str → Nat} {M : List (Int × Tm)} {n : Int} {t : Tm} (h : MOk f M) (hn : M.lookup n = none) (h1 : t.In f) (h2 : t.high ≤ 64) : MOk f (M ++ [(n, t)]) := by
  refine ⟨?_, fun e he => ?_⟩
  · rw [keys_snoc]
    refine List.nodup_append.mpr ⟨h.1, (by simp), fun x hx y hy z => ?_⟩
    rw [List.mem_singleton.mp hy] at z
    exact look_no hn (z ▸ hx)
  · rcases List.mem_append.mp he with he | he
    · exact h.2 e he
    · rw [List.mem_singleton.mp he]
      exact ⟨h1, h2⟩
theorem fit_var_new {M : List (Int × Tm)} {n : Int} {t : Tm} : Fit true M (M ++ [(n, t)]) (.var n) t := by
  refine ⟨fun _ => ⟨fun m => ?_, fun θ => ext_snoc⟩, fun h => by cases h⟩
  rw [keys_snoc, List.mem_append]
  exact Iff.rfl
theorem fit_var_old {M : List (Int × Tm)} {n : Int} {t : Tm} (h : M.lookup n = some t) : Fit true M M (.var n) t := by
  have hm := look_mem h
  refine ⟨fun _ => ⟨fun m => ⟨.inl, fun z => ?_⟩, fun θ => ⟨fun e => ⟨e, e _ hm⟩, fun e => e.1⟩⟩, fun h => by cases h⟩
  rcases z with z | z
  · exact z
  · rw [List.mem_singleton.mp z]
    exact List.mem_map.mpr ⟨_, hm, rfl⟩
theorem fit_var_not {M : List (Int × Tm)} {n : Int} {t u : Tm} (h : M.lookup n = some u) (ne : u ≠ t) : Fit false M M (.var n) t :=
  ⟨(fun h => by cases h), fun _ θ e z => ne ((e _ (look_mem h)).symm.trans z)⟩
theorem sub_node {θ : Int → Tm} {w x : Str} {ps qs : List Tm} : (Tm.node w ps).sub θ = .node x qs ↔ w = x ∧ ps.map (fun p => p.sub θ) = qs := by
  show Tm.node w (Tm.subs θ ps) = _ ↔ _
  rw [Tm.subs_map]
  constructor
  · intro h; cases h; exact ⟨rfl, rfl⟩
  · rintro ⟨rfl, rfl⟩; rfl
theorem fit_apart {M : List (Int × Tm)} {p t : Tm} (h : ∀ θ, p.sub θ ≠ t) : Fit false M M p t := ⟨(fun z => by cases z), fun _ θ _ => h θ⟩
/-- what two substitutions that agree on a term do to its variables -/
theorem sub_agree {θ η : Int → Tm} : ∀ t : Tm, t.sub θ = t.sub η → ∀ n ∈ t.occ, θ n = η n
  | .var m, h, n, hn => by
    rw [List.mem_singleton.mp hn]
    exact h
  | .node w ps, h, n, hn => by
    have h' : Tm.subs θ ps = Tm.subs η ps := by
      have h2 : Tm.node w (Tm.subs θ ps) = Tm.node w (Tm.subs η ps) := h
      injection h2
    exact go ps h' n hn
where
  go : ∀ ps : List Tm, Tm.subs θ ps = Tm.subs η ps → ∀ n ∈ Tm.occs ps, θ n = η n
    | [], _, n, hn => by cases hn
    | p :: ps, h, n, hn => by
      have h2 : p.sub θ :: Tm.subs θ ps = p.sub η :: Tm.subs η ps := h
      injection h2 with a b
      rcases List.mem_append.mp hn with hn | hn
      · exact sub_agree p a n hn
      · exact go ps b n hn
/-- a pair more in a dict -/
theorem SubAt.put {H : Hp} {d : Addr} {M : List (Int × Tm)} {kvs : List (Key × V)} {n : Int} {v : V} {t : Tm} (h1 : H d = some (.dK kvs)) (h2 : Paired (fun (p : Key × V) (x : Int × Tm) => p.1 = Sum.inl x.1 ∧ TmAt H p.2 x.2) kvs M)
    (hn : valV kvs (Sum.inl n : Key) = none) (ht : TmAt H v t) : SubAt (upd H d (.dK (putK kvs (Sum.inl n) v))) d (M ++ [(n, t)]) := by
  have kz : ∀ o, KeepT H (upd H d (.dK o)) := fun o b xs hb => by rw [upd_ne (ne_of hb h1 (by intro z; cases z))]; exact hb
  refine ⟨kvs ++ [(Sum.inl n, v)], by rw [upd_same, putK_new _ hn], Paired.snoc (Paired.mapP h2 fun _ _ h => ⟨h.1, TmAt.keep (kz _) _ _ h.2⟩) ⟨rfl, TmAt.keep (kz _) _ _ ht⟩⟩
theorem SubAt.but {H H' : Hp} {d e : Addr} {M : List (Int × Tm)} (h : SubAt H d M) (b : But e H H') (ne : d ≠ e) (k : KeepT H H') : SubAt H' d M := by
  obtain ⟨kvs, h1, h2⟩ := h
  exact ⟨kvs, b _ _ ne h1, Paired.mapP h2 fun _ _ q => ⟨q.1, TmAt.keep k _ _ q.2⟩⟩
theorem KeepT.dict {H H' : Hp} {d : Addr} {M : List (Int × Tm)} (b : But d H H') (h : SubAt H d M) : KeepT H H' := fun q xs hq => by
  obtain ⟨kvs, h1, _⟩ := h
  exact b q _ (ne_of hq h1 (by intro z; cases z)) hq
theorem SubAt.len {H : Hp} {d : Addr} {M : List (Int × Tm)} {kvs : List (Key × V)} (h : SubAt H d M) (e : H d = some (.dK kvs)) : kvs.length = M.length := by
  obtain ⟨ks, h1, h2⟩ := h
  cases e.symm.trans h1
  exact Paired.length h2
theorem onv_in {M : List (Int × Tm)} {n : Int} (h : n ∈ keysOf M) : ∃ e ∈ M, onv M n = e.2 := by
  cases z : M.lookup n with
  | none => exact absurd h (look_no z)
  | some t => exact ⟨(n, t), look_mem z, by unfold onv; rw [z]; rfl⟩
theorem sorted_same {xs ys zs ws : List Int} (h1 : ys.Perm xs) (h2 : ws.Perm zs) (s1 : ys.Pairwise (· ≤ ·)) (s2 : ws.Pairwise (· ≤ ·)) (d1 : xs.Nodup) (d2 : zs.Nodup) (e : ∀ n, n ∈ xs ↔ n ∈ zs) : ys = ws := by
  have p : xs.Perm zs := (List.perm_ext_iff_of_nodup d1 d2).mpr e
  exact List.Perm.eq_of_pairwise (le := fun a b => a ≤ b) (fun a b _ _ h k => Int.le_antisymm h k) s1 s2 (h1.trans (p.trans h2.symm))
theorem keys_kvs {H : Hp} : ∀ {kvs : List (Key × V)} {M : List (Int × Tm)}, Paired (fun (p : Key × V) (x : Int × Tm) => p.1 = Sum.inl x.1 ∧ TmAt H p.2 x.2) kvs M → kvs.map (·.1) = (keysOf M).map Sum.inl
  | _, _, .nil => rfl
  | _, _, .cons h t => List.cons_eq_cons.mpr ⟨h.1, keys_kvs t⟩
theorem ne_of_none_of_some {H : Hp} {d e : Addr} {o : HO} (h : H d = none) (k : H e = some o) : d ≠ e := fun z => by rw [z, k] at h; cases h
end Cf
namespace Cf
open PySem PySem.Spec PyProof.Rows L2
section
variable {X : Cx} {pins : List (Addr × Obj)} {σ : L2.St} {H : Hp} {s : Shared}
mutual
theorem tm_reads (I : Inv X pins σ H s) : ∀ (t : Tm) (v : V) (u : Value), TmAt H v t → RelV v u → Reads s.heap u t.data []
  | .var n, _, _, h, r => by
    cases h
    obtain ⟨k, rfl⟩ := r
    exact Reads.int n k
  | .node w ps, _, _, h, r => by
    cases h with
    | node h1 h2 =>
      cases r
      obtain ⟨its, rv, ⟨o, ho, hc, n, hd⟩, _⟩ := I.tuple (SqT.of h1)
      refine Reads.tuple ho hc hd ?_
      cases rv with
      | cons r1 r2 =>
        obtain ⟨k, rfl⟩ := r1
        exact ReadsAll.cons (as := []) (bs := []) (Reads.str w k) (tms_reads I ps _ _ h2 r2)
theorem tms_reads (I : Inv X pins σ H s) : ∀ (ts : List Tm) (vs : List V) (us : List Value), TmsAt H vs ts → Vals vs us → ReadsAll s.heap us (Tm.datas ts) []
  | [], _, _, h, r => by
    cases h
    cases r
    exact ReadsAll.nil
  | t :: ts, _, _, h, r => by
    cases h with
    | cons h1 h2 =>
      cases r with
      | cons r1 r2 => exact ReadsAll.cons (as := []) (bs := []) (tm_reads I t _ _ h1 r1) (tms_reads I ts _ _ h2 r2)
end
/-- a substitution as nested data -/
def subData (M : List (Int × Tm)) : PyData := .dict (M.map fun e => (.int e.1, e.2.data))
theorem ents_reads (I : Inv X pins σ H s) : ∀ {kvs : List (Key × V)} {vs : List (Key × Value)} {es : List DictEntry} {M : List (Int × Tm)}, KV kvs vs → Pairs (mixKind X.prog X.w) es vs → Paired (fun (p : Key × V) (x : Int × Tm) => p.1 = Sum.inl x.1 ∧ TmAt H p.2 x.2) kvs M →
    ReadsAll s.heap (es.map (·.key)) ((M.map fun e => (PyData.int e.1, e.2.data)).map (·.1)) [] ∧ ReadsAll s.heap (es.map (·.val)) ((M.map fun e => (PyData.int e.1, e.2.data)).map (·.2)) []
  | _, _, _, _, .nil, .nil, .nil => ⟨.nil, .nil⟩
  | (k, v) :: kvs, (k', u) :: vs, e :: es, (m, t) :: M, .cons h1 t1, .cons h2 h3 t2, .cons h4 t4 => by
    obtain ⟨a, b⟩ := ents_reads I t1 t2 t4
    obtain ⟨e1, ru⟩ := h1
    obtain ⟨e2, rt⟩ := h4
    dsimp only at e1 e2 ru rt h2 h3
    subst e1
    subst e2
    refine ⟨ReadsAll.cons (as := []) (bs := []) ?_ a, ReadsAll.cons (as := []) (bs := []) ?_ b⟩
    · have h2' : keyIs (Sum.inl m) e.key = true := h2
      rcases keyIs_shape h2' with ⟨i, c, z, z2⟩ | ⟨x, c, z, z2⟩
      · obtain rfl : m = i := Sum.inl.inj z
        show Reads s.heap e.key (.int m) []
        rw [z2]
        exact Reads.int _ c
      · exact absurd z (by intro y; cases y)
    · show Reads s.heap e.val t.data []
      rw [h3]
      exact tm_reads I _ _ _ rt ru
theorem sub_reads (I : Inv X pins σ H s) {d : Addr} {M : List (Int × Tm)} (h : SubAt H d M) : Reads s.heap (.ref d) (subData M) [d] ∧ d ≠ sysModules := by
  obtain ⟨kvs, h1, h2⟩ := h
  obtain ⟨z, hd, vs, rel, o, es, ep, ho, hx, hdt, keys, prs, nd⟩ := dk_of I.hok h1
  obtain ⟨a, b⟩ := ents_reads I rel prs h2
  exact ⟨Reads.dict (as := []) (bs := []) ho hx.1 hdt a b, beq_eq_false_iff_ne.mp hd⟩
/-- dicts that stand for substitutions -/
abbrev SubsAt (H : Hp) : List V → List (List (Int × Tm)) → Prop := Paired fun v M => ∃ d, v = V.ref d ∧ SubAt H d M
theorem subs_reads (I : Inv X pins σ H s) : ∀ {xs : List V} {us : List Value} {Ms : List (List (Int × Tm))}, SubsAt H xs Ms → Vals xs us → ∃ as, ReadsAll s.heap us (Ms.map subData) as ∧ sysModules ∉ as
  | _, _, _, .nil, r => by
    cases r
    exact ⟨[], .nil, by simp⟩
  | _, _, _, .cons ⟨d, e, h⟩ t, r => by
    subst e
    cases r with
    | cons r1 r2 =>
      cases r1
      obtain ⟨as, g1, g2⟩ := subs_reads I t r2
      obtain ⟨g3, g4⟩ := sub_reads I h
      refine ⟨_, .cons g3 g1, fun m => ?_⟩
      rcases List.mem_append.mp m with m | m
      · exact g4 (List.mem_singleton.mp m).symm
      · exact g2 m
def reprSubs (Ms : List (List (Int × Tm))) : Str := (PyData.list (Ms.map subData)).shown
def tReprS (t : TA) : TE := fun σ H Q => t σ H fun xs H1 => ∃ Ms : List (List (Int × Tm)), SubsAt H1 xs Ms ∧ xs ≠ [] ∧ xs.length ≤ sizeLine ∧ PyData.showableAll (Ms.map subData) = true ∧ (reprSubs Ms).length ≤ sizeLine ∧ PyData.depthAll (Ms.map subData) ≤ 60 ∧
  ∀ p, H1 p = none → Q (.str (reprSubs Ms)) (upd H1 p (.lst xs))
theorem pe_reprS {es : List Expr} {t : TA} {p q pos : Pos} (gr : Gl X "repr") (mr : X.mg "repr" = none) (ha : PA X es t) (hg : X.A.guards = some []) (hu : X.A.units + 64 < cLine) : PE X (.Call (.Name "repr" p) [.List es q] [] pos) (tReprS t) := by
  refine ⟨fun pins s σ H Q I h => Call_ (ld_blt I gr mr boot_repr (PyProof.Rows.callWith_builtin1 (PyProof.Rows.args_cons (wpAny_List_spliced (thn (ha.run q pins s σ H _ I h) fun us s1 ⟨xs, H1, I1, r, Ms, g1, g2, g3, g4, g5, g6, q1⟩ => ⟨by rw [← r.length]; exact g3, PyProof.Rows.args_nil ?_⟩)) rfl) rfl rfl))⟩
  have hf : H1 s1.heap.objs.size = none := I1.hok.fresh (Nat.le_refl _)
  have I2 := I1.laid (a := s1.heap.objs.size) (o := .lst xs) (h' := s1.heap.push { cls := .type "list", data := .seq us.toArray }) (t' := s1.toks) (fun b u e => Heap.get?_push_of_some _ e) (Nat.le_refl _) ⟨g3, us, 0, r, Heap.get?_push_size _ rfl⟩
  obtain ⟨as, h1, h2⟩ := subs_reads I1 g1 r
  have rs : ReadsAll (s1.heap.push { cls := .type "list", data := .seq us.toArray }) us (Ms.map subData) as := ReadsAll.keeps (fun b o e => Heap.get?_push_of_some _ e) h1
  have esh : reprSubs Ms = (PyData.list (Ms.map subData)).shown := rfl
  cases us with
  | nil =>
    have := r.length
    exact absurd (List.length_eq_zero_iff.mp this) g2
  | cons u us =>
    simp only [PyData.shown] at esh
    rw [esh] at g5 q1
    refine Cr.repr_list (s := { s1 with heap := s1.heap.push { cls := .type "list", data := .seq (u :: us).toArray } }) (Heap.get?_push_size _ rfl) rfl rfl rs g4 h2 g5 hg (by omega) fun h' tk' tk k => ?_
    exact ⟨.str _, _, I2.kept (t' := tk) k, ⟨tk', rfl⟩, q1 _ hf⟩
end
end Cf
namespace Cr
open PySem PySem.Spec PyProof.Rows L2
section
variable {X : Cx}
/-- name = {..} on one line, the name a local -/
theorem ps_setDc {i : Nat} {y : Str} {py : Pos} {kx vx tg iter : Expr} {ifs : List Expr} {scope : Scope} {own : List (Str × Nat)} {pos spos : Pos} {wi : TI} {g : TG} {tt : TT} {tk tv : TE} (hc : X.calm = true) (nd : X.N.Nodup) (at_ : X.N[i]? = some y) (loc : X.env.scope.names.lookup y = some .local)
    (sw : swapsWith (.DictComp kx vx [⟨tg, iter, ifs, 0⟩] scope pos) (some (.Name y py)) spos.line X.env = pure true) (hi : PI X tg iter wi) (ok : BlkOk X.N X.env.scope scope own)
    (hg : ∀ (s : Shared) (H : Hp) (C : Addr) (cl : List (Str × Addr)) (fp : List Addr), PG (X.blk s H scope (compEnvC scope cl C X.env) fp) tg g) (ht : ∀ (s : Shared) (H : Hp) (C : Addr) (cl : List (Str × Addr)) (fp : List Addr), PTs (X.blk s H scope (compEnvC scope cl C X.env) fp) ifs tt)
    (hk : ∀ (s : Shared) (H : Hp) (C : Addr) (cl : List (Str × Addr)) (fp : List Addr), PE (X.blk s H scope (compEnvC scope cl C X.env) fp) kx tk) (hv : ∀ (s : Shared) (H : Hp) (C : Addr) (cl : List (Str × Addr)) (fp : List Addr), PE (X.blk s H scope (compEnvC scope cl C X.env) fp) vx tv)
    (hs : ∀ x, foldedSetIterable iter X.env x = pure x := by intro _; rfl) : PS X (.Assign [.Name y py] (.DictComp kx vx [⟨tg, iter, ifs, 0⟩] scope pos) spos) (tAsg (tDc wi g tt tk tv (own.map (·.2))) (gName i)) := by
  refine ⟨fun pins s σ H D I h => ?_⟩
  rw [exec_Assign_Name_used _ _ _ _ sw]
  refine wpAny_bind (wpAny_standAt (wpAny_bind ?_))
  show wpAny _ X.A (do let _ ← comprehension (.DictComp kx vx [⟨tg, iter, ifs, 0⟩] scope pos) scope X.env (firstIterPos [⟨tg, iter, ifs, 0⟩] pos) newDict false (eval iter X.env) (some (assign (.Name y py) X.env))) _ _ s
  have h2 : tDc wi g tt tk tv (own.map (·.2)) σ H (fun x H1 => gName i x σ H1 D.nx) := h
  refine wpAny_bind (thn (dc_core (Qf := fun _ t => SP X pins D .next t) hc nd I hi ok hg ht hk hv hs h2 fun L C t m H' J q ns fp => ?_) fun _ t z => wpAny_pure (wpAny_pure z))
  show wpAny _ _ (assign (.Name y py) X.env (.ref L)) _ _ _
  refine wpAny_assign_Name (store_ok2 (v := V.ref L) J nd at_ (.inl loc) rfl (fun t2 J2 ⟨c, sb, hcc⟩ => ?_) (.inr loc))
  obtain ⟨b0, b1, b2, b3, b4, b5⟩ := fp
  have apart : C ≠ c := hcc.elim (fun z => z ▸ b1) fun z e => b4 y c z e.symm
  refine ⟨m, ns.sameBut sb apart, fun h3 sb3 => ⟨_, H', J2.turned (t' := t2.toks) (fun b o hb e => (sb3.2 b hb).trans e) b0 b1 b3 b4 b5, q⟩⟩
theorem sw_dict {kx vx : Expr} {gs : List Comprehension} {scope : Scope} {pos py : Pos} {y : Str} {l : Nat} {env : Env} (kind : env.scope.kind = .function) (loc : env.scope.names.lookup y = some .local) (line : (py.line == pos.line) = true)
    (none : (scope.names.any fun (n, k) => n == y && (k == .local || k == .cell)) = false) : swapsWith (.DictComp kx vx gs scope pos) (some (.Name y py)) l env = pure true := by
  have k1 : env.kindOf y = some .local := loc
  have k2 : env.blockKind = .function := by unfold Env.blockKind; rw [kind]; rfl
  unfold swapsWith
  simp only [k2, k1, none, Expr.pos, line]
  rfl
end
end Cr
namespace Cf
open PySem L2
/-- the arity of a word -/
def arOf (cs : List (Str × Nat)) (w : Str) : Nat := (cs.lookup w).getD 0
theorem arOf_mem {cs : List (Str × Nat)} (nd : (cs.map (·.1)).Nodup) {w : Str} {n : Nat} (h : (w, n) ∈ cs) : arOf cs w = n := by
  unfold arOf
  induction cs with
  | nil => cases h
  | cons e r ih =>
    obtain ⟨x, m⟩ := e
    obtain ⟨n1, n2⟩ := List.nodup_cons.mp nd
    rw [List.lookup_cons]
    rcases List.mem_cons.mp h with h | h
    · cases h
      rw [beq_self_eq_true]
      rfl
    · have z : ¬ w = x := fun z => n1 (z ▸ List.mem_map.mpr ⟨_, h, rfl⟩)
      rw [beq_eq_false_iff_ne.mpr z]
      exact ih n2 h
theorem over_in {cs : List (Str × Nat)} (ok : ConsOk cs) {ns : List Int} : ∀ (d : Nat) (t : Tm), TmOver cs ns d t → t.In (arOf cs)
  | 0, _, o => o.elim
  | d + 1, .var n, _ => trivial
  | d + 1, .node w ps, o => ⟨(arOf_mem ok.nd o.1).symm, ok.word _ o.1, Tm.ins_of fun p hp => over_in ok d p (o.2 p hp)⟩
theorem sub_in {f : Str → Nat} {θ : Int → Tm} : ∀ t : Tm, t.In f → (∀ n ∈ t.occ, (θ n).In f) → (t.sub θ).In f
  | .var n, _, h => h n (List.mem_singleton_self _)
  | .node w ps, i, h => by
    refine ⟨?_, i.2.1, ?_⟩
    · rw [Tm.subs_map, List.length_map]
      exact i.1
    · exact go ps i.2.2 h
where
  go : ∀ ps : List Tm, Tm.Ins f ps → (∀ n ∈ Tm.occs ps, (θ n).In f) → Tm.Ins f (Tm.subs θ ps)
    | [], _, _ => trivial
    | p :: ps, i, h => ⟨sub_in p i.1 fun n hn => h n (List.mem_append_left _ hn), go ps i.2 fun n hn => h n (List.mem_append_right _ hn)⟩
theorem sub_size {k : Nat} {θ : Int → Tm} (hk : 1 ≤ k) : ∀ t : Tm, (∀ n ∈ t.occ, (θ n).size ≤ k) → (t.sub θ).size ≤ t.size * k
  | .var n, h => by
    have := h n (List.mem_singleton_self _)
    show (θ n).size ≤ 1 * k
    omega
  | .node w ps, h => by
    have := go ps h
    show 1 + Tm.sizes (Tm.subs θ ps) ≤ (1 + Tm.sizes ps) * k
    rw [Nat.add_mul, Nat.one_mul]
    omega
where
  go : ∀ ps : List Tm, (∀ n ∈ Tm.occs ps, (θ n).size ≤ k) → Tm.sizes (Tm.subs θ ps) ≤ Tm.sizes ps * k
    | [], _ => Nat.zero_le _
    | p :: ps, h => by
      have a := sub_size hk p fun n hn => h n (List.mem_append_left _ hn)
      have b := go ps fun n hn => h n (List.mem_append_right _ hn)
      show (p.sub θ).size + Tm.sizes (Tm.subs θ ps) ≤ (p.size + Tm.sizes ps) * k
      rw [Nat.add_mul]
      omega
theorem sub_high {m : Nat} {θ : Int → Tm} : ∀ t : Tm, (∀ n ∈ t.occ, (θ n).high ≤ m) → (t.sub θ).high ≤ t.high + m
  | .var n, h => by
    have := h n (List.mem_singleton_self _)
    show (θ n).high ≤ 1 + m
    omega
  | .node w ps, h => by
    have := go ps h
    show 1 + Tm.highs (Tm.subs θ ps) ≤ (1 + Tm.highs ps) + m
    omega
where
  go : ∀ ps : List Tm, (∀ n ∈ Tm.occs ps, (θ n).high ≤ m) → Tm.highs (Tm.subs θ ps) ≤ Tm.highs ps + m
    | [], _ => Nat.zero_le _
    | p :: ps, h => by
      have a := sub_high p fun n hn => h n (List.mem_append_left _ hn)
      have b := go ps fun n hn => h n (List.mem_append_right _ hn)
      show max (p.sub θ).high (Tm.highs (Tm.subs θ ps)) ≤ max p.high (Tm.highs ps) + m
      omega
/-- what is put for a variable is no greater than the whole -/
theorem sub_part {θ : Int → Tm} {n : Int} : ∀ t : Tm, n ∈ t.occ → (θ n).size ≤ (t.sub θ).size ∧ (θ n).high ≤ (t.sub θ).high
  | .var m, h => by
    rw [List.mem_singleton.mp h]
    exact ⟨Nat.le_refl _, Nat.le_refl _⟩
  | .node w ps, h => by
    have := go ps h
    refine ⟨?_, ?_⟩
    · show _ ≤ 1 + Tm.sizes (Tm.subs θ ps)
      omega
    · show _ ≤ 1 + Tm.highs (Tm.subs θ ps)
      omega
where
  go : ∀ ps : List Tm, n ∈ Tm.occs ps → (θ n).size ≤ Tm.sizes (Tm.subs θ ps) ∧ (θ n).high ≤ Tm.highs (Tm.subs θ ps)
    | p :: ps, h => by
      have e1 : Tm.sizes (Tm.subs θ (p :: ps)) = (p.sub θ).size + Tm.sizes (Tm.subs θ ps) := rfl
      have e2 : Tm.highs (Tm.subs θ (p :: ps)) = max (p.sub θ).high (Tm.highs (Tm.subs θ ps)) := rfl
      rcases List.mem_append.mp h with h | h
      · have := sub_part (θ := θ) p h
        omega
      · have := go ps h
        omega
theorem highs_snoc (t : Tm) : ∀ ts : List Tm, Tm.highs (ts ++ [t]) = max (Tm.highs ts) t.high
  | [] => by show max t.high 0 = max 0 t.high; omega
  | x :: r => by
    show max x.high (Tm.highs (r ++ [t])) = max (max x.high (Tm.highs r)) t.high
    rw [highs_snoc t r]
    omega
end Cf
namespace Cf
open PySem L2
abbrev sComp : Stmt := top 2
/-- what one substitution followed by another makes of a variable -/
def led (M1 M2 : List (Int × Tm)) (n : Int) : Tm := (onv M1 n).sub (onv M2)
def spComp (m : Nat) : Sp := fun vs H Q _ => ∃ (d1 d2 : Addr) (f : Str → Nat) (M1 M2 : List (Int × Tm)), vs = [.ref d1, .ref d2] ∧ d1 ≠ d2 ∧ SubAt H d1 M1 ∧ SubAt H d2 M2 ∧ MOk f M1 ∧ MOk f M2 ∧ (∀ e ∈ M1, e.2.high ≤ m ∧ e.2.size ≤ 1000) ∧ (∀ e ∈ M2, e.2.high ≤ 30) ∧ m ≤ 30 ∧ M1.length ≤ 400 ∧ M2.length ≤ 400 ∧
  ∀ (d : Addr) (M : List (Int × Tm)) (H' : Hp), H d = none → SubAt H' d M → (keysOf M).Nodup → M.length ≤ M1.length + M2.length → (∀ e ∈ M, e.2 = led M1 M2 e.1 ∧ (e.1 ∈ keysOf M1 ∨ e.1 ∈ keysOf M2)) → (∀ n, n ∈ keysOf M1 ∨ n ∈ keysOf M2 → led M1 M2 n ≠ .var n → n ∈ keysOf M) → (∀ e ∈ M, e.2 ≠ .var e.1) → Same H H' → Q (.ref d) H'
theorem same_lock {H H' : Hp} {d : Addr} {u : HO} {od : Obj} (h : H d = some u) (s : Same (upd H d (.frz od u)) H') : Same H (upd H' d u) := fun b o hb => by
  by_cases e : b = d
  · subst e
    rw [upd_same, ← h]
    exact hb
  · rw [upd_ne e]
    exact s _ _ (by rw [upd_ne e]; exact hb)
theorem keep_lock {H H' : Hp} {d : Addr} {kvs : List (Key × V)} {od : Obj} (h : H d = some (.dK kvs)) (s : KeepT (upd H d (.frz od (.dK kvs))) H') : KeepT H H' := fun b xs hb => s _ _ (by rw [upd_ne (ne_of hb h (by intro z; cases z))]; exact hb)
theorem keys_get {M : List (Int × Tm)} {i : Nat} {n : Int} {t : Tm} (h : M[i]? = some (n, t)) : (keysOf M)[i]? = some n := by
  unfold keysOf
  rw [List.getElem?_map, h]
  rfl
theorem take_new {ks : List Int} {i : Nat} {n : Int} (nd : ks.Nodup) (h : ks[i]? = some n) : n ∉ ks.take i := fun m => by
  obtain ⟨j, hj⟩ := List.mem_iff_getElem?.mp m
  rw [List.getElem?_take] at hj
  split at hj
  · have := nd_ix nd hj h
    omega
  · cases hj
theorem onv_no {M : List (Int × Tm)} {n : Int} (h : n ∉ keysOf M) : onv M n = .var n := by
  cases z : M.lookup n with
  | none => unfold onv; rw [z]; rfl
  | some t => exact absurd (List.mem_map.mpr ⟨_, look_mem z, rfl⟩) h
section
variable {P : Program} {w : World} {K : PySem.W.Frag} {mg : Str → Option Value} {base : Heap}
theorem scComp : FnScope ["first", "second", "variable", "term", "joined"] ["first", "second"] (defScope sComp) := ⟨rfl, rfl, rfl, by decide +kernel, rfl, by decide +kernel, by decide +kernel⟩
theorem ok_comp {m : Nat} {f g : Addr} {fd gd : FuncData} (F : Fun K "composed" "composed" sComp f fd) (B : Blt mg) (G : FnOk P w K mg base CX0 (m + 0) g gd ["term", "substitution"] (spSubst m)) (bG : Binds K gd ["term", "substitution"] [])
    (kG : PySem.W.keepIn K (.ref g) = true) (mG : mg "substituted" = some (.ref g)) : FnOk P w K mg base CX0 (m + 1) f fd ["first", "second"] (spComp m) := by
  refine F.ok scComp (fun vs H Q E h => ?_) (fun cdv A outer s H vs Q E hr h => ?_)
  · obtain ⟨d1, d2, ar, M1, M2, rfl, _⟩ := h
    rfl
  obtain ⟨d1, d2, ar, M1, M2, rfl, hne, h1, h2, o1, o2, b1, b2, hm, z1, z2, q⟩ := h
  have nd := scComp.nd
  have hu := hu_of hr
  refine ⟨_, pss_cons (ps_lock (Cr.ps_setDc (i := 4) (own := [("variable", 2), ("term", 3)]) (g := gTup K 2 (gCons (gName 2) (gCons (gName 3) gNil))) (tt := tYes) rfl nd rfl rfl (Cr.sw_dict rfl rfl (by rfl) (by decide +kernel)) (pi_items (pv 0))
        (blkOk_by (N := ["first", "second", "variable", "term", "joined"]) (sc := defScope sComp) (by decide +kernel)) (fun _ _ _ _ _ => pg_tup rfl (pgs_cons (pg_name (i := 2) nd rfl (.inl rfl)) (pgs_cons (pg_name (i := 3) nd rfl (.inl rfl)) pgs_nil))) (fun _ _ _ _ _ => pts_nil) (fun _ _ _ _ _ => pv 2)
        (fun _ _ _ _ _ => pe_call G (hr.mono (by omega)) rfl mG kG bG .nil pass0 (pa_cons (pv 3) (pa_cons (pv 1) pa_nil)))))
    (pss_cons (ps_lock (ps_for PassesOwn.never rfl (pi_items (pv 1)) (pg_tup rfl (pgs_cons (pg_name (i := 2) nd rfl (.inl rfl)) (pgs_cons (pg_name (i := 3) nd rfl (.inl rfl)) pgs_nil)))
        (pss_one (ps_expr (pe_dsetd (pv 4) (pv 2) (pv 3) ⟨rfl, rfl, rfl, rfl⟩)))))
    (pss_one (ps_ret (pe_lock (pe_dc (own := [("variable", 2), ("term", 3)]) (g := gTup K 2 (gCons (gName 2) (gCons (gName 3) gNil))) (tt := tTest (tOp (rNeD K) (tVar 3) (tVar 2))) rfl nd (pi_items (pv 4))
        (blkOk_by (N := ["first", "second", "variable", "term", "joined"]) (sc := defScope sComp) (by decide +kernel)) (fun _ _ _ _ _ => pg_tup rfl (pgs_cons (pg_name (i := 2) nd rfl (.inl rfl)) (pgs_cons (pg_name (i := 3) nd rfl (.inl rfl)) pgs_nil)))
        (fun _ _ _ _ _ => pts_one (pt_cmpR (op_neD hr.units) (pv 3) (pv 2) (nomark _))) (fun _ _ _ _ _ => pv 2) (fun _ _ _ _ _ => pv 3)))))), ?_⟩
  obtain ⟨kvs1, hk1, pr1⟩ := id h1
  obtain ⟨kvs2, hk2, pr2⟩ := id h2
  have l1 := h1.len hk1
  have l2 := h2.len hk2
  refine ⟨d1, .dK kvs1, hk1, trivial, fun od => ⟨_, rfl, d1, od, kvs1, rfl, upd_same, fun D nD => ?_⟩⟩
  have lock1 : But d1 H (upd H d1 (.frz od (.dK kvs1))) := But.put
  have kl1 := KeepT.dict lock1 h1
  have hD1 : D ≠ d1 := fun z => by rw [z, upd_same] at nD; cases nD
  have hD0 : H D = none := by rw [← upd_ne (H := H) (o := .frz od (.dK kvs1)) hD1]; exact nD
  refine Cr.dc_it walk_items (fun i H' => ∃ Mi : List (Int × Tm), SubAt H' D Mi ∧ keysOf Mi = (keysOf M1).take i ∧ (∀ e ∈ Mi, e.2 = led M1 M2 e.1) ∧ Same (upd H d1 (.frz od (.dK kvs1))) H')
    ⟨[], ⟨[], upd_same, .nil⟩, rfl, fun _ h => (by cases h), same_new nD _⟩ (fun i H' _ hh => by obtain ⟨_, _, _, _, g⟩ := hh; exact g _ _ upd_same) (fun i x H' H2 hi hh y => ?_) (fun H' hh => ?_)
  · obtain ⟨Mi, j1, j2, j3, j4⟩ := hh
    obtain ⟨T, y1, y2, rfl, nT, rfl, e1, e2⟩ := y
    obtain ⟨⟨k, v⟩, hkv⟩ : ∃ p, kvs1[i]? = some p := ⟨kvs1[i], List.getElem?_eq_getElem hi⟩
    obtain ⟨⟨n, t⟩, hM, hk, hat⟩ := L2.paired_get pr1 hkv
    dsimp only at hk hat e1 e2
    subst hk
    rw [hkv] at e1 e2
    obtain rfl : V.int n = y1 := Option.some.inj e1
    obtain rfl : v = y2 := Option.some.inj e2
    have mem := List.mem_of_getElem? hM
    have sT := same_new nT (HO.tup [.int n, v])
    have jT := j1.keep sT
    have k2 : KeepT H (upd H' T (.tup [.int n, v])) := kl1.trans (KeepT.of (j4.trans sT))
    refine ⟨T, _, rfl, SqT.of upd_same, rfl, _, _, rfl, _, _, rfl, rfl, ?_⟩
    refine ⟨rfl, _, rfl, _, rfl, _, rfl, v, t, (d2, M2), rfl, TmAt.keep k2 _ _ hat, (b1 _ mem).1, (b1 _ mem).2, (h2.but lock1 hne.symm kl1).keep (j4.trans sT), fun v' H3 hv' s3 => ?_⟩
    obtain ⟨ks, w1, w2⟩ := jT.keep s3
    have lk : ks.length = Mi.length := Paired.length w2
    have lMi : Mi.length ≤ i := by
      have e := congrArg List.length j2
      unfold keysOf at e
      rw [List.length_map, List.length_take] at e
      omega
    have hnk : n ∉ keysOf Mi := by rw [j2]; exact take_new o1.1 (keys_get hM)
    have hno : valV ks (Sum.inl n : Key) = none := by
      rcases look_pairs (n := n) w2 with ⟨_, _, _, z, _⟩ | ⟨z, _⟩
      · exact absurd (List.mem_map.mpr ⟨_, look_mem z, rfl⟩) hnk
      · exact z
    refine ⟨ks, Sum.inl n, rfl, w1, small1000 (by omega), Mi ++ [(n, t.sub (onv M2))], SubAt.put w1 w2 hno hv', ?_, fun e he => ?_, fun b o hb => ?_⟩
    · rw [keys_snoc, j2, List.take_add_one, keys_get hM]
      rfl
    · rcases List.mem_append.mp he with he | he
      · exact j3 e he
      · rw [List.mem_singleton.mp he]
        show t.sub (onv M2) = (onv M1 n).sub (onv M2)
        rw [ext_onv o1.1 _ mem]
    · have hbD : b ≠ D := ne_of_none hb nD
      rw [upd_ne hbD]
      exact s3 _ _ (sT _ _ (j4 _ _ hb))
  obtain ⟨Mj, j1, j2, j3, j4⟩ := hh
  rw [l1, show M1.length = (keysOf M1).length by unfold keysOf; rw [List.length_map], List.take_length] at j2
  refine ⟨j4 _ _ upd_same, ?_⟩
  have sb := same_lock hk1 j4
  have jb : SubAt (upd H' d1 (.dK kvs1)) D Mj := j1.but But.put hD1 (fun b xs hb => by rw [upd_ne (ne_of hb (j4 _ _ upd_same) (by intro z; cases z))]; exact hb)
  generalize upd H' d1 (.dK kvs1) = Hb at sb jb
  clear j1 j4
  have h2b := h2.keep sb
  have hk2b := sb _ _ hk2
  -- the second dict
  refine ⟨d2, .dK kvs2, hk2b, trivial, fun od2 => ⟨_, rfl, d2, od2, kvs2, rfl, upd_same, ?_⟩⟩
  have lock2 : But d2 Hb (upd Hb d2 (.frz od2 (.dK kvs2))) := But.put
  have kl2 := KeepT.dict lock2 h2b
  have hD2 : D ≠ d2 := fun z => by rw [z, hk2] at hD0; cases hD0
  have kM1 : ∀ n, n ∈ keysOf Mj ↔ n ∈ keysOf M1 := fun n => by rw [j2]
  have kl : Mj.length = M1.length := by
    have e := congrArg List.length j2
    unfold keysOf at e
    rw [List.length_map, List.length_map] at e
    exact e
  refine for_it walk_items (fun i σ H' => ∃ (x2 x3 : Option V) (Mi : List (Int × Tm)), σ = [some (.ref d1), some (.ref d2), x2, x3, some (.ref D)] ∧ SubAt H' D Mi ∧ (keysOf Mi).Nodup ∧ Mi.length ≤ M1.length + i ∧ (∀ e ∈ Mi, e.2 = led M1 M2 e.1 ∧ (e.1 ∈ keysOf M1 ∨ e.1 ∈ keysOf M2)) ∧
      (∀ n, n ∈ keysOf M1 ∨ n ∈ (keysOf M2).take i → n ∈ keysOf Mi) ∧ But D (upd Hb d2 (.frz od2 (.dK kvs2))) H')
    ⟨none, none, Mj, rfl, jb.but lock2 hD2 kl2, by rw [j2]; exact o1.1, by omega, fun e he => ⟨j3 e he, .inl ((kM1 _).mp (List.mem_map.mpr ⟨_, he, rfl⟩))⟩, fun n h => (kM1 n).mpr (h.elim id fun h => by rw [List.take_zero] at h; cases h), But.refl _ _⟩
    (fun i σ H' _ hh => by obtain ⟨_, _, _, _, _, _, _, _, _, g⟩ := hh; exact g _ _ hD2.symm upd_same) (fun i x σ H' H2 hi hh y => ?_) (fun σ H' hh => ?_)
  · obtain ⟨x2, x3, Mi, rfl, i1, i2, i3, i4, i5, i6⟩ := hh
    obtain ⟨T, y1, y2, rfl, nT, rfl, e1, e2⟩ := y
    obtain ⟨⟨k, v⟩, hkv⟩ : ∃ p, kvs2[i]? = some p := ⟨kvs2[i], List.getElem?_eq_getElem hi⟩
    obtain ⟨⟨n, t⟩, hM, hk, hat⟩ := L2.paired_get pr2 hkv
    dsimp only at hk hat e1 e2
    subst hk
    rw [hkv] at e1 e2
    obtain rfl : V.int n = y1 := Option.some.inj e1
    obtain rfl : v = y2 := Option.some.inj e2
    have mem := List.mem_of_getElem? hM
    have mk : n ∈ keysOf M2 := List.mem_map.mpr ⟨_, mem, rfl⟩
    have sT := same_new nT (HO.tup [.int n, v])
    have iT := i1.keep sT
    have kD : KeepT (upd Hb d2 (.frz od2 (.dK kvs2))) H' := KeepT.dict i6 (jb.but lock2 hD2 kl2)
    have k2 : KeepT H (upd H' T (.tup [.int n, v])) := ((KeepT.of sb).trans kl2).trans (kD.trans (KeepT.of sT))
    obtain ⟨ks, w1, w2⟩ := id iT
    have lk : ks.length = Mi.length := Paired.length w2
    have hi2 : i < M2.length := by rw [← l2]; exact hi
    refine ⟨T, _, rfl, SqT.of upd_same, rfl, _, _, rfl, _, _, rfl, rfl, ?_⟩
    refine ⟨_, rfl, D, rfl, .inl ⟨ks, .inl w1⟩, _, rfl, _, rfl, ks, Sum.inl n, w1, rfl, small1000 (by omega), fun c hc => ?_, fun hn => ?_⟩
    · refine ⟨_, _, Mi, rfl, iT, i2, by omega, i4, fun a ha => ?_, i6.trans (But.of sT)⟩
      rcases ha with ha | ha
      · exact i5 a (.inl ha)
      · rw [List.take_add_one, keys_get hM] at ha
        rcases List.mem_append.mp ha with ha | ha
        · exact i5 a (.inr ha)
        · have ea : a = n := by simpa using ha
          subst ea
          rcases look_pairs (n := a) w2 with ⟨_, _, _, z, _⟩ | ⟨z, _⟩
          · exact List.mem_map.mpr ⟨_, look_mem z, rfl⟩
          · rw [z] at hc; cases hc
    · have hnk : n ∉ keysOf Mi := by
        rcases look_pairs (n := n) w2 with ⟨_, _, z, _, _⟩ | ⟨_, z⟩
        · rw [z] at hn; cases hn
        · exact look_no z
      refine ⟨_, _, Mi ++ [(n, t)], rfl, SubAt.put w1 w2 hn (TmAt.keep k2 _ _ hat), ?_, by rw [List.length_append]; show Mi.length + 1 ≤ _; omega, fun e he => ?_, fun a ha => ?_, (i6.trans (But.of sT)).trans But.put⟩
      · rw [keys_snoc]
        refine List.nodup_append.mpr ⟨i2, (by simp), fun a ha b hb z => ?_⟩
        rw [List.mem_singleton.mp hb] at z
        exact hnk (z ▸ ha)
      · rcases List.mem_append.mp he with he | he
        · exact i4 e he
        · rw [List.mem_singleton.mp he]
          refine ⟨?_, .inr mk⟩
          show t = (onv M1 n).sub (onv M2)
          rw [onv_no fun z => hnk (i5 n (.inl z))]
          exact (ext_onv o2.1 _ mem).symm
      · rw [keys_snoc, List.mem_append]
        rcases ha with ha | ha
        · exact .inl (i5 a (.inl ha))
        · rw [List.take_add_one, keys_get hM] at ha
          rcases List.mem_append.mp ha with ha | ha
          · exact .inl (i5 a (.inr ha))
          · exact .inr (by simpa using ha)
  obtain ⟨x2, x3, Mf, rfl, i1, i2, i3, i4, i5, i6⟩ := hh
  rw [l2, show M2.length = (keysOf M2).length by unfold keysOf; rw [List.length_map], List.take_length] at i5
  refine ⟨i6 _ _ hD2.symm upd_same, ?_⟩
  have jc : SubAt (upd H' d2 (.dK kvs2)) D Mf := i1.but But.put hD2 (fun b xs hb => by rw [upd_ne (ne_of hb (i6 _ _ hD2.symm upd_same) (by intro z; cases z))]; exact hb)
  have sc : Same H (upd H' d2 (.dK kvs2)) := fun b o hb => by
    have hb2 := sb _ _ hb
    have hbD : b ≠ D := ne_of_none hb hD0
    by_cases e : b = d2
    · subst e
      rw [upd_same, ← hk2b]
      exact hb2
    · rw [upd_ne e]
      exact i6 _ _ hbD (by rw [upd_ne e]; exact hb2)
  generalize upd H' d2 (.dK kvs2) = Hc at jc sc
  clear i1 i6
  obtain ⟨kvs, hk, pr⟩ := id jc
  have lf : kvs.length = Mf.length := Paired.length pr
  refine ⟨D, .dK kvs, hk, trivial, fun od3 => ⟨_, rfl, D, od3, kvs, rfl, upd_same, fun D3 nD3 => ?_⟩⟩
  have lock3 : But D Hc (upd Hc D (.frz od3 (.dK kvs))) := But.put
  have kl3 := KeepT.dict lock3 jc
  have h3D : D3 ≠ D := fun z => by rw [z, upd_same] at nD3; cases nD3
  have h3c : Hc D3 = none := by rw [← upd_ne (H := Hc) (o := .frz od3 (.dK kvs)) h3D]; exact nD3
  have h30 : H D3 = none := by
    cases z : H D3 with
    | none => rfl
    | some o => rw [sc _ _ z] at h3c; cases h3c
  have led_in : ∀ e ∈ Mf, e.2.In ar ∧ e.2.high ≤ 64 := fun e he => by
    rw [(i4 e he).1]
    have g1 : (onv M1 e.1).In ar ∧ (onv M1 e.1).high ≤ 30 := by
      by_cases c : e.1 ∈ keysOf M1
      · obtain ⟨z, hz, ez⟩ := onv_in c
        rw [ez]
        exact ⟨(o1.2 z hz).1, Nat.le_trans (b1 z hz).1 hm⟩
      · rw [onv_no c]
        exact ⟨trivial, by show 1 ≤ 30; decide⟩
    have g2 : ∀ n, (onv M2 n).In ar ∧ (onv M2 n).high ≤ 30 := fun n => by
      by_cases c : n ∈ keysOf M2
      · obtain ⟨z, hz, ez⟩ := onv_in c
        rw [ez]
        exact ⟨(o2.2 z hz).1, b2 z hz⟩
      · rw [onv_no c]
        exact ⟨trivial, by show 1 ≤ 30; decide⟩
    have g3 := sub_high (onv M1 e.1) fun n _ => (g2 n).2
    refine ⟨sub_in _ g1.1 fun n _ => (g2 n).1, ?_⟩
    show ((onv M1 e.1).sub (onv M2)).high ≤ 64
    omega
  refine Cr.dc_it walk_items (fun i H' => ∃ M3 : List (Int × Tm), SubAt H' D3 M3 ∧ (keysOf M3).Nodup ∧ M3.length ≤ i ∧ (∀ e ∈ M3, e ∈ Mf ∧ e.2 ≠ .var e.1) ∧ (∀ n ∈ keysOf M3, n ∈ (keysOf Mf).take i) ∧ (∀ e ∈ Mf.take i, e.2 ≠ .var e.1 → e.1 ∈ keysOf M3) ∧ Same (upd Hc D (.frz od3 (.dK kvs))) H')
    ⟨[], ⟨[], upd_same, .nil⟩, List.nodup_nil, Nat.le_refl _, fun _ h => (by cases h), fun _ h => (by cases h), fun e he => (by rw [List.take_zero] at he; cases he), same_new nD3 _⟩ (fun i H' _ hh => by obtain ⟨_, _, _, _, _, _, _, g⟩ := hh; exact g _ _ upd_same) (fun i x H' H2 hi hh y => ?_) (fun H' hh => ?_)
  · obtain ⟨M3, r1, r2, r3, r4, r5, r6, r7⟩ := hh
    obtain ⟨T, y1, y2, rfl, nT, rfl, e1, e2⟩ := y
    obtain ⟨⟨k, v⟩, hkv⟩ : ∃ p, kvs[i]? = some p := ⟨kvs[i], List.getElem?_eq_getElem hi⟩
    obtain ⟨⟨n, t⟩, hM, hkk, hat⟩ := L2.paired_get pr hkv
    dsimp only at hkk hat e1 e2
    subst hkk
    rw [hkv] at e1 e2
    obtain rfl : V.int n = y1 := Option.some.inj e1
    obtain rfl : v = y2 := Option.some.inj e2
    have mem := List.mem_of_getElem? hM
    have sT := same_new nT (HO.tup [.int n, v])
    have rT := r1.keep sT
    have s7 := r7.trans sT
    have hv : TmAt (upd H' T (.tup [.int n, v])) v t := TmAt.keep (kl3.trans (KeepT.of s7)) _ _ hat
    obtain ⟨ks, w1, w2⟩ := id rT
    have lk : ks.length = M3.length := Paired.length w2
    have hi2 : i < Mf.length := by rw [← lf]; exact hi
    have hin := led_in _ mem
    refine ⟨T, _, rfl, SqT.of upd_same, rfl, _, _, rfl, _, _, rfl, rfl, ?_⟩
    refine ⟨rfl, _, rfl, _, rfl, ne_tm (f := ar) hv (.var n) hin.1 trivial hin.2 (by show 1 ≤ 64; decide) (fun e => ⟨_, rfl, ?_⟩) fun e => ⟨_, rfl, ?_⟩⟩
    · refine iteF ⟨M3, rT, r2, by omega, r4, fun a ha => ?_, fun e' he hne' => ?_, s7⟩
      · rw [List.take_add_one]
        exact List.mem_append_left _ (r5 a ha)
      · rw [List.take_add_one, hM] at he
        rcases List.mem_append.mp he with he | he
        · exact r6 e' he hne'
        · have : e' = (n, t) := by simpa using he
          subst this
          exact absurd e hne'
    · have hnk : n ∉ keysOf M3 := fun z => take_new i2 (keys_get hM) (r5 n z)
      have hno : valV ks (Sum.inl n : Key) = none := by
        rcases look_pairs (n := n) w2 with ⟨_, _, _, z, _⟩ | ⟨z, _⟩
        · exact absurd (List.mem_map.mpr ⟨_, look_mem z, rfl⟩) hnk
        · exact z
      refine iteT ⟨_, rfl, _, rfl, ks, Sum.inl n, rfl, w1, small1000 (by omega), M3 ++ [(n, t)], SubAt.put w1 w2 hno hv, ?_, by rw [List.length_append]; exact Nat.succ_le_succ r3, fun e' he => ?_, fun a ha => ?_, fun e' he hne' => ?_, fun b o hb => ?_⟩
      · rw [keys_snoc]
        refine List.nodup_append.mpr ⟨r2, (by simp), fun a ha b hb z => ?_⟩
        rw [List.mem_singleton.mp hb] at z
        exact hnk (z ▸ ha)
      · rcases List.mem_append.mp he with he | he
        · exact r4 e' he
        · rw [List.mem_singleton.mp he]
          exact ⟨mem, e⟩
      · rw [List.take_add_one, keys_get hM]
        rw [keys_snoc] at ha
        rcases List.mem_append.mp ha with ha | ha
        · exact List.mem_append_left _ (r5 a ha)
        · exact List.mem_append_right _ (by simpa using ha)
      · rw [keys_snoc, List.mem_append]
        rw [List.take_add_one, hM] at he
        rcases List.mem_append.mp he with he | he
        · exact .inl (r6 e' he hne')
        · have : e' = (n, t) := by simpa using he
          subst this
          exact .inr (List.mem_singleton_self _)
      · rw [upd_ne (ne_of_none hb nD3)]
        exact s7 _ _ hb
  obtain ⟨M3, r1, r2, r3, r4, r5, r6, r7⟩ := hh
  rw [lf, List.take_length] at r6
  refine ⟨r7 _ _ upd_same, q D3 M3 _ h30 (r1.but But.put h3D (fun b xs hb => by rw [upd_ne (ne_of hb (r7 _ _ upd_same) (by intro z; cases z))]; exact hb)) r2 (by omega) (fun e he => i4 e (r4 e he).1) (fun n hn hle => ?_) (fun e he => (r4 e he).2) (sc.trans (same_lock hk r7))⟩
  obtain ⟨e, he, rfl⟩ := List.mem_map.mp (i5 n hn)
  exact r6 e he (by rw [(i4 e he).1]; exact hle)
end
end Cf
namespace Cf
open PySem PySem.Builtin PySem.Builtin.List L2
theorem few {n : Int} (h : n ∈ ([0, 1, 2, 3] : List Int)) : n.natAbs.log2 < 1920 ∧ ((toString n : String) : Str).length ≤ 10 := by
  rcases List.mem_cons.mp h with rfl | h
  · exact ⟨by decide, by decide +kernel⟩
  rcases List.mem_cons.mp h with rfl | h
  · exact ⟨by decide, by decide +kernel⟩
  rcases List.mem_cons.mp h with rfl | h
  · exact ⟨by decide, by decide +kernel⟩
  rw [List.mem_singleton.mp h]
  exact ⟨by decide, by decide +kernel⟩
theorem word_len {w : Str} (h : WordOk w) : (reprText w).length ≤ 122 := by
  have := StrLaws.reprText_len w fun c hc => by have := (h.2.2 c hc).2; omega
  have := h.2.1
  omega
theorem tuple_len (ts : List Str) : (tupleText ts).length ≤ piled ts + 3 := by
  unfold tupleText
  cases ts with
  | nil => decide +kernel
  | cons t r =>
    have h := join_length_add (t :: r) (by simp)
    rw [Str.length_append, Str.length_append]
    have h1 : (("(" : String) : Str).length = 1 := by decide +kernel
    have h2 : ((if (t :: r).length == 1 then ",)" else ")" : String) : Str).length ≤ 2 := by split <;> decide +kernel
    omega
mutual
theorem tm_show {f : Str → Nat} : ∀ t : Tm, t.In f → (∀ n ∈ t.occ, n ∈ ([0, 1, 2, 3] : List Int)) → t.data.showable = true ∧ t.data.shown.length + 2 ≤ 140 * t.size
  | .var n, _, h => by
    have := few (h n (List.mem_singleton_self _))
    have e : Tm.size (.var n) = 1 := rfl
    refine ⟨by simp [Tm.data, PyData.showable, this.1], ?_⟩
    simp only [Tm.data, PyData.shown]
    omega
  | .node w ps, i, h => by
    obtain ⟨h1, h2⟩ := tms_show ps i.2.2 h
    have e : Tm.size (.node w ps) = 1 + Tm.sizes ps := rfl
    have hw := word_len i.2.1
    refine ⟨by simp [Tm.data, PyData.showable, PyData.showableAll, h1], ?_⟩
    simp only [Tm.data, PyData.shown, PyData.shownAll]
    have := tuple_len (reprText w :: PyData.shownAll (Tm.datas ps))
    rw [piled_cons] at this
    omega
theorem tms_show {f : Str → Nat} : ∀ ts : List Tm, Tm.Ins f ts → (∀ n ∈ Tm.occs ts, n ∈ ([0, 1, 2, 3] : List Int)) → PyData.showableAll (Tm.datas ts) = true ∧ piled (PyData.shownAll (Tm.datas ts)) ≤ 140 * Tm.sizes ts
  | [], _, _ => ⟨by simp [Tm.datas, PyData.showableAll], by simp [Tm.datas, PyData.shownAll, piled_nil]⟩
  | t :: ts, i, h => by
    obtain ⟨a1, a2⟩ := tm_show t i.1 fun n hn => h n (List.mem_append_left _ hn)
    obtain ⟨b1, b2⟩ := tms_show ts i.2 fun n hn => h n (List.mem_append_right _ hn)
    have e : Tm.sizes (t :: ts) = t.size + Tm.sizes ts := rfl
    refine ⟨by simp [Tm.datas, PyData.showableAll, a1, b1], ?_⟩
    simp only [Tm.datas, PyData.shownAll]
    rw [piled_cons]
    omega
end
theorem sub_show {f : Str → Nat} : ∀ M : List (Int × Tm), (∀ e ∈ M, e.1 ∈ ([0, 1, 2, 3] : List Int) ∧ e.2.In f ∧ (∀ n ∈ e.2.occ, n ∈ ([0, 1, 2, 3] : List Int)) ∧ e.2.size ≤ 7 ∧ e.2.high ≤ 3) →
    PyData.showableKv (M.map fun e => (PyData.int e.1, e.2.data)) = true ∧ piled (PyData.shownKv (M.map fun e => (PyData.int e.1, e.2.data))) ≤ 1000 * M.length ∧ PyData.depthKv (M.map fun e => (PyData.int e.1, e.2.data)) ≤ 3
  | [], _ => ⟨by simp [PyData.showableKv], by simp [PyData.shownKv, piled_nil], by simp [PyData.depthKv]⟩
  | e :: M, h => by
    obtain ⟨h1, h2, h3, h4, h5⟩ := h e List.mem_cons_self
    obtain ⟨b1, b2, b3⟩ := sub_show M fun x hx => h x (List.mem_cons_of_mem _ hx)
    obtain ⟨a1, a2⟩ := tm_show e.2 h2 h3
    have f1 := few h1
    have d := Tm.deep e.2
    refine ⟨by simp [PyData.showableKv, PyData.showable, f1.1, a1, b1], ?_, ?_⟩
    · simp only [List.map_cons, PyData.shownKv, PyData.shown]
      rw [piled_cons, Str.length_append, Str.length_append, List.length_cons]
      have h1 : ((": " : String) : Str).length = 2 := by decide +kernel
      omega
    · simp only [List.map_cons, PyData.depthKv, PyData.depth]
      omega
theorem dict_len (ps : List Str) : (dictText ps).length ≤ piled ps + 2 := by
  unfold dictText
  cases ps with
  | nil => decide +kernel
  | cons t r =>
    have h := join_length_add (t :: r) (by simp)
    rw [Str.length_append, Str.length_append]
    have h1 : (("{" : String) : Str).length = 1 := by decide +kernel
    have h2 : (("}" : String) : Str).length = 1 := by decide +kernel
    omega
abbrev Small (cs : List (Str × Nat)) (M : List (Int × Tm)) : Prop := ∀ e ∈ M, e.1 ∈ ([0, 1, 2, 3] : List Int) ∧ e.2.In (arOf cs) ∧ (∀ n ∈ e.2.occ, n ∈ ([0, 1, 2, 3] : List Int)) ∧ e.2.size ≤ 7 ∧ e.2.high ≤ 3
theorem repr_ok {cs : List (Str × Nat)} {MA MB : List (Int × Tm)} (hA : Small cs MA) (hB : Small cs MB) (lA : MA.length ≤ 4) (lB : MB.length ≤ 4) :
    PyData.showableAll ([MA, MB].map subData) = true ∧ (reprSubs [MA, MB]).length ≤ sizeLine ∧ PyData.depthAll ([MA, MB].map subData) ≤ 60 := by
  obtain ⟨a1, a2, a3⟩ := sub_show MA hA
  obtain ⟨b1, b2, b3⟩ := sub_show MB hB
  refine ⟨by simp [subData, PyData.showableAll, PyData.showable, a1, b1], ?_, ?_⟩
  · have d1 := dict_len (PyData.shownKv (MA.map fun e => (PyData.int e.1, e.2.data)))
    have d2 := dict_len (PyData.shownKv (MB.map fun e => (PyData.int e.1, e.2.data)))
    unfold reprSubs
    simp only [List.map_cons, List.map_nil, subData, PyData.shown, PyData.shownAll]
    rw [listText_eq_join, Str.length_append, Str.length_append]
    have h := join_length_add [dictText (PyData.shownKv (MA.map fun e => (PyData.int e.1, e.2.data))), dictText (PyData.shownKv (MB.map fun e => (PyData.int e.1, e.2.data)))] (by simp)
    rw [piled_cons, piled_cons, piled_nil] at h
    have h1 : (("[" : String) : Str).length = 1 := by decide +kernel
    have h2 : (("]" : String) : Str).length = 1 := by decide +kernel
    have h3 : 100000 ≤ sizeLine := by decide
    omega
  · simp only [List.map_cons, List.map_nil, subData, PyData.depthAll, PyData.depth]
    omega
end Cf
namespace Cf
open PySem L2
abbrev sLaw : Stmt := top 17
def putM (M : List (Int × Tm)) (n : Int) (t : Tm) : List (Int × Tm) := if n ∈ keysOf M then M.map (fun e => if e.1 = n then (e.1, t) else e) else M ++ [(n, t)]
theorem putM_mem {M : List (Int × Tm)} {n : Int} {t : Tm} {e : Int × Tm} (h : e ∈ putM M n t) : e ∈ M ∨ e = (n, t) := by
  unfold putM at h
  split at h
  · obtain ⟨x, hx, rfl⟩ := List.mem_map.mp h
    by_cases c : x.1 = n
    · rw [if_pos c, c]
      exact .inr rfl
    · rw [if_neg c]
      exact .inl hx
  · rcases List.mem_append.mp h with h | h
    · exact .inl h
    · exact .inr (List.mem_singleton.mp h)
theorem putM_len (M : List (Int × Tm)) (n : Int) (t : Tm) : (putM M n t).length ≤ M.length + 1 := by
  unfold putM
  split
  · rw [List.length_map]; omega
  · rw [List.length_append]; exact Nat.le_refl _
theorem putM_nd {M : List (Int × Tm)} {n : Int} {t : Tm} (h : (keysOf M).Nodup) : (keysOf (putM M n t)).Nodup := by
  unfold putM
  split
  · have e : keysOf (M.map (fun e => if e.1 = n then (e.1, t) else e)) = keysOf M := by
      unfold keysOf
      rw [List.map_map]
      refine List.map_congr_left fun e _ => ?_
      show (if e.1 = n then (e.1, t) else e).1 = e.1
      split <;> rfl
    rw [e]
    exact h
  · rename_i c
    rw [keys_snoc]
    refine List.nodup_append.mpr ⟨h, (by simp), fun x hx y hy z => ?_⟩
    rw [List.mem_singleton.mp hy] at z
    exact c (z ▸ hx)
theorem put_pairs {H : Hp} {n : Int} {v : V} {t : Tm} (ht : TmAt H v t) : ∀ {kvs : List (Key × V)} {M : List (Int × Tm)}, Paired (fun (p : Key × V) (x : Int × Tm) => p.1 = Sum.inl x.1 ∧ TmAt H p.2 x.2) kvs M →
    Paired (fun (p : Key × V) (x : Int × Tm) => p.1 = Sum.inl x.1 ∧ TmAt H p.2 x.2) (kvs.map fun kv => if kv.1 = Sum.inl n then (kv.1, v) else kv) (M.map fun e => if e.1 = n then (e.1, t) else e)
  | _, _, .nil => .nil
  | (k, u) :: kvs, (m, w) :: M, .cons h r => by
    refine .cons ?_ (put_pairs ht r)
    obtain ⟨h1, h2⟩ := h
    dsimp only at h1 h2 ⊢
    subst h1
    by_cases c : m = n
    · subst c
      rw [if_pos rfl, if_pos rfl]
      exact ⟨rfl, ht⟩
    · rw [if_neg (fun z => c (Sum.inl.inj z)), if_neg c]
      exact ⟨rfl, h2⟩
theorem SubAt.putG {H : Hp} {d : Addr} {M : List (Int × Tm)} {kvs : List (Key × V)} {n : Int} {v : V} {t : Tm} (h1 : H d = some (.dK kvs)) (h2 : Paired (fun (p : Key × V) (x : Int × Tm) => p.1 = Sum.inl x.1 ∧ TmAt H p.2 x.2) kvs M) (ht : TmAt H v t) :
    SubAt (upd H d (.dK (putK kvs (Sum.inl n) v))) d (putM M n t) := by
  have kz : ∀ o, KeepT H (upd H d (.dK o)) := fun o b xs hb => by rw [upd_ne (ne_of hb h1 (by intro z; cases z))]; exact hb
  unfold putM
  rcases look_pairs (n := n) h2 with ⟨u, w, e1, e2, _⟩ | ⟨e1, e2⟩
  · have hk : n ∈ keysOf M := List.mem_map.mpr ⟨_, look_mem e2, rfl⟩
    rw [if_pos hk]
    have any : (kvs.any fun kv => decide (kv.1 = Sum.inl n)) = true := by
      rw [List.any_eq_true]
      obtain ⟨kv, h3, h4⟩ := List.mem_map.mp (valV_in e1)
      exact ⟨kv, h3, decide_eq_true h4⟩
    refine ⟨_, upd_same, ?_⟩
    unfold putK
    rw [if_pos any]
    exact Paired.mapP (put_pairs ht h2) fun _ _ h => ⟨h.1, TmAt.keep (kz _) _ _ h.2⟩
  · rw [if_neg (look_no e2)]
    exact SubAt.put h1 h2 e1 ht
theorem paired_mem {α β : Type} {F G : α → β → Prop} : ∀ {xs : List α} {ys : List β}, Paired F xs ys → (∀ a b, a ∈ xs → F a b → G a b) → Paired G xs ys
  | _, _, .nil, _ => .nil
  | _, _, .cons h t, k => .cons (k _ _ List.mem_cons_self h) (paired_mem t fun a b ha => k a b (List.mem_cons_of_mem _ ha))
structure SubOk (cs : List (Str × Nat)) (M : List (Int × Tm)) : Prop where
  nd : (keysOf M).Nodup
  over : ∀ e ∈ M, e.1 ∈ [0, 1, 2, 3] ∧ TmOver cs [0, 1, 2, 3] 3 e.2
  len : M.length ≤ 4
theorem over_mono {cs : List (Str × Nat)} {ns : List Int} : ∀ (k m : Nat), k ≤ m → ∀ t : Tm, TmOver cs ns k t → TmOver cs ns m t
  | 0, _, _, _, h => h.elim
  | k + 1, 0, l, _, _ => by omega
  | k + 1, m + 1, l, .var n, h => h
  | k + 1, m + 1, l, .node w ps, h => ⟨h.1, fun p hp => over_mono k m (by omega) p (h.2 p hp)⟩
section
variable {P : Program} {w : World} {K : PySem.W.Frag} {mg : Str → Option Value} {base : Heap}
theorem scLaw : FnScope ["script", "pool", "constructors", "pair", "k", "given", "turn", "first", "second", "before", "both", "due", "key", "led", "term", "by"] ["script"] (defScope sLaw) := ⟨rfl, rfl, rfl, by decide +kernel, rfl, by decide +kernel, by decide +kernel⟩
theorem ok_law {f : Addr} {fd : FuncData} (F : Fun K "law" "law" sLaw f fd) (B : Blt mg) (a1 : At P w K mg base "_law_pool" 1 ["script"] (spPool K)) (a2 : At P w K mg base "_law_constructors" 4 ["pool"] spCons)
    (a3 : At P w K mg base "_law_draw" 2 ["pool", "many"] spDraw) (a4 : At P w K mg base "_law_term" 7 ["pool", "constructors", "numbers", "deep"] (spTerm K 4)) (a5 : At P w K mg base "_law_moved" 5 ["term", "by"] (spMoved 4))
    (a6 : At P w K mg base "_law_replace" 5 ["term", "given"] (spReplace 4)) (a7 : At P w K mg base "substituted" 4 ["term", "substitution"] (spSubst 4)) (a8 : At P w K mg base "shifted" 4 ["term", "n"] (spShift 4))
    (a9 : At P w K mg base "_law_same" 9 ["actual", "due"] (spSame 9)) (b1 : At P w K mg base "composed" 5 ["first", "second"] (spComp 4)) :
    Cr.RunsG P w K mg base 10 f fd ["script"] (spLaw K) := by
  obtain ⟨f1, d1, F1, B1, k1, m1⟩ := a1.ex
  obtain ⟨f2, d2, F2, B2, k2, m2⟩ := a2.ex
  obtain ⟨f3, d3, F3, B3, k3, m3⟩ := a3.ex
  obtain ⟨f4, d4, F4, B4, k4, m4⟩ := a4.ex
  obtain ⟨f5, d5, F5, B5, k5, m5⟩ := a5.ex
  obtain ⟨f6, d6, F6, B6, k6, m6⟩ := a6.ex
  obtain ⟨f7, d7, F7, B7, k7, m7⟩ := a7.ex
  obtain ⟨f8, d8, F8, B8, k8, m8⟩ := a8.ex
  obtain ⟨f9, d9, F9, B9, k9, m9⟩ := a9.ex
  obtain ⟨g1, e1, G1, C1, l1, n1⟩ := b1.ex
  refine Cr.fn_g F scLaw (fun vs H Q E h => ?_) (fun cdv A outer s H vs Q E hgd hr h => ?_)
  · obtain ⟨a, ns, rfl, _⟩ := h
    rfl
  obtain ⟨a, ns, rfl, hS, h63, q⟩ := h
  have nd := scLaw.nd
  have hu := hu_of hr
  refine ⟨_, pss_cons (ps_set (i := 1) nd rfl (.inl rfl) (pe_call F1 (hr.mono (by decide)) rfl m1 k1 B1 .nil pass0 (pa_cons (pv 0) pa_nil)))
    (pss_cons (ps_set (i := 2) nd rfl (.inl rfl) (pe_call F2 (hr.mono (by decide)) rfl m2 k2 B2 .nil pass0 (pa_cons (pv 1) pa_nil)))
    (pss_cons (ps_set (i := 3) nd rfl (.inl rfl) (pe_lst pa_nil))
    (pss_cons (ps_for PassesOwn.never rfl (pi_range1 rfl B.range (pa_cons pe_int pa_nil)) (pg_name (i := 4) nd rfl (.inl rfl))
      (pss_cons (ps_set (i := 5) nd rfl (.inl rfl) pe_dnewK)
      (pss_cons (ps_for PassesOwn.never rfl (pi_range1 rfl B.range (pa_cons (pe_call F3 (hr.mono (by decide)) rfl m3 k3 B3 .nil pass0 (pa_cons (pv 1) (pa_cons pe_int pa_nil))) pa_nil)) (pg_name (i := 6) nd rfl (.inl rfl))
        (pss_one (ps_dput hu (pv 5) (pe_call F3 (hr.mono (by decide)) rfl m3 k3 B3 .nil pass0 (pa_cons (pv 1) (pa_cons pe_int pa_nil))) (pe_call F4 (hr.mono (by decide)) rfl m4 k4 B4 .nil pass0 (pa_cons (pv 1) (pa_cons (pv 2) (pa_cons (pe_lst (pa_cons pe_int (pa_cons pe_int (pa_cons pe_int (pa_cons pe_int pa_nil)))))
            (pa_cons (pe_op op_add pe_int (pe_call F3 (hr.mono (by decide)) rfl m3 k3 B3 .nil pass0 (pa_cons (pv 1) (pa_cons pe_int pa_nil)))) pa_nil))))) rfl)))
      (pss_one (ps_expr (pe_bm PySem.F.plainAttrs_list PySem.F.slot_list_append PySem.F.type_list_append mt_append (pv 3) (pa_cons (pv 5) pa_nil)))))))
    (pss_cons (ps_set (i := 7) nd rfl (.inl rfl) (pe_ix (r := rIxL K) ix_list (pv 3) pe_int (fun _ _ => rfl)))
    (pss_cons (ps_set (i := 8) nd rfl (.inl rfl) (pe_ix (r := rIxL K) ix_list (pv 3) pe_int (fun _ _ => rfl)))
    (pss_cons (ps_set (i := 9) nd rfl (.inl rfl) (pe_reprS (by rfl) B.repr (pa_cons (pv 7) (pa_cons (pv 8) pa_nil)) hgd hr.units))
    (pss_cons (ps_set (i := 10) nd rfl (.inr rfl) (pe_call G1 (hr.mono (by decide)) rfl n1 l1 C1 .nil pass0 (pa_cons (pv 7) (pa_cons (pv 8) pa_nil))))
    (pss_cons (ps_set (i := 11) nd rfl (.inr rfl) pe_dnewK)
    (pss_cons (ps_for PassesOwn.never rfl (pi_range1 rfl B.range (pa_cons pe_int pa_nil)) (pg_name (i := 12) nd rfl (.inl rfl))
      (pss_cons (ps_set (i := 13) nd rfl (.inl rfl) (pe_call F6 (hr.mono (by decide)) rfl m6 k6 B6 .nil pass0 (pa_cons (pe_call F6 (hr.mono (by decide)) rfl m6 k6 B6 .nil pass0 (pa_cons (pv 12) (pa_cons (pv 7) pa_nil))) (pa_cons (pv 8) pa_nil))))
      (pss_one (ps_if (pt_cmpR (op_neD hr.units) (pv 13) (pv 12) (nomark _)) (pss_one (ps_dput hu (pv 11) (pv 12) (pv 13) rfl)) pss_nil))))
    (pss_cons (ps_if (PW.pt (pw_or (pt_not (pt_val (pe_callB call_isi (by rfl) B.isinstance (by decide +kernel) (pa_cons (pv 10) (pa_cons (pe_bltn (v := .ty "dict") (by rfl) B.dict (by decide +kernel) rfl) pa_nil)))))
        (pw_or (pt_not (pt_val (pe_call F9 (hr.mono (by decide)) rfl m9 k9 B9 .nil pass0 (pa_cons (pe_callB (call_sortedDI rfl) (by rfl) B.sorted (by decide +kernel) (pa_cons (pv 10) pa_nil)) (pa_cons (pe_callB (call_sortedDI rfl) (by rfl) B.sorted (by decide +kernel) (pa_cons (pv 11) pa_nil)) pa_nil)))))
        (pw_or1 (pt_cmpR op_ne (pe_reprS (by rfl) B.repr (pa_cons (pv 7) (pa_cons (pv 8) pa_nil)) hgd hr.units) (pv 9) (nomark _))))))
      (pss_one (ps_ret pe_bl)) pss_nil)
    (pss_cons (ps_if (pt_cmpR op_gt (pe_callB call_len_seq (by rfl) B.len PySem.boot_len (pa_cons (pe_lock
        (pe_lc (own := [("key", 12)]) (g := gName 12) (tt := tNot (tB (tCall (spSame 9) [] E0 (tCons (tDGet (tVar 10) (tVar 12)) (tCons (tDGet (tVar 11) (tVar 12)) tNil))))) rfl nd (pi_keys (pv 11))
          (blkOk_by (N := ["script", "pool", "constructors", "pair", "k", "given", "turn", "first", "second", "before", "both", "due", "key", "led", "term", "by"]) (sc := defScope sLaw) (by decide +kernel)) (fun _ _ _ _ _ => pg_name (i := 12) nd rfl (.inl rfl))
          (fun _ _ _ _ _ => pts_one (pt_not (pt_val (pe_call F9 (hr.mono (by decide)) rfl m9 k9 B9 .nil pass0 (pa_cons (pe_dget hu (pv 10) (pv 12) (fun _ _ => rfl)) (pa_cons (pe_dget hu (pv 11) (pv 12) (fun _ _ => rfl)) pa_nil))))))
          (fun _ _ _ _ _ => pv 12))) pa_nil)) pe_int (nomark _))
      (pss_one (ps_ret pe_bl)) pss_nil)
    (pss_cons (ps_for PassesOwn.never rfl (pi_range1 rfl B.range (pa_cons pe_int pa_nil)) (pg_name (i := 6) nd rfl (.inl rfl))
      (pss_cons (ps_set (i := 14) nd rfl (.inl rfl) (pe_call F4 (hr.mono (by decide)) rfl m4 k4 B4 .nil pass0 (pa_cons (pv 1) (pa_cons (pv 2) (pa_cons (pe_lst (pa_cons pe_int (pa_cons pe_int (pa_cons pe_int (pa_cons pe_int pa_nil)))))
          (pa_cons (pe_op op_add pe_int (pe_call F3 (hr.mono (by decide)) rfl m3 k3 B3 .nil pass0 (pa_cons (pv 1) (pa_cons pe_int pa_nil)))) pa_nil))))))
      (pss_cons (ps_set (i := 15) nd rfl (.inl rfl) (pe_ix (r := rIxT K) ix_tup (pe_tup (pa_cons pe_int (pa_cons pe_int (pa_cons pe_int (pa_cons (pe_op op_pow pe_int pe_int) pa_nil))))) (pe_call F3 (hr.mono (by decide)) rfl m3 k3 B3 .nil pass0 (pa_cons (pv 1) (pa_cons pe_int pa_nil))) (fun _ _ => rfl)))
      (pss_cons (ps_set (i := 11) nd rfl (.inr rfl) (pe_lst (pa_cons (pe_call F6 (hr.mono (by decide)) rfl m6 k6 B6 .nil pass0 (pa_cons (pv 14) (pa_cons (pv 7) pa_nil))) (pa_cons (pe_call F6 (hr.mono (by decide)) rfl m6 k6 B6 .nil pass0 (pa_cons (pv 14) (pa_cons (pv 8) pa_nil)))
          (pa_cons (pe_call F5 (hr.mono (by decide)) rfl m5 k5 B5 .nil pass0 (pa_cons (pv 14) (pa_cons (pv 15) pa_nil))) pa_nil)))))
      (pss_one (ps_if (PW.pt (pw_or (pt_not (pt_val (pe_call F9 (hr.mono (by decide)) rfl m9 k9 B9 .nil pass0 (pa_cons (pe_lst (pa_cons (pe_call F7 (hr.mono (by decide)) rfl m7 k7 B7 .nil pass0 (pa_cons (pv 14) (pa_cons (pv 7) pa_nil)))
            (pa_cons (pe_call F7 (hr.mono (by decide)) rfl m7 k7 B7 .nil pass0 (pa_cons (pv 14) (pa_cons (pv 8) pa_nil))) (pa_cons (pe_call F8 (hr.mono (by decide)) rfl m8 k8 B8 .nil pass0 (pa_cons (pv 14) (pa_cons (pv 15) pa_nil))) pa_nil)))) (pa_cons (pv 11) pa_nil)))))
          (pw_or1 (pt_cmpR op_ne (pe_reprS (by rfl) B.repr (pa_cons (pv 7) (pa_cons (pv 8) pa_nil)) hgd hr.units) (pv 9) (nomark _)))))
        (pss_one (ps_ret pe_bl)) pss_nil))))))
    (pss_one (ps_ret pe_bl)))))))))))))), ?_⟩
  refine ⟨_, rfl, a, ns, rfl, hS, h63, fun p b H1 hp s1 np => ?_⟩
  refine ⟨_, rfl, p, b, rfl, hp, fun cs c H2 hok nc hc hp2 e2 => ?_⟩
  refine ⟨(by show 0 ≤ sizeLine; decide), fun P0 nP0 => ?_⟩
  have sP := same_new nP0 (HO.lst [])
  have nPp : P0 ≠ p := pool_a hp2 nP0
  have nPb : P0 ≠ b := pool_b hp2 nP0
  refine ⟨_, rfl, by decide, by decide, ?_⟩
  refine for_range (n := 2) (fun i σ H' => ∃ (x4 x5 x6 : Option V) (ds : List Addr) (Ms : List (List (Int × Tm))), σ = [some (.ref a), some (.ref p), some (.ref c), some (.ref P0), x4, x5, x6, none, none, none, none, none, none, none, none, none] ∧ PoolAt H' p b ∧ ConsAt H' c cs ∧
      H' P0 = some (.lst (ds.map V.ref)) ∧ ds.length = i ∧ Paired (fun d M => SubAt H' d M ∧ SubOk cs M ∧ d ≠ p ∧ d ≠ P0) ds Ms ∧ ds.Nodup)
    ⟨none, none, none, [], [], rfl, pool_same hp2 sP, hc.keep (KeepT.of sP), upd_same, rfl, .nil, List.nodup_nil⟩ (fun i σ H3 hi hh => ?_) (fun σ H3 hh => ?_)
  · obtain ⟨x4, x5, x6, ds, Ms, rfl, p3, c3, l3, n3, d3, nd3⟩ := hh
    intro D nD
    have sD := same_new nD (HO.dK [])
    have pD := pool_same p3 sD
    refine ⟨_, rfl, p, b, 4, rfl, pD, by decide, by decide, fun dr H4 y0 y1 p4 e4 => ⟨dr, rfl, by omega, by omega, ?_⟩⟩
    have nDp : D ≠ p := pool_a p3 nD
    have nDb : D ≠ b := pool_b p3 nD
    have nDP : D ≠ P0 := fun z => by rw [z, l3] at nD; cases nD
    have k4 : KeepT H3 H4 := (KeepT.of sD).trans (KeepT.but e4 pD)
    have d4 : Paired (fun d M => SubAt H4 d M ∧ SubOk cs M ∧ d ≠ p ∧ d ≠ P0) ds Ms := Paired.mapP d3 fun d M h => ⟨(h.1.keep sD).but e4 h.2.2.1 (KeepT.but e4 pD), h.2⟩
    have nds : D ∉ ds := fun z => by
      obtain ⟨j, hj⟩ := List.mem_iff_getElem?.mp z
      obtain ⟨M, _, hM⟩ := L2.paired_get d3 hj
      obtain ⟨kvs, e, _⟩ := hM.1
      rw [nD] at e; cases e
    refine for_range (n := dr.toNat) (fun j σ H' => ∃ (x6 : Option V) (M : List (Int × Tm)), σ = [some (.ref a), some (.ref p), some (.ref c), some (.ref P0), some (.int (0 + (i : Int))), some (.ref D), x6, none, none, none, none, none, none, none, none, none] ∧ PoolAt H' p b ∧ ConsAt H' c cs ∧ H' P0 = some (.lst (ds.map V.ref)) ∧
        Paired (fun d M => SubAt H' d M ∧ SubOk cs M ∧ d ≠ p ∧ d ≠ P0) ds Ms ∧ SubAt H' D M ∧ (keysOf M).Nodup ∧ (∀ e ∈ M, e.1 ∈ [0, 1, 2, 3] ∧ TmOver cs [0, 1, 2, 3] 3 e.2) ∧ M.length ≤ j)
      ⟨x6, [], rfl, p4, c3.keep k4, e4 _ _ nPp (sD _ _ l3), d4, ⟨[], e4 _ _ nDp upd_same, .nil⟩, List.nodup_nil, fun _ h => (by cases h), Nat.le_refl _⟩ (fun j σ H' hj hh => ?_) (fun σ H' hh => ?_)
    · obtain ⟨x6, M, rfl, j1, j2, j3, j4, j5, j6, j7, j8⟩ := hh
      refine ⟨_, rfl, _, rfl, (by show 4 ≤ sizeLine; decide), fun l nl => ?_⟩
      have sl := same_new nl (HO.lst [.int 0, .int 1, .int 2, .int 3])
      have nlp : l ≠ p := pool_a j1 nl
      refine ⟨_, rfl, p, b, 3, rfl, pool_same j1 sl, by decide, by decide, fun d5 H5 z0 z1 p5 e5 => ?_⟩
      refine ⟨_, _, rfl, rfl, ?_⟩
      have ed : (1 : Int) + d5 = ((d5.toNat + 1 : Nat) : Int) := by omega
      have k5 := (KeepT.of sl).trans (KeepT.but e5 (pool_same j1 sl))
      refine ⟨p, b, c, l, cs, [0, 1, 2, 3], d5.toNat + 1, ?_, p5, j2.keep k5, hok, SqL.of (e5 _ _ nlp upd_same), nlp, by decide, by omega, by omega, fun v t H6 hv ho p6 e6 => ?_⟩
      · show [V.ref p, V.ref c, V.ref l, V.int (1 + d5)] = _
        rw [ed]
      refine ⟨_, rfl, _, rfl, p, b, 4, rfl, p6, by decide, by decide, fun d7 H7 y0 y1 p7 e7 => ?_⟩
      have k67 := (KeepT.but e6 p5).trans (KeepT.but e7 p6)
      have mv : ∀ {d : Addr} {M : List (Int × Tm)}, SubAt H' d M → d ≠ p → SubAt H7 d M := fun h n => (((h.keep sl).but e5 n (KeepT.but e5 (pool_same j1 sl))).but e6 n (KeepT.but e6 p5)).but e7 n (KeepT.but e7 p6)
      obtain ⟨kvs, w1, w2⟩ := mv j5 nDp
      have lk : kvs.length = M.length := Paired.length w2
      refine ⟨D, _, rfl, DPut.k (k := Sum.inl d7) w1 (small1000 (by omega)), ?_⟩
      have kz : KeepT H7 (upd H7 D (.dK (putK kvs (Sum.inl d7) v))) := fun b xs hb => by rw [upd_ne (ne_of hb w1 (by intro z; cases z))]; exact hb
      have hd7 : d7 ∈ ([0, 1, 2, 3] : List Int) := by
        have : d7 = 0 ∨ d7 = 1 ∨ d7 = 2 ∨ d7 = 3 := by omega
        rcases this with rfl | rfl | rfl | rfl <;> decide
      refine ⟨_, putM M d7 t, rfl, pool_upd p7 nDp nDb, (j2.keep (k5.trans k67)).keep kz, ?_, ?_, SubAt.putG w1 w2 (TmAt.keep (KeepT.but e7 p6) _ _ hv), putM_nd j6, fun e he => ?_, ?_⟩
      · rw [upd_ne nDP.symm]
        exact e7 _ _ nPp (e6 _ _ nPp (e5 _ _ nPp (sl _ _ j3)))
      · refine paired_mem j4 fun d M hd h => ⟨(mv h.1 h.2.2.1).but But.put (fun z => nds (z ▸ hd)) kz, h.2⟩
      · rcases putM_mem he with he | he
        · exact j7 e he
        · rw [he]
          exact ⟨hd7, over_mono _ 3 (by omega) t ho⟩
      · have := putM_len M d7 t
        omega
    · obtain ⟨x6, M, rfl, j1, j2, j3, j4, j5, j6, j7, j8⟩ := hh
      refine ⟨_, rfl, .inl ⟨rfl, _, SqL.of j3⟩, _, rfl, P0, _, _, rfl, rfl, j3, by rw [List.length_map]; exact small1000 (by omega), ?_⟩
      have kz : KeepT H' (upd H' P0 (.lst (ds.map V.ref ++ [V.ref D]))) := fun b xs hb => by rw [upd_ne (ne_of hb j3 (by intro z; cases z))]; exact hb
      refine ⟨_, _, _, ds ++ [D], Ms ++ [M], rfl, pool_upd j1 nPp nPb, j2.keep kz, by rw [upd_same, List.map_append]; rfl, by rw [List.length_append, n3]; rfl, ?_, ?_⟩
      · refine Paired.snoc (Paired.mapP j4 fun d M h => ⟨h.1.but But.put h.2.2.2 kz, h.2⟩) ⟨j5.but But.put nDP kz, ⟨j6, j7, by omega⟩, nDp, nDP⟩
      · refine List.nodup_append.mpr ⟨nd3, (by simp), fun x hx y hy z => ?_⟩
        rw [List.mem_singleton.mp hy] at z
        exact nds (z ▸ hx)
  · obtain ⟨x4, x5, x6, ds, Ms, rfl, p3, c3, l3, n3, d3, nd3⟩ := hh
    obtain ⟨dA, dB, rfl⟩ : ∃ dA dB, ds = [dA, dB] := by
      match ds, n3 with
      | [x, y], _ => exact ⟨x, y, rfl⟩
    obtain ⟨MA, MB, rfl, hA, hB⟩ : ∃ MA MB, Ms = [MA, MB] ∧ (SubAt H3 dA MA ∧ SubOk cs MA ∧ dA ≠ p ∧ dA ≠ P0) ∧ (SubAt H3 dB MB ∧ SubOk cs MB ∧ dB ≠ p ∧ dB ≠ P0) := by
      cases d3 with
      | cons x t =>
        cases t with
        | cons y t =>
          cases t
          exact ⟨_, _, rfl, x, y⟩
    have hne : dA ≠ dB := fun z => by simp [z] at nd3
    obtain ⟨hA, okA, nA, _⟩ := hA
    obtain ⟨hB, okB, nB, _⟩ := hB
    have small : ∀ M, SubOk cs M → Small cs M := fun M o e he => by
      have h := (o.over e he).2
      have sm := over_small hok.ar 3 _ h
      exact ⟨(o.over e he).1, over_in hok 3 _ h, over_occ _ 3 h, by omega, sm.2⟩
    have smA := small MA okA
    have smB := small MB okB
    obtain ⟨rp1, rp2, rp3⟩ := repr_ok smA smB okA.len okB.len
    have mA : MOk (arOf cs) MA := ⟨okA.nd, fun e he => ⟨(smA e he).2.1, by have := (smA e he).2.2.2.2; omega⟩⟩
    have mB : MOk (arOf cs) MB := ⟨okB.nd, fun e he => ⟨(smB e he).2.1, by have := (smB e he).2.2.2.2; omega⟩⟩
    have onA : ∀ n, (onv MA n).In (arOf cs) ∧ (onv MA n).high ≤ 3 ∧ (onv MA n).size ≤ 7 := fun n => by
      by_cases z : n ∈ keysOf MA
      · obtain ⟨e, he, ee⟩ := onv_in z
        rw [ee]
        exact ⟨(smA e he).2.1, (smA e he).2.2.2.2, (smA e he).2.2.2.1⟩
      · rw [onv_no z]
        exact ⟨trivial, by show 1 ≤ 3; decide, by show 1 ≤ 7; decide⟩
    have onB : ∀ n, (onv MB n).In (arOf cs) ∧ (onv MB n).high ≤ 3 ∧ (onv MB n).size ≤ 7 := fun n => by
      by_cases z : n ∈ keysOf MB
      · obtain ⟨e, he, ee⟩ := onv_in z
        rw [ee]
        exact ⟨(smB e he).2.1, (smB e he).2.2.2.2, (smB e he).2.2.2.1⟩
      · rw [onv_no z]
        exact ⟨trivial, by show 1 ≤ 3; decide, by show 1 ≤ 7; decide⟩
    have onL : ∀ n, (led MA MB n).In (arOf cs) ∧ (led MA MB n).high ≤ 6 ∧ (led MA MB n).size ≤ 49 := fun n => by
      have g1 := sub_high (onv MA n) fun m _ => (onB m).2.1
      have g2 := sub_size (k := 7) (by decide) (onv MA n) fun m _ => (onB m).2.2
      have g3 := onA n
      refine ⟨sub_in _ g3.1 fun m _ => (onB m).1, ?_, ?_⟩
      · show ((onv MA n).sub (onv MB)).high ≤ 6
        omega
      · show ((onv MA n).sub (onv MB)).size ≤ 49
        omega
    have two : ∀ {H' : Hp}, Same H3 H' → SubsAt H' [V.ref dA, V.ref dB] [MA, MB] := fun s => .cons ⟨dA, rfl, hA.keep s⟩ (.cons ⟨dB, rfl, hB.keep s⟩ .nil)
    refine ⟨_, rfl, P0, _, 0, .ref dA, rfl, rfl, SqL.of l3, at_of (j := 0) rfl rfl, ?_⟩
    refine ⟨_, rfl, P0, _, 1, .ref dB, rfl, rfl, SqL.of l3, at_of (j := 1) rfl rfl, ?_⟩
    refine ⟨_, rfl, _, rfl, [MA, MB], two (Same.refl _), (by simp), (by show 2 ≤ sizeLine; decide), rp1, rp2, rp3, fun p9 n9 => ?_⟩
    have s4 := same_new n9 (HO.lst [V.ref dA, V.ref dB])
    refine ⟨_, rfl, _, rfl, dA, dB, arOf cs, MA, MB, rfl, hne, hA.keep s4, hB.keep s4, mA, mB, fun e he => ⟨by have := (smA e he).2.2.2.2; omega, by have := (smA e he).2.2.2.1; omega⟩, fun e he => by have := (smB e he).2.2.2.2; omega, by decide, by have := okA.len; omega, by have := okB.len; omega,
      fun dC MC H5 nC subC ndC lenC valC keyC neC s5 => ?_⟩
    have s35 := s4.trans s5
    intro E nE
    have sE := same_new nE (HO.dK [])
    refine ⟨_, rfl, by decide, by decide, ?_⟩
    generalize hrep : reprSubs [MA, MB] = rep
    refine for_range (n := 4) (fun i σ H' => ∃ (x12 x13 : Option V) (ME : List (Int × Tm)), σ = [some (.ref a), some (.ref p), some (.ref c), some (.ref P0), x4, x5, x6, some (.ref dA), some (.ref dB), some (.str rep), some (.ref dC), some (.ref E), x12, x13, none, none] ∧ SubAt H' E ME ∧ (keysOf ME).Nodup ∧
        (∀ e ∈ ME, e.2 = led MA MB e.1 ∧ e.2 ≠ .var e.1 ∧ 0 ≤ e.1 ∧ e.1 < (i : Int)) ∧ (∀ n : Int, 0 ≤ n → n < (i : Int) → led MA MB n ≠ .var n → n ∈ keysOf ME) ∧ ME.length ≤ i ∧ But E (upd H5 E (.dK [])) H')
      ⟨none, none, [], rfl, ⟨[], upd_same, .nil⟩, List.nodup_nil, fun _ h => (by cases h), fun n h1 h2 => by omega, Nat.le_refl _, But.refl _ _⟩ (fun i σ H' hi hh => ?_) (fun σ H' hh => ?_)
    · obtain ⟨x12, x13, ME, rfl, j1, j2, j3, j4, j5, j6⟩ := hh
      have back : Same H5 H' := fun b o hb => j6 _ _ (ne_of_none hb nE) (by rw [upd_ne (ne_of_none hb nE)]; exact hb)
      have sA := hA.keep (s35.trans back)
      have sB := hB.keep (s35.trans back)
      have g := onA (0 + (i : Int))
      refine ⟨_, rfl, _, rfl, .int (0 + (i : Int)), .var (0 + (i : Int)), (dA, MA), rfl, .var _, by show 1 ≤ 4; decide, by show 1 ≤ 1000; decide, sA, fun v1 H7 hv1 s7 => ?_⟩
      have g1 : (onv MA (0 + (i : Int))).high ≤ 4 := by omega
      have g2 : (onv MA (0 + (i : Int))).size ≤ 1000 := by omega
      refine ⟨_, rfl, v1, onv MA (0 + (i : Int)), (dB, MB), rfl, hv1, g1, g2, sB.keep s7, fun v2 H8 hv2 s8 => ?_⟩
      have j18 := j1.keep (s7.trans s8)
      have gl := onL (0 + (i : Int))
      have hv2' : TmAt H8 v2 (led MA MB (0 + (i : Int))) := hv2
      have nk : (0 + (i : Int)) ∉ keysOf ME := fun z => by
        obtain ⟨e, he, ee⟩ := List.mem_map.mp z
        have := (j3 e he).2.2.2
        omega
      refine ⟨_, rfl, _, rfl, ne_tm (f := arOf cs) hv2' (.var _) gl.1 trivial (by omega) (by show 1 ≤ 64; decide) (fun e => ⟨_, rfl, iteF ?_⟩) fun e => ⟨_, rfl, iteT ?_⟩⟩
      · refine ⟨_, _, ME, rfl, j18, j2, fun x hx => by have := j3 x hx; exact ⟨this.1, this.2.1, this.2.2.1, by have := this.2.2.2; omega⟩, fun n h1 h2 h3 => ?_, by omega, (j6.trans (But.of s7)).trans (But.of s8)⟩
        by_cases z : n = 0 + (i : Int)
        · exact absurd (z ▸ e) h3
        · exact j4 n h1 (by omega) h3
      · obtain ⟨ks, w1, w2⟩ := j18
        have lk : ks.length = ME.length := Paired.length w2
        have hno : valV ks (Sum.inl (0 + (i : Int)) : Key) = none := by
          rcases look_pairs (n := 0 + (i : Int)) w2 with ⟨_, _, _, z, _⟩ | ⟨z, _⟩
          · exact absurd (List.mem_map.mpr ⟨_, look_mem z, rfl⟩) nk
          · exact z
        refine ⟨_, rfl, _, rfl, _, rfl, E, _, rfl, DPut.k (k := Sum.inl (0 + (i : Int))) w1 (small1000 (by omega)), ?_⟩
        refine ⟨_, _, ME ++ [(0 + (i : Int), led MA MB (0 + (i : Int)))], rfl, SubAt.put w1 w2 hno hv2', ?_, fun x hx => ?_, fun n h1 h2 h3 => ?_, by rw [List.length_append]; exact Nat.succ_le_succ j5, ((j6.trans (But.of s7)).trans (But.of s8)).trans But.put⟩
        · rw [keys_snoc]
          refine List.nodup_append.mpr ⟨j2, (by simp), fun x hx y hy z => ?_⟩
          rw [List.mem_singleton.mp hy] at z
          exact nk (z ▸ hx)
        · rcases List.mem_append.mp hx with hx | hx
          · have := j3 x hx
            exact ⟨this.1, this.2.1, this.2.2.1, by have := this.2.2.2; omega⟩
          · rw [List.mem_singleton.mp hx]
            exact ⟨rfl, e, by omega, by show (0 : Int) + (i : Int) < _; omega⟩
        · rw [keys_snoc, List.mem_append]
          by_cases z : n = 0 + (i : Int)
          · exact .inr (by rw [z]; exact List.mem_singleton_self _)
          · exact .inl (j4 n h1 (by omega) h3)
    obtain ⟨x12, x13, ME, rfl, j1, j2, j3, j4, j5, j6⟩ := hh
    have back : Same H5 H' := fun b o hb => j6 _ _ (ne_of_none hb nE) (by rw [upd_ne (ne_of_none hb nE)]; exact hb)
    have rng : ∀ {n : Int}, n ∈ ([0, 1, 2, 3] : List Int) → 0 ≤ n ∧ n < 4 := fun {n} h => by
      rcases List.mem_cons.mp h with rfl | h
      · decide
      rcases List.mem_cons.mp h with rfl | h
      · decide
      rcases List.mem_cons.mp h with rfl | h
      · decide
      rw [List.mem_singleton.mp h]
      decide
    have keyAB : ∀ n, n ∈ keysOf MA ∨ n ∈ keysOf MB → 0 ≤ n ∧ n < 4 := fun n h => by
      rcases h with h | h
      · obtain ⟨e, he, rfl⟩ := List.mem_map.mp h
        exact rng (smA e he).1
      · obtain ⟨e, he, rfl⟩ := List.mem_map.mp h
        exact rng (smB e he).1
    have sameKeys : ∀ n, n ∈ keysOf MC ↔ n ∈ keysOf ME := fun n => by
      constructor
      · intro h
        obtain ⟨e, he, rfl⟩ := List.mem_map.mp h
        obtain ⟨v1, v2⟩ := valC e he
        have r := keyAB _ v2
        exact j4 _ r.1 r.2 (by rw [← v1]; exact neC e he)
      · intro h
        obtain ⟨e, he, rfl⟩ := List.mem_map.mp h
        obtain ⟨v1, v2, _⟩ := j3 e he
        rw [v1] at v2
        refine keyC _ ?_ v2
        by_cases z : e.1 ∈ keysOf MA
        · exact .inl z
        · by_cases z2 : e.1 ∈ keysOf MB
          · exact .inr z2
          · exact absurd (by show (onv MA e.1).sub (onv MB) = _; rw [onv_no z]; exact onv_no z2) v2
    have subC' := subC.keep back
    obtain ⟨kvsC, hkC, prC⟩ := id subC'
    obtain ⟨kvsE, hkE, prE⟩ := id j1
    have td : TyN H' (.ref dC) "dict" := .inr (.inr ⟨rfl, kvsC, hkC⟩)
    have okl := okA.len
    have okl2 := okB.len
    refine ⟨_, rfl, ⟨_, _, _, _, true, rfl, .ty _, tyx td, kit_ty (by decide +kernel), _, rfl, iteF ?_⟩⟩
    refine ⟨_, rfl, dC, kvsC, keysOf MC, rfl, .inl hkC, keys_kvs prC, by unfold keysOf; rw [List.length_map]; omega, fun ys p1 pm1 st1 np1 => ?_⟩
    have sp1 := same_new np1 (HO.lst (ys.map V.int))
    refine ⟨_, rfl, E, kvsE, keysOf ME, rfl, .inl (sp1 _ _ hkE), keys_kvs prE, by unfold keysOf; rw [List.length_map]; omega, fun zs p2 pm2 st2 np2 => ?_⟩
    have sp2 := same_new np2 (HO.lst (zs.map V.int))
    have eyz : ys = zs := sorted_same pm1 pm2 st1 st2 ndC j2 sameKeys
    subst eyz
    have ly : ys.length ≤ 4 := by
      have := pm2.length_eq
      unfold keysOf at this
      rw [List.length_map] at this
      omega
    refine ⟨.ref p1, .ref p2, rfl, Eqd.lst (sp2 _ _ upd_same) upd_same rfl (by rw [List.length_map]; omega) (fun i y z hy hz => ?_), fun H6 s6 => ⟨_, rfl, iteF ?_⟩⟩
    · cases hy.symm.trans hz
      rw [List.getElem?_map] at hy
      obtain ⟨m, _, rfl⟩ := Option.map_eq_some_iff.mp hy
      exact Eqd.flat rfl
    have s56 := (sp1.trans sp2).trans s6
    have s36 := s35.trans (back.trans s56)
    refine ⟨_, rfl, _, rfl, [MA, MB], two s36, (by simp), (by show 2 ≤ sizeLine; decide), rp1, rp2, rp3, fun p3' n3' => ?_⟩
    rw [hrep]
    have s67 := same_new n3' (HO.lst [V.ref dA, V.ref dB])
    refine ⟨_, rfl, rfl, _, rfl, ite2 (fun c => ?_) (fun _ => ?_)⟩
    · simp at c
    have s57 := s56.trans s67
    have jE7 := j1.keep s57
    have hE7 := s57 _ _ hkE
    generalize upd H6 p3' (.lst [V.ref dA, V.ref dB]) = H7 at s67 s57 jE7 hE7
    -- the values
    refine ⟨E, .dK kvsE, hE7, trivial, fun od => ?_⟩
    have lock : But E H7 (upd H7 E (.frz od (.dK kvsE))) := But.put
    have klock := KeepT.dict lock jE7
    refine ⟨_, rfl, E, od, rfl, .inl ⟨kvsE, upd_same, fun D3 nD3 => ?_⟩⟩
    have nED : E ≠ D3 := ne_of_none upd_same nD3
    obtain ⟨kvs5, hk5, _⟩ := id subC
    have hCE : dC ≠ E := ne_of_none hk5 nE
    refine lc_it walk_keys (fun _ H' => H' D3 = some (.lst []) ∧ Same (upd H7 E (.frz od (.dK kvsE))) H') ⟨upd_same, same_new nD3 _⟩ (fun _ H' _ h => h.2 _ _ upd_same) (fun j y H' H'' hj h yy => ?_) (fun H8 h => ?_)
    · obtain ⟨h1, h2⟩ := h
      obtain ⟨rfl, k, v, hkv, rfl⟩ := yy
      obtain ⟨⟨m, tm⟩, hM, hk, hat⟩ := L2.paired_get prE hkv
      cases hk
      have mem := List.mem_of_getElem? hM
      have mk : m ∈ keysOf ME := List.mem_map.mpr ⟨_, mem, rfl⟩
      have etm : tm = led MA MB m := (j3 _ mem).1
      have gl := onL m
      obtain ⟨kz, hz, lz2⟩ := ((subC'.keep s57).but lock hCE klock).look m
      obtain ⟨ka, ha, la⟩ := jE7.look m
      cases hE7.symm.trans ha
      obtain ⟨va, a1, a3⟩ : ∃ va, valV kvsE (Sum.inl m : Key) = some va ∧ TmAt H7 va tm := by
        rcases la with ⟨va, ta, a1, a2, a3⟩ | ⟨_, a2⟩
        · rw [← Option.some.inj (a2.symm.trans (look_at j2 mem))]
          exact ⟨va, a1, a3⟩
        · exact absurd mk (look_no a2)
      obtain ⟨vb, c1, c3⟩ : ∃ vb, valV kz (Sum.inl m : Key) = some vb ∧ TmAt (upd H7 E (.frz od (.dK kvsE))) vb tm := by
        rcases lz2 with ⟨vb, tb, c1, c2, c3⟩ | ⟨_, c2⟩
        · rw [etm, ← (valC _ (look_mem c2)).1]
          exact ⟨vb, c1, c3⟩
        · exact absurd ((sameKeys m).mpr mk) (look_no c2)
      refine ⟨rfl, _, rfl, _, rfl, dC, vb, rfl, by rw [← c1]; exact DGet.k (k := Sum.inl m) (h2 _ _ hz), _, rfl, _, rfl, E, va, rfl, .inl ⟨kvsE, Sum.inl m, .inr ⟨od, h2 _ _ upd_same⟩, rfl, a1.symm⟩, ?_⟩
      refine ⟨vb, va, rfl, eqd_tm 8 _ vb va (TmAt.keep (KeepT.of h2) _ _ c3) (TmAt.keep (klock.trans (KeepT.of h2)) _ _ a3) (by rw [etm]; omega) (by rw [etm]; omega), fun H9 s9 => ⟨_, rfl, iteF ⟨s9 _ _ h1, h2.trans s9⟩⟩⟩
    obtain ⟨h1, h2⟩ := h
    refine ⟨h2 _ _ upd_same, D3, [], rfl, .inl (SqL.of (by rw [upd_ne nED.symm]; exact h1)), _, _, rfl, rfl, _, rfl, ite2 (fun c => absurd (of_decide_eq_true c) (by decide)) (fun _ => ?_)⟩
    have s3e : Same H3 (upd H8 E (.dK kvsE)) := (s35.trans (back.trans s57)).trans (same_lock hE7 h2)
    generalize upd H8 E (.dK kvsE) = H9 at s3e
    refine ⟨_, rfl, by decide, by decide, ?_⟩
    refine for_range (n := 4) (fun i σ H' => ∃ (y6 y11 y14 y15 : Option V), σ = [some (.ref a), some (.ref p), some (.ref c), some (.ref P0), x4, x5, y6, some (.ref dA), some (.ref dB), some (.str rep), some (.ref dC), y11, x12, x13, y14, y15] ∧ SubAt H' dA MA ∧ SubAt H' dB MB ∧ PoolAt H' p b ∧ ConsAt H' c cs)
      ⟨x6, some (.ref E), none, none, rfl, hA.keep s3e, hB.keep s3e, pool_same p3 s3e, c3.keep (KeepT.of s3e)⟩ (fun i σ H' hi hh => ?_) (fun σ H' hh => ?_)
    · obtain ⟨y6, y11, y14, y15, rfl, tA, tB, tp, tc⟩ := hh
      refine ⟨_, rfl, _, rfl, (by show 4 ≤ sizeLine; decide), fun l nl => ?_⟩
      have sl := same_new nl (HO.lst [.int 0, .int 1, .int 2, .int 3])
      have nlp : l ≠ p := pool_a tp nl
      refine ⟨_, rfl, p, b, 4, rfl, pool_same tp sl, by decide, by decide, fun d5 I1 z0 z1 p5 e5 => ?_⟩
      refine ⟨_, _, rfl, rfl, ?_⟩
      have ed : (1 : Int) + d5 = ((d5.toNat + 1 : Nat) : Int) := by omega
      have k5 := (KeepT.of sl).trans (KeepT.but e5 (pool_same tp sl))
      refine ⟨p, b, c, l, cs, [0, 1, 2, 3], d5.toNat + 1, ?_, p5, tc.keep k5, hok, SqL.of (e5 _ _ nlp upd_same), nlp, by decide, by omega, by omega, fun v t I2 hv ho p6 e6 => ?_⟩
      · show [V.ref p, V.ref c, V.ref l, V.int (1 + d5)] = _
        rw [ed]
      have sm := over_small hok.ar 4 t (over_mono _ 4 (by omega) t ho)
      refine ⟨_, _, rfl, rfl, ⟨by decide, by decide, by decide⟩, (by show 4 ≤ sizeLine; decide), fun T nT => ?_⟩
      have sT := same_new nT (HO.tup [.int 0, .int 1, .int 7, .int (10 ^ Int.toNat 20)])
      refine ⟨_, rfl, p, b, 4, rfl, pool_same p6 sT, by decide, by decide, fun dx I3 y0 y1 p7 e7 => ?_⟩
      have k7 := (KeepT.of sT).trans (KeepT.but e7 (pool_same p6 sT))
      obtain ⟨by_, hby⟩ : ∃ y : Int, atI [V.int 0, .int 1, .int 7, .int (10 ^ Int.toNat 20)] dx = some (.int y) := by
        have : dx = 0 ∨ dx = 1 ∨ dx = 2 ∨ dx = 3 := by omega
        rcases this with rfl | rfl | rfl | rfl
        · exact ⟨_, rfl⟩
        · exact ⟨_, rfl⟩
        · exact ⟨_, rfl⟩
        · exact ⟨_, rfl⟩
      refine ⟨T, _, dx, .int by_, rfl, rfl, SqT.of (KeepT.but e7 (pool_same p6 sT) _ _ upd_same), hby, ?_⟩
      have mv : ∀ {d : Addr} {M : List (Int × Tm)}, SubAt H' d M → d ≠ p → SubAt I3 d M := fun h n => ((((h.keep sl).but e5 n (KeepT.but e5 (pool_same tp sl))).but e6 n (KeepT.but e6 p5)).keep sT).but e7 n (KeepT.but e7 (pool_same p6 sT))
      have uA := mv tA nA
      have uB := mv tB nB
      have cc := ((tc.keep k5).keep (KeepT.but e6 p5)).keep k7
      have hv3 := TmAt.keep k7 _ _ hv
      have hh4 : t.high ≤ 4 := sm.2
      have hz15 : t.size ≤ 15 := by omega
      have r1 := sub_high t fun n _ => (onA n).2.1
      have r2 := sub_size (k := 7) (by decide) t fun n _ => (onA n).2.2
      have r3 := sub_high t fun n _ => (onB n).2.1
      have r4 := sub_size (k := 7) (by decide) t fun n _ => (onB n).2.2
      have r5 := sub_high (m := 1) (θ := fun n => .var (n + by_)) t fun n _ => Nat.le_refl _
      have r6 := sub_size (k := 1) (θ := fun n => .var (n + by_)) (by decide) t fun n _ => Nat.le_refl _
      -- what is due
      refine ⟨_, rfl, _, rfl, v, t, (dA, MA), rfl, hv3, hh4, by omega, uA, fun u1 J1 hu1 q1 => ?_⟩
      refine ⟨_, rfl, _, rfl, v, t, (dB, MB), rfl, TmAt.keep (KeepT.of q1) _ _ hv3, hh4, by omega, uB.keep q1, fun u2 J2 hu2 q2 => ?_⟩
      refine ⟨_, rfl, _, rfl, v, t, by_, rfl, TmAt.keep (KeepT.of (q1.trans q2)) _ _ hv3, hh4, by omega, trivial, fun u3 J3 hu3 q3 => ?_⟩
      refine ⟨(by show 3 ≤ sizeLine; decide), fun L nL => ?_⟩
      have sL := same_new nL (HO.lst [u1, u2, u3])
      have q13 := (q1.trans q2).trans (q3.trans sL)
      have hL : (upd J3 L (.lst [u1, u2, u3])) L = some (HO.lst [u1, u2, u3]) := upd_same
      have du1 := TmAt.keep (KeepT.of ((q2.trans q3).trans sL)) _ _ hu1
      have du2 := TmAt.keep (KeepT.of (q3.trans sL)) _ _ hu2
      have du3 := TmAt.keep (KeepT.of sL) _ _ hu3
      generalize upd J3 L (.lst [u1, u2, u3]) = J4 at sL q13 hL du1 du2 du3
      -- what is told
      refine ⟨_, rfl, _, rfl, v, t, (dA, MA), rfl, TmAt.keep (KeepT.of q13) _ _ hv3, hh4, by omega, uA.keep q13, fun w1 J5 hw1 q5 => ?_⟩
      refine ⟨_, rfl, _, rfl, v, t, (dB, MB), rfl, TmAt.keep (KeepT.of (q13.trans q5)) _ _ hv3, hh4, by omega, uB.keep (q13.trans q5), fun w2 J6 hw2 q6 => ?_⟩
      refine ⟨_, rfl, _, rfl, v, t, by_, rfl, TmAt.keep (KeepT.of ((q13.trans q5).trans q6)) _ _ hv3, hh4, by omega, trivial, fun w3 J7 hw3 q7 => ?_⟩
      refine ⟨(by show 3 ≤ sizeLine; decide), fun L2 nL2 => ?_⟩
      have sL2 := same_new nL2 (HO.lst [w1, w2, w3])
      have q47 := (q5.trans q6).trans (q7.trans sL2)
      refine ⟨_, rfl, .ref L2, .ref L, rfl, ?_, fun J8 q8 => ⟨_, rfl, iteF ?_⟩⟩
      · refine Eqd.lst upd_same (q47 _ _ hL) rfl (by show 3 ≤ 1000000; decide) fun i x y hx hy => ?_
        match i, hx, hy with
        | 0, hx, hy => cases hx; cases hy; exact eqd_tm 7 _ _ _ (TmAt.keep (KeepT.of ((q6.trans q7).trans sL2)) _ _ hw1) (TmAt.keep (KeepT.of q47) _ _ du1) (show (t.sub (onv MA)).high ≤ 7 by omega) (show (t.sub (onv MA)).size ≤ 1000 by omega)
        | 1, hx, hy => cases hx; cases hy; exact eqd_tm 7 _ _ _ (TmAt.keep (KeepT.of (q7.trans sL2)) _ _ hw2) (TmAt.keep (KeepT.of q47) _ _ du2) (show (t.sub (onv MB)).high ≤ 7 by omega) (show (t.sub (onv MB)).size ≤ 1000 by omega)
        | 2, hx, hy => cases hx; cases hy; exact eqd_tm 7 _ _ _ (TmAt.keep (KeepT.of sL2) _ _ hw3) (TmAt.keep (KeepT.of q47) _ _ du3) (by omega) (by omega)
        | n + 3, hx, _ => cases hx
      have qq := q13.trans (q47.trans q8)
      refine ⟨_, rfl, _, rfl, [MA, MB], .cons ⟨dA, rfl, uA.keep qq⟩ (.cons ⟨dB, rfl, uB.keep qq⟩ .nil), (by simp), (by show 2 ≤ sizeLine; decide), rp1, rp2, rp3, fun px nx => ?_⟩
      rw [hrep]
      have sx := qq.trans (same_new nx (HO.lst [V.ref dA, V.ref dB]))
      refine ⟨_, rfl, rfl, _, rfl, ite2 (fun c => ?_) (fun _ => ?_)⟩
      · simp at c
      exact ⟨_, _, _, _, rfl, uA.keep sx, uB.keep sx, pool_same p7 sx, cc.keep (KeepT.of sx)⟩
    · obtain ⟨y6, y11, y14, y15, rfl, _⟩ := hh
      exact q H'
end
end Cf
namespace Cf
open PySem L2
section
theorem all_mk {l : PySem.W.OpenLaw} {w : World} {K : PySem.W.Frag} {h : Heap} {mg : Str → Option Value} {fa fPool fSpread fDraw fPick fSpelled fWords fCons fTerm fIsInt fSame fSubst fShift fReplace fMoved fComp fLaw : Addr} (X : K.In h) (G : h.Ns mainGlobals mg) (hfa : mg "law" = some (.ref fa))
    {odPool anPool odSpread anSpread odDraw anDraw odPick anPick odSpelled anSpelled odWords anWords odCons anCons odTerm anTerm odIsInt anIsInt odSame anSame odSubst anSubst odShift anShift odReplace anReplace odMoved anMoved odComp anComp odLaw anLaw : Option Addr} {slPool slSpread slDraw slPick slSpelled slWords slCons slTerm slIsInt slSame slSubst slShift slReplace slMoved slComp slLaw : Array (Option Value)} {ocPool kVPool dcPool pmPool cdPool ctPool ocSpread kVSpread dcSpread pmSpread cdSpread ctSpread ocDraw kVDraw dcDraw pmDraw cdDraw ctDraw ocPick kVPick dcPick pmPick cdPick ctPick ocSpelled kVSpelled dcSpelled pmSpelled cdSpelled ctSpelled ocWords kVWords dcWords pmWords cdWords ctWords ocCons kVCons dcCons pmCons cdCons ctCons ocTerm kVTerm dcTerm pmTerm cdTerm ctTerm ocIsInt kVIsInt dcIsInt pmIsInt cdIsInt ctIsInt ocSame kVSame dcSame pmSame cdSame ctSame ocSubst kVSubst dcSubst pmSubst cdSubst ctSubst ocShift kVShift dcShift pmShift cdShift ctShift ocReplace kVReplace dcReplace pmReplace cdReplace ctReplace ocMoved kVMoved dcMoved pmMoved cdMoved ctMoved ocComp kVComp dcComp pmComp cdComp ctComp ocLaw kVLaw dcLaw pmLaw cdLaw ctLaw : Value}
    (aPool : PySem.W.nsIn K mainGlobals "_law_pool" = some (some (.ref fPool)))
    (lPool : K.lookup fPool = some ⟨ocPool, odPool, .func (PySem.W.fnOf "_law_pool" "_law_pool" (defArgs sPool) (defBody sPool) (defScope sPool) .none kVPool dcPool pmPool anPool cdPool ctPool), slPool⟩)
    (cPool : PySem.W.codeIn K cdPool "_law_pool" = true) (kPool : PySem.W.keepIn K (.ref fPool) = true)
    (aSpread : PySem.W.nsIn K mainGlobals "_law_spread" = some (some (.ref fSpread)))
    (lSpread : K.lookup fSpread = some ⟨ocSpread, odSpread, .func (PySem.W.fnOf "_law_spread" "_law_spread" (defArgs sSpread) (defBody sSpread) (defScope sSpread) .none kVSpread dcSpread pmSpread anSpread cdSpread ctSpread), slSpread⟩)
    (cSpread : PySem.W.codeIn K cdSpread "_law_spread" = true) (kSpread : PySem.W.keepIn K (.ref fSpread) = true)
    (aDraw : PySem.W.nsIn K mainGlobals "_law_draw" = some (some (.ref fDraw)))
    (lDraw : K.lookup fDraw = some ⟨ocDraw, odDraw, .func (PySem.W.fnOf "_law_draw" "_law_draw" (defArgs sDraw) (defBody sDraw) (defScope sDraw) .none kVDraw dcDraw pmDraw anDraw cdDraw ctDraw), slDraw⟩)
    (cDraw : PySem.W.codeIn K cdDraw "_law_draw" = true) (kDraw : PySem.W.keepIn K (.ref fDraw) = true)
    (aPick : PySem.W.nsIn K mainGlobals "_law_pick" = some (some (.ref fPick)))
    (lPick : K.lookup fPick = some ⟨ocPick, odPick, .func (PySem.W.fnOf "_law_pick" "_law_pick" (defArgs sPick) (defBody sPick) (defScope sPick) .none kVPick dcPick pmPick anPick cdPick ctPick), slPick⟩)
    (cPick : PySem.W.codeIn K cdPick "_law_pick" = true) (kPick : PySem.W.keepIn K (.ref fPick) = true)
    (aSpelled : PySem.W.nsIn K mainGlobals "_law_spelled" = some (some (.ref fSpelled)))
    (lSpelled : K.lookup fSpelled = some ⟨ocSpelled, odSpelled, .func (PySem.W.fnOf "_law_spelled" "_law_spelled" (defArgs sSpelled) (defBody sSpelled) (defScope sSpelled) .none kVSpelled dcSpelled pmSpelled anSpelled cdSpelled ctSpelled), slSpelled⟩)
    (cSpelled : PySem.W.codeIn K cdSpelled "_law_spelled" = true) (kSpelled : PySem.W.keepIn K (.ref fSpelled) = true)
    (aWords : PySem.W.nsIn K mainGlobals "_law_words" = some (some (.ref fWords)))
    (lWords : K.lookup fWords = some ⟨ocWords, odWords, .func (PySem.W.fnOf "_law_words" "_law_words" (defArgs sWords) (defBody sWords) (defScope sWords) .none kVWords dcWords pmWords anWords cdWords ctWords), slWords⟩)
    (cWords : PySem.W.codeIn K cdWords "_law_words" = true) (kWords : PySem.W.keepIn K (.ref fWords) = true)
    (aCons : PySem.W.nsIn K mainGlobals "_law_constructors" = some (some (.ref fCons)))
    (lCons : K.lookup fCons = some ⟨ocCons, odCons, .func (PySem.W.fnOf "_law_constructors" "_law_constructors" (defArgs sCons) (defBody sCons) (defScope sCons) .none kVCons dcCons pmCons anCons cdCons ctCons), slCons⟩)
    (cCons : PySem.W.codeIn K cdCons "_law_constructors" = true) (kCons : PySem.W.keepIn K (.ref fCons) = true)
    (aTerm : PySem.W.nsIn K mainGlobals "_law_term" = some (some (.ref fTerm)))
    (lTerm : K.lookup fTerm = some ⟨ocTerm, odTerm, .func (PySem.W.fnOf "_law_term" "_law_term" (defArgs sTerm) (defBody sTerm) (defScope sTerm) .none kVTerm dcTerm pmTerm anTerm cdTerm ctTerm), slTerm⟩)
    (cTerm : PySem.W.codeIn K cdTerm "_law_term" = true) (kTerm : PySem.W.keepIn K (.ref fTerm) = true)
    (aIsInt : PySem.W.nsIn K mainGlobals "_law_is_integer" = some (some (.ref fIsInt)))
    (lIsInt : K.lookup fIsInt = some ⟨ocIsInt, odIsInt, .func (PySem.W.fnOf "_law_is_integer" "_law_is_integer" (defArgs sIsInt) (defBody sIsInt) (defScope sIsInt) .none kVIsInt dcIsInt pmIsInt anIsInt cdIsInt ctIsInt), slIsInt⟩)
    (cIsInt : PySem.W.codeIn K cdIsInt "_law_is_integer" = true) (kIsInt : PySem.W.keepIn K (.ref fIsInt) = true)
    (aSame : PySem.W.nsIn K mainGlobals "_law_same" = some (some (.ref fSame)))
    (lSame : K.lookup fSame = some ⟨ocSame, odSame, .func (PySem.W.fnOf "_law_same" "_law_same" (defArgs sSame) (defBody sSame) (defScope sSame) .none kVSame dcSame pmSame anSame cdSame ctSame), slSame⟩)
    (cSame : PySem.W.codeIn K cdSame "_law_same" = true) (kSame : PySem.W.keepIn K (.ref fSame) = true)
    (aSubst : PySem.W.nsIn K mainGlobals "substituted" = some (some (.ref fSubst)))
    (lSubst : K.lookup fSubst = some ⟨ocSubst, odSubst, .func (PySem.W.fnOf "substituted" "substituted" (defArgs sSubst) (defBody sSubst) (defScope sSubst) .none kVSubst dcSubst pmSubst anSubst cdSubst ctSubst), slSubst⟩)
    (cSubst : PySem.W.codeIn K cdSubst "substituted" = true) (kSubst : PySem.W.keepIn K (.ref fSubst) = true)
    (aShift : PySem.W.nsIn K mainGlobals "shifted" = some (some (.ref fShift)))
    (lShift : K.lookup fShift = some ⟨ocShift, odShift, .func (PySem.W.fnOf "shifted" "shifted" (defArgs sShift) (defBody sShift) (defScope sShift) .none kVShift dcShift pmShift anShift cdShift ctShift), slShift⟩)
    (cShift : PySem.W.codeIn K cdShift "shifted" = true) (kShift : PySem.W.keepIn K (.ref fShift) = true)
    (aReplace : PySem.W.nsIn K mainGlobals "_law_replace" = some (some (.ref fReplace)))
    (lReplace : K.lookup fReplace = some ⟨ocReplace, odReplace, .func (PySem.W.fnOf "_law_replace" "_law_replace" (defArgs sReplace) (defBody sReplace) (defScope sReplace) .none kVReplace dcReplace pmReplace anReplace cdReplace ctReplace), slReplace⟩)
    (cReplace : PySem.W.codeIn K cdReplace "_law_replace" = true) (kReplace : PySem.W.keepIn K (.ref fReplace) = true)
    (aMoved : PySem.W.nsIn K mainGlobals "_law_moved" = some (some (.ref fMoved)))
    (lMoved : K.lookup fMoved = some ⟨ocMoved, odMoved, .func (PySem.W.fnOf "_law_moved" "_law_moved" (defArgs sMoved) (defBody sMoved) (defScope sMoved) .none kVMoved dcMoved pmMoved anMoved cdMoved ctMoved), slMoved⟩)
    (cMoved : PySem.W.codeIn K cdMoved "_law_moved" = true) (kMoved : PySem.W.keepIn K (.ref fMoved) = true)
    (aComp : PySem.W.nsIn K mainGlobals "composed" = some (some (.ref fComp)))
    (lComp : K.lookup fComp = some ⟨ocComp, odComp, .func (PySem.W.fnOf "composed" "composed" (defArgs sComp) (defBody sComp) (defScope sComp) .none kVComp dcComp pmComp anComp cdComp ctComp), slComp⟩)
    (cComp : PySem.W.codeIn K cdComp "composed" = true) (kComp : PySem.W.keepIn K (.ref fComp) = true)
    (aLaw : PySem.W.nsIn K mainGlobals "law" = some (some (.ref fLaw)))
    (lLaw : K.lookup fLaw = some ⟨ocLaw, odLaw, .func (PySem.W.fnOf "law" "law" (defArgs sLaw) (defBody sLaw) (defScope sLaw) .none kVLaw dcLaw pmLaw anLaw cdLaw ctLaw), slLaw⟩)
    (cLaw : PySem.W.codeIn K cdLaw "law" = true) (kLaw : PySem.W.keepIn K (.ref fLaw) = true)
    (z0 : PySem.W.nsIn K mainGlobals "int" = some none)
    (z1 : PySem.W.nsIn K mainGlobals "len" = some none)
    (z2 : PySem.W.nsIn K mainGlobals "range" = some none)
    (z3 : PySem.W.nsIn K mainGlobals "list" = some none)
    (z4 : PySem.W.nsIn K mainGlobals "tuple" = some none)
    (z5 : PySem.W.nsIn K mainGlobals "isinstance" = some none)
    (z6 : PySem.W.nsIn K mainGlobals "bool" = some none)
    (z7 : PySem.W.nsIn K mainGlobals "str" = some none)
    (z8 : PySem.W.nsIn K mainGlobals "type" = some none)
    (z9 : PySem.W.nsIn K mainGlobals "max" = some none)
    (z10 : PySem.W.nsIn K mainGlobals "sum" = some none)
    (z11 : PySem.W.nsIn K mainGlobals "set" = some none)
    (z12 : PySem.W.nsIn K mainGlobals "dict" = some none)
    (z13 : PySem.W.nsIn K mainGlobals "sorted" = some none)
    (z14 : PySem.W.nsIn K mainGlobals "enumerate" = some none)
    (z15 : PySem.W.nsIn K mainGlobals "zip" = some none)
    (z16 : PySem.W.nsIn K mainGlobals "all" = some none)
    (z17 : PySem.W.nsIn K mainGlobals "repr" = some none)
    (z18 : PySem.W.nsIn K mainGlobals "min" = some none)
    : ∃ fd : FuncData, (∀ (s : Shared) (v : Value), BindsTo s fd ⟨[v], []⟩ [("script", v)]) ∧ ∀ base : Heap, K.In base → base.Ns mainGlobals mg → Cr.RunsG l.prog w K mg base 10 fa fd ["script"] (spLaw K) := by
  have e := hfa.symm.trans (PySem.W.mg_of X G aLaw)
  cases e
  have FPool := fun_mk (st := sPool) lPool cPool kPool
  have FSpread := fun_mk (st := sSpread) lSpread cSpread kSpread
  have FDraw := fun_mk (st := sDraw) lDraw cDraw kDraw
  have FPick := fun_mk (st := sPick) lPick cPick kPick
  have FSpelled := fun_mk (st := sSpelled) lSpelled cSpelled kSpelled
  have FWords := fun_mk (st := sWords) lWords cWords kWords
  have FCons := fun_mk (st := sCons) lCons cCons kCons
  have FTerm := fun_mk (st := sTerm) lTerm cTerm kTerm
  have FIsInt := fun_mk (st := sIsInt) lIsInt cIsInt kIsInt
  have FSame := fun_mk (st := sSame) lSame cSame kSame
  have FSubst := fun_mk (st := sSubst) lSubst cSubst kSubst
  have FShift := fun_mk (st := sShift) lShift cShift kShift
  have FReplace := fun_mk (st := sReplace) lReplace cReplace kReplace
  have FMoved := fun_mk (st := sMoved) lMoved cMoved kMoved
  have FComp := fun_mk (st := sComp) lComp cComp kComp
  have FLaw := fun_mk (st := sLaw) lLaw cLaw kLaw
  have bPool := FPool.binds (ps := ["script"]) fun _ _ _ _ _ _ us hl => match us, hl with | [_], _ => rfl
  have mPool := PySem.W.mg_of X G aPool
  have bSpread := FSpread.binds (ps := ["cell"]) fun _ _ _ _ _ _ us hl => match us, hl with | [_], _ => rfl
  have mSpread := PySem.W.mg_of X G aSpread
  have bDraw := FDraw.binds (ps := ["pool", "many"]) fun _ _ _ _ _ _ us hl => match us, hl with | [_, _], _ => rfl
  have mDraw := PySem.W.mg_of X G aDraw
  have bPick := FPick.binds (ps := ["pool", "items"]) fun _ _ _ _ _ _ us hl => match us, hl with | [_, _], _ => rfl
  have mPick := PySem.W.mg_of X G aPick
  have bSpelled := FSpelled.binds (ps := ["number"]) fun _ _ _ _ _ _ us hl => match us, hl with | [_], _ => rfl
  have mSpelled := PySem.W.mg_of X G aSpelled
  have bWords := FWords.binds (ps := ["pool", "many"]) fun _ _ _ _ _ _ us hl => match us, hl with | [_, _], _ => rfl
  have mWords := PySem.W.mg_of X G aWords
  have bCons := FCons.binds (ps := ["pool"]) fun _ _ _ _ _ _ us hl => match us, hl with | [_], _ => rfl
  have mCons := PySem.W.mg_of X G aCons
  have bTerm := FTerm.binds (ps := ["pool", "constructors", "numbers", "deep"]) fun _ _ _ _ _ _ us hl => match us, hl with | [_, _, _, _], _ => rfl
  have mTerm := PySem.W.mg_of X G aTerm
  have bIsInt := FIsInt.binds (ps := ["actual"]) fun _ _ _ _ _ _ us hl => match us, hl with | [_], _ => rfl
  have mIsInt := PySem.W.mg_of X G aIsInt
  have bSame := FSame.binds (ps := ["actual", "due"]) fun _ _ _ _ _ _ us hl => match us, hl with | [_, _], _ => rfl
  have mSame := PySem.W.mg_of X G aSame
  have bSubst := FSubst.binds (ps := ["term", "substitution"]) fun _ _ _ _ _ _ us hl => match us, hl with | [_, _], _ => rfl
  have mSubst := PySem.W.mg_of X G aSubst
  have bShift := FShift.binds (ps := ["term", "n"]) fun _ _ _ _ _ _ us hl => match us, hl with | [_, _], _ => rfl
  have mShift := PySem.W.mg_of X G aShift
  have bReplace := FReplace.binds (ps := ["term", "given"]) fun _ _ _ _ _ _ us hl => match us, hl with | [_, _], _ => rfl
  have mReplace := PySem.W.mg_of X G aReplace
  have bMoved := FMoved.binds (ps := ["term", "by"]) fun _ _ _ _ _ _ us hl => match us, hl with | [_, _], _ => rfl
  have mMoved := PySem.W.mg_of X G aMoved
  have bComp := FComp.binds (ps := ["first", "second"]) fun _ _ _ _ _ _ us hl => match us, hl with | [_, _], _ => rfl
  have mComp := PySem.W.mg_of X G aComp
  have B : Blt mg := ⟨PySem.W.mg_none_of X G z0, PySem.W.mg_none_of X G z1, PySem.W.mg_none_of X G z2, PySem.W.mg_none_of X G z3, PySem.W.mg_none_of X G z4, PySem.W.mg_none_of X G z5, PySem.W.mg_none_of X G z6, PySem.W.mg_none_of X G z7, PySem.W.mg_none_of X G z8, PySem.W.mg_none_of X G z9, PySem.W.mg_none_of X G z10, PySem.W.mg_none_of X G z11, PySem.W.mg_none_of X G z12, PySem.W.mg_none_of X G z13, PySem.W.mg_none_of X G z14, PySem.W.mg_none_of X G z15, PySem.W.mg_none_of X G z16, PySem.W.mg_none_of X G z17, PySem.W.mg_none_of X G z18⟩
  refine ⟨PySem.W.fnOf "law" "law" (defArgs sLaw) (defBody sLaw) (defScope sLaw) .none kVLaw dcLaw pmLaw anLaw cdLaw ctLaw, fun s v => .of_eq rfl, fun base _ _ => ?_⟩
  have GPool := ok_pool (P := l.prog) (w := w) (mg := mg) (base := base) FPool B
  have APool : At l.prog w K mg base "_law_pool" _ _ _ := ⟨fPool, _, GPool, bPool, kPool, mPool⟩
  have GSpread := ok_spread (P := l.prog) (w := w) (mg := mg) (base := base) FSpread B
  have ASpread : At l.prog w K mg base "_law_spread" _ _ _ := ⟨fSpread, _, GSpread, bSpread, kSpread, mSpread⟩
  have GDraw := ok_draw FDraw B GSpread bSpread kSpread mSpread
  have ADraw : At l.prog w K mg base "_law_draw" _ _ _ := ⟨fDraw, _, GDraw, bDraw, kDraw, mDraw⟩
  have GPick := ok_pick FPick B GDraw bDraw kDraw mDraw
  have APick : At l.prog w K mg base "_law_pick" _ _ _ := ⟨fPick, _, GPick, bPick, kPick, mPick⟩
  have GSpelled := ok_spelled (P := l.prog) (w := w) (mg := mg) (base := base) FSpelled B
  have ASpelled : At l.prog w K mg base "_law_spelled" _ _ _ := ⟨fSpelled, _, GSpelled, bSpelled, kSpelled, mSpelled⟩
  have GWords := ok_words FWords B GDraw bDraw kDraw mDraw GSpelled bSpelled kSpelled mSpelled
  have AWords : At l.prog w K mg base "_law_words" _ _ _ := ⟨fWords, _, GWords, bWords, kWords, mWords⟩
  have GCons := ok_cons FCons B GDraw bDraw kDraw mDraw GWords bWords kWords mWords
  have ACons : At l.prog w K mg base "_law_constructors" _ _ _ := ⟨fCons, _, GCons, bCons, kCons, mCons⟩
  have GTerm := ok_term FTerm B GDraw bDraw kDraw mDraw GPick bPick kPick mPick bTerm mTerm 4
  have ATerm : At l.prog w K mg base "_law_term" _ _ _ := ⟨fTerm, _, GTerm, bTerm, kTerm, mTerm⟩
  have GIsInt := ok_isInt (P := l.prog) (w := w) (mg := mg) (base := base) FIsInt B
  have AIsInt : At l.prog w K mg base "_law_is_integer" _ _ _ := ⟨fIsInt, _, GIsInt, bIsInt, kIsInt, mIsInt⟩
  have GSame := ok_same (P := l.prog) (w := w) (mg := mg) (base := base) FSame B bSame mSame 9
  have ASame : At l.prog w K mg base "_law_same" _ _ _ := ⟨fSame, _, GSame, bSame, kSame, mSame⟩
  have GSubst := ok_Subst (P := l.prog) (w := w) (mg := mg) (base := base) FSubst B bSubst mSubst 4
  have ASubst : At l.prog w K mg base "substituted" _ _ _ := ⟨fSubst, _, GSubst, bSubst, kSubst, mSubst⟩
  have GShift := ok_Shift (P := l.prog) (w := w) (mg := mg) (base := base) FShift B bShift mShift 4
  have AShift : At l.prog w K mg base "shifted" _ _ _ := ⟨fShift, _, GShift, bShift, kShift, mShift⟩
  have GReplace := ok_Replace FReplace B GIsInt bIsInt kIsInt mIsInt bReplace mReplace 4
  have AReplace : At l.prog w K mg base "_law_replace" _ _ _ := ⟨fReplace, _, GReplace, bReplace, kReplace, mReplace⟩
  have GMoved := ok_Moved FMoved B GIsInt bIsInt kIsInt mIsInt bMoved mMoved 4
  have AMoved : At l.prog w K mg base "_law_moved" _ _ _ := ⟨fMoved, _, GMoved, bMoved, kMoved, mMoved⟩
  have GComp := ok_comp FComp B GSubst bSubst kSubst mSubst
  have AComp : At l.prog w K mg base "composed" _ _ _ := ⟨fComp, _, GComp, bComp, kComp, mComp⟩
  exact ok_law FLaw B APool ACons ADraw ATerm AMoved AReplace ASubst AShift ASame AComp
theorem walk {l : PySem.W.OpenLaw} {q : Program} {loose : List Str} {XP : (Str → Option Value) → Heap → Prop} {YP : World → Heap → Prop} {d : DefRec} {K : Params → PySem.W.Frag} (hn : l.most = some 63) (hdf : d.params.defaults = [])
    (hY : ∀ (w : World) (h : Heap), YP w h → (K w.params).In h)
    (F : ∀ (w : World) (mg : Str → Option Value) (fa : Addr) (h : Heap), (K w.params).In h → h.Ns mainGlobals mg → mg d.name = some (.ref fa) →
      ∃ fd : FuncData, (∀ (s : Shared) (u : Value), BindsTo s fd ⟨[u], []⟩ [("script", u)]) ∧ ∀ base : Heap, (K w.params).In base → base.Ns mainGlobals mg → Cr.RunsG l.prog w (K w.params) mg base 10 fa fd ["script"] (spLaw (K w.params))) :
    PySem.W.WalkO q loose XP YP l.row.toRowW d [] (fun f vs => PySem.call f vs) :=
  Cr.walk_g (n := 63) (k := 10) (x := "script") (sp := fun w => spLaw (K w.params)) hn (by decide) hdf ⟨rfl, by decide, by decide⟩ hY F (fun _ _ a ns hl _ hS => ⟨a, ns, rfl, hS, hl, fun _ => rfl⟩)
end
end Cf
open PySem PySem.W PyProof.Rows
set_option maxRecDepth 100000 in
set_option maxHeartbeats 0 in
theorem PySem.Challenge.cw_casefamilies_k04_substitutions_holds : PySem.Challenge.rw_casefamilies_k04_substitutions.Holds := by
  w_on; o_law; k_head; (case hw => w_witness2)
  k_fill
  refine Cf.walk (l := PySem.Challenge.rw_casefamilies_k04_substitutions) rfl rfl (fun w h Y => PySem.W.kIn_of Y) ?F
  case F =>
    intro w mg fa h KX G hmg
    refine' Cf.all_mk KX G hmg ?aPool ?lPool ?cPool ?kPool ?aSpread ?lSpread ?cSpread ?kSpread ?aDraw ?lDraw ?cDraw ?kDraw ?aPick ?lPick ?cPick ?kPick ?aSpelled ?lSpelled ?cSpelled ?kSpelled ?aWords ?lWords ?cWords ?kWords ?aCons ?lCons ?cCons ?kCons ?aTerm ?lTerm ?cTerm ?kTerm ?aIsInt ?lIsInt ?cIsInt ?kIsInt ?aSame ?lSame ?cSame ?kSame ?aSubst ?lSubst ?cSubst ?kSubst ?aShift ?lShift ?cShift ?kShift ?aReplace ?lReplace ?cReplace ?kReplace ?aMoved ?lMoved ?cMoved ?kMoved ?aComp ?lComp ?cComp ?kComp ?aLaw ?lLaw ?cLaw ?kLaw ?z0 ?z1 ?z2 ?z3 ?z4 ?z5 ?z6 ?z7 ?z8 ?z9 ?z10 ?z11 ?z12 ?z13 ?z14 ?z15 ?z16 ?z17 ?z18
    (case aPool => k_is); (case lPool => k_is); (case cPool => k_is); (case kPool => k_is)
    (case aSpread => k_is); (case lSpread => k_is); (case cSpread => k_is); (case kSpread => k_is)
    (case aDraw => k_is); (case lDraw => k_is); (case cDraw => k_is); (case kDraw => k_is)
    (case aPick => k_is); (case lPick => k_is); (case cPick => k_is); (case kPick => k_is)
    (case aSpelled => k_is); (case lSpelled => k_is); (case cSpelled => k_is); (case kSpelled => k_is)
    (case aWords => k_is); (case lWords => k_is); (case cWords => k_is); (case kWords => k_is)
    (case aCons => k_is); (case lCons => k_is); (case cCons => k_is); (case kCons => k_is)
    (case aTerm => k_is); (case lTerm => k_is); (case cTerm => k_is); (case kTerm => k_is)
    (case aIsInt => k_is); (case lIsInt => k_is); (case cIsInt => k_is); (case kIsInt => k_is)
    (case aSame => k_is); (case lSame => k_is); (case cSame => k_is); (case kSame => k_is)
    (case aSubst => k_is); (case lSubst => k_is); (case cSubst => k_is); (case kSubst => k_is)
    (case aShift => k_is); (case lShift => k_is); (case cShift => k_is); (case kShift => k_is)
    (case aReplace => k_is); (case lReplace => k_is); (case cReplace => k_is); (case kReplace => k_is)
    (case aMoved => k_is); (case lMoved => k_is); (case cMoved => k_is); (case kMoved => k_is)
    (case aComp => k_is); (case lComp => k_is); (case cComp => k_is); (case kComp => k_is)
    (case aLaw => k_is); (case lLaw => k_is); (case cLaw => k_is); (case kLaw => k_is)
    (case z0 => k_is)
    (case z1 => k_is)
    (case z2 => k_is)
    (case z3 => k_is)
    (case z4 => k_is)
    (case z5 => k_is)
    (case z6 => k_is)
    (case z7 => k_is)
    (case z8 => k_is)
    (case z9 => k_is)
    (case z10 => k_is)
    (case z11 => k_is)
    (case z12 => k_is)
    (case z13 => k_is)
    (case z14 => k_is)
    (case z15 => k_is)
    (case z16 => k_is)
    (case z17 => k_is)
    (case z18 => k_is)
