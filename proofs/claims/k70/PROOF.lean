import PyProof.Rows.All
import Wide.All
import OpenK.AllK
import Wide.FinOn
import HandS.ForMost
import HandS.Wide
import HandS.IsInst
import HandS.Zip
import HandS.TupAny
import HandS.Evl
import HandS.Codes
import HandS.Walk
import HandS.Conv
import HandS.DictComp
import HandS.More
import PyProof.ReprReads
import PyProof.ReprText
import PyProof.StrLawsRepr
import HandS.Style
import HandS.Flow
import HandS.Text
import HandS.Deep
import HandS.FStr
import HandS.TupMul
import HandS.Iter
import HandS.TupLen
import PyProof.TypeOfCall
import HandS.Flt
import PyProof.ReprRoads
import PyProof.CallFns
import HandS.Dict
import KE.KDictList
import KE.SortData
import KE.KDictSum
import HandS.DictTup
import PySem.Challenge.RW_casefamilies_k70_graphs_joined
set_option Elab.async false
set_option linter.unusedVariables false
set_option linter.unusedSimpArgs false
set_option maxRecDepth 100000
set_option maxHeartbeats 4000000
namespace Cf
open PySem L2
def top (i : Nat) : Stmt := PySem.Challenge.pw_casefamilies_k70_graphs_joined.main.body.getD i (.Pass ⟨0, 0, 0, 0⟩)
/-- the built-in names that the text leaves as they are -/
structure Blt (mg : Str → Option Value) : Prop where
  int : mg "int" = none
  len : mg "len" = none
  range : mg "range" = none
  list : mg "list" = none
  tuple : mg "tuple" = none
  isinstance : mg "isinstance" = none
  bool : mg "bool" = none
  str : mg "str" = none
  type : mg "type" = none
  max : mg "max" = none
  sum : mg "sum" = none
  set : mg "set" = none
  dict : mg "dict" = none
  sorted : mg "sorted" = none
  enumerate : mg "enumerate" = none
  zip : mg "zip" = none
  all : mg "all" = none
  repr : mg "repr" = none
  min : mg "min" = none
/-- all but what stands at a is as it was -/
def But (a : Addr) (H H' : Hp) : Prop := ∀ b o, b ≠ a → H b = some o → H' b = some o
theorem But.refl (a : Addr) (H : Hp) : But a H H := fun _ _ _ h => h
theorem But.trans {a : Addr} {H H1 H2 : Hp} (x : But a H H1) (y : But a H1 H2) : But a H H2 := fun b o n h => y b o n (x b o n h)
theorem But.of {a : Addr} {H H' : Hp} (x : Same H H') : But a H H' := fun b o _ h => x b o h
theorem But.put {a : Addr} {H : Hp} {o : HO} : But a H (upd H a o) := fun b u n h => by rw [upd_ne n]; exact h
theorem same_new {H : Hp} {p : Addr} (h : H p = none) (o : HO) : Same H (upd H p o) := fun b u q => by rw [upd_ne (ne_of_none q h)]; exact q
/-- the pool of a law stands at a: the script's list, a place in it, the rest of a number, how often was drawn, the salt -/
def PoolAt (H : Hp) (a b : Addr) : Prop := ∃ (ns : List Int) (i v c salt : Int), H a = some (.lst [.ref b, .int i, .int v, .int c, .int salt]) ∧ H b = some (.lst (ns.map V.int)) ∧ ns.length ≤ 63 ∧ 0 ≤ i
theorem pool_ne {a b : Addr} {H : Hp} {ns : List Int} {xs : List V} {c : Addr} (h : H a = some (.lst (.ref c :: xs))) (h' : H b = some (.lst (ns.map V.int))) : a ≠ b := by
  refine ne_of h h' fun e => ?_
  cases ns with
  | nil => cases e
  | cons n r => cases e
def spDraw : Sp := fun vs H Q _ => ∃ (a b : Addr) (many : Int), vs = [.ref a, .int many] ∧ PoolAt H a b ∧ 0 < many ∧ many < 2 ^ 63 ∧
  ∀ (d : Int) (H' : Hp), 0 ≤ d → d < many → PoolAt H' a b → But a H H' → Q (.int d) H'
/-- what a def is to the text: where it stands, what it promises -/
structure At (P : Program) (w : World) (K : PySem.W.Frag) (mg : Str → Option Value) (base : Heap) (x : Str) (k : Nat) (ps : List Str) (sp : Sp) : Prop where
  ex : ∃ (f : Addr) (fd : FuncData), FnOk P w K mg base CX0 k f fd ps sp ∧ Binds K fd ps [] ∧ PySem.W.keepIn K (.ref f) = true ∧ mg x = some (.ref f)
def spLaw (K : PySem.W.Frag) : Sp := fun vs H Q _ => ∃ (a : Addr) (ns : List Int), vs = [.ref a] ∧ SqL K H a (ns.map V.int) ∧ ns.length ≤ 63 ∧ ∀ H', Q (.bl true) H'
theorem none_left {P : Program} {w : World} {K : PySem.W.Frag} {mg : Str → Option Value} {base : Heap} {k : Nat} {f : Addr} {fd : FuncData} {ps : List Str} {sp : Sp} (no : ∀ vs H Q E, ¬ sp vs H Q E) : FnOk P w K mg base CX0 k f fd ps sp :=
  ⟨fun vs H Q E h => absurd h (no vs H Q E), fun A outer s H args us vs Q E _ _ _ _ h => absurd h (no vs H Q E)⟩
end Cf
namespace Cf
open PySem L2
abbrev sSpread : Stmt := top 5
def spSpread : Sp := fun vs H Q _ => ∃ c : Int, vs = [.int c] ∧ ∀ t : Int, Q (.int t) H
section
variable {P : Program} {w : World} {K : PySem.W.Frag} {mg : Str → Option Value} {base : Heap}
theorem scSpread : FnScope ["cell", "mixed", "total", "k"] ["cell"] (defScope sSpread) := ⟨rfl, rfl, rfl, by decide +kernel, rfl, by decide +kernel, by decide +kernel⟩
theorem ok_spread {f : Addr} {fd : FuncData} (F : Fun K "_law_spread" "_law_spread" sSpread f fd) (B : Blt mg) : FnOk P w K mg base CX0 1 f fd ["cell"] spSpread := by
  refine F.ok scSpread (fun vs H Q E h => ?_) (fun cdv A outer s H vs Q E hr h => ?_)
  · obtain ⟨c, rfl, _⟩ := h
    rfl
  obtain ⟨c, rfl, q⟩ := h
  refine ⟨_, pss_cons (ps_set (i := 1) scSpread.nd rfl (.inl rfl) (pe_op op_mod (pe_callTy call_int1 (by rfl) B.int (by decide +kernel) (pa_cons (pv 0) pa_nil)) pe_int))
    (pss_cons (ps_set (i := 2) scSpread.nd rfl (.inl rfl) pe_int)
    (pss_cons (ps_for PassesOwn.never rfl (pi_range1 rfl B.range (pa_cons pe_int pa_nil)) (pg_name (i := 3) scSpread.nd rfl (.inl rfl))
      (pss_cons (ps_set (i := 1) scSpread.nd rfl (.inl rfl) (pe_op op_mod (pe_callTy call_int1 (by rfl) B.int (by decide +kernel)
          (pa_cons (pe_op op_add (pe_op op_add (pe_op op_mul (pv 1) pe_int) pe_int) (pv 3)) pa_nil)) pe_int))
      (pss_one (ps_set (i := 2) scSpread.nd rfl (.inl rfl) (pe_op op_add (pe_op op_mul (pv 2) pe_int) (pv 1))))))
    (pss_one (ps_ret (pv 2))))), ?_⟩
  refine ⟨_, rfl, .inl ⟨_, rfl, ?_⟩⟩
  refine ⟨_, _, rfl, rfl, (by show (0 : Int) < _; decide), ?_⟩
  refine ⟨_, rfl, (by decide), (by decide), ?_⟩
  refine for_range (n := 4) (fun i σ H' => H' = H ∧ ∃ (x m t : Int) (k : Option V), σ = [some (.int x), some (.int m), some (.int t), k]) ⟨rfl, _, _, _, _, rfl⟩ (fun i σ H' hi hp => ?_) (fun σ H' hp => ?_)
  · obtain ⟨rfl, x, m, t, k, rfl⟩ := hp
    refine ⟨_, rfl, _, _, rfl, rfl, .inr ⟨by decide, by decide⟩, _, _, rfl, rfl, _, rfl, _, _, rfl, rfl, .inl ⟨_, rfl, ?_⟩⟩
    refine ⟨_, _, rfl, rfl, (by show (0 : Int) < _; decide), ?_⟩
    refine ⟨_, rfl, _, _, rfl, rfl, .inr ⟨by decide, by decide⟩, _, rfl, _, _, rfl, rfl, ?_⟩
    exact ⟨rfl, _, _, _, _, rfl⟩
  · obtain ⟨rfl, x, m, t, k, rfl⟩ := hp
    exact ⟨_, rfl, q t⟩
end
end Cf
namespace Cf
open PySem L2
abbrev sDraw : Stmt := top 6
section
variable {P : Program} {w : World} {K : PySem.W.Frag} {mg : Str → Option Value} {base : Heap}
theorem scDraw : FnScope ["pool", "many", "cell", "mixed", "value"] ["pool", "many"] (defScope sDraw) := ⟨rfl, rfl, rfl, by decide +kernel, rfl, by decide +kernel, by decide +kernel⟩
theorem at0 {a b c d e : V} : atI [a, b, c, d, e] 0 = some a := rfl
theorem at1 {a b c d e : V} : atI [a, b, c, d, e] 1 = some b := rfl
theorem at2 {a b c d e : V} : atI [a, b, c, d, e] 2 = some c := rfl
theorem at3 {a b c d e : V} : atI [a, b, c, d, e] 3 = some d := rfl
theorem at4 {a b c d e : V} : atI [a, b, c, d, e] 4 = some e := rfl
theorem fits63 {m : Int} (h0 : 0 < m) (h : m < 2 ^ 63) (i : Int) : CDivW i m := wide_div (b := 63) h0 (by omega) (by decide) (by decide)
theorem ok_draw {f g : Addr} {fd gd : FuncData} (F : Fun K "_law_draw" "_law_draw" sDraw f fd) (B : Blt mg) (G : FnOk P w K mg base CX0 1 g gd ["cell"] spSpread) (bG : Binds K gd ["cell"] [])
    (kG : PySem.W.keepIn K (.ref g) = true) (mG : mg "_law_spread" = some (.ref g)) : FnOk P w K mg base CX0 2 f fd ["pool", "many"] spDraw := by
  refine F.ok scDraw (fun vs H Q E h => ?_) (fun cdv A outer s H vs Q E hr h => ?_)
  · obtain ⟨a, b, m, rfl, _⟩ := h
    rfl
  obtain ⟨a, b, m, rfl, ⟨ns, i, v, c, salt, ha, hb, hn, hi⟩, m0, m1, q⟩ := h
  have hab : a ≠ b := pool_ne ha hb
  refine ⟨_, Evl.pss_cut (ps_if (PW.pt (pw_and (pt_cmpR op_le (pe_ix ix_list (pv 0) pe_int (fun _ _ => rfl)) pe_int (nomark _)) (pw_and1 (pt_cmpR op_lt (pe_ix ix_list (pv 0) pe_int (fun _ _ => rfl))
        (pe_callB call_len_seq (by rfl) B.len PySem.boot_len (pa_cons (pe_ix ix_list (pv 0) pe_int (fun _ _ => rfl)) pa_nil)) (nomark _)))))
      (pss_cons (ps_set (i := 2) scDraw.nd rfl (.inl rfl) (pe_ix ix_list (pe_ix ix_list (pv 0) pe_int (fun _ _ => rfl)) (pe_ix ix_list (pv 0) pe_int (fun _ _ => rfl)) (fun _ _ => rfl)))
      (pss_cons (ps_asg (pe_op op_add (pe_ix ix_list (pv 0) pe_int (fun _ _ => rfl)) pe_int) (pg_sub (pv 0) pe_int set_list))
      (pss_cons (ps_asg (pv 2) (pg_sub (pv 0) pe_int set_list))
      (pss_one (ps_if (pt_cmpR op_lt (pv 2) pe_int (nomark _)) (pss_one (ps_asg (pe_call G hr rfl mG kG bG .nil pass0 (pa_cons (pv 2) pa_nil)) (pg_sub (pv 0) pe_int set_list))) pss_nil))))) pss_nil)
    (pss_cons (ps_asg (pe_op op_add (pe_ix ix_list (pv 0) pe_int (fun _ _ => rfl)) pe_int) (pg_sub (pv 0) pe_int set_list))
    (pss_cons (ps_if (pt_cmpR op_le (pe_ix ix_list (pv 0) pe_int (fun _ _ => rfl)) pe_int (nomark _))
      (pss_cons (ps_set (i := 3) scDraw.nd rfl (.inl rfl) (pe_op op_mod (pe_callTy call_int1 (by rfl) B.int (by decide +kernel) (pa_cons
          (pe_op op_add (pe_op op_add (pe_op op_mul (pe_ix ix_list (pv 0) pe_int (fun _ _ => rfl)) pe_int) (pe_op op_mul (pe_ix ix_list (pv 0) pe_int (fun _ _ => rfl)) pe_int)) pe_int) pa_nil)) pe_int))
      (pss_cons (ps_set (i := 3) scDraw.nd rfl (.inl rfl) (pe_op op_mod (pe_callTy call_int1 (by rfl) B.int (by decide +kernel) (pa_cons
          (pe_op op_add (pe_op op_mul (pv 3) pe_int) (pe_ix ix_list (pv 0) pe_int (fun _ _ => rfl))) pa_nil)) pe_int))
      (pss_one (ps_ret (pe_op op_mod (pe_op op_fdiv (pv 3) pe_int) (pv 1)))))) pss_nil)
    (pss_cons (ps_set (i := 4) scDraw.nd rfl (.inl rfl) (pe_op op_mod (pe_callTy call_int1 (by rfl) B.int (by decide +kernel) (pa_cons (pe_ix ix_list (pv 0) pe_int (fun _ _ => rfl)) pa_nil)) (pv 1)))
    (pss_cons (ps_asg (pe_op op_fdivW (pe_ix ix_list (pv 0) pe_int (fun _ _ => rfl)) (pv 1)) (pg_sub (pv 0) pe_int set_list))
    (pss_one (ps_ret (pv 4))))))), ?_⟩
  refine ⟨fun σ H1 => ∃ (i v : Int) (cl : Option V), σ = [some (.ref a), some (.int m), cl, none, none] ∧ H1 a = some (.lst [.ref b, .int i, .int v, .int c, .int salt]) ∧ 0 ≤ i ∧ But a H H1, ?_, ?_⟩
  · refine ⟨_, rfl, _, _, _, _, rfl, rfl, SqL.of ha, at2, _, _, rfl, rfl, _, rfl, ite2 (fun c1 => ?_) (fun c1 => iteF ⟨i, v, none, rfl, ha, hi, But.refl _ _⟩)⟩
    refine ⟨_, rfl, _, _, _, _, rfl, rfl, SqL.of ha, at1, _, rfl, _, _, _, _, rfl, rfl, SqL.of ha, at0, b, _, rfl, .inl (SqL.of hb), _, _, rfl, rfl, _, rfl, ite2 (fun c2 => ?_) (fun c2 => ⟨i, v, none, rfl, ha, hi, But.refl _ _⟩)⟩
    have c2' : i < ((ns.map V.int).length : Int) := of_decide_eq_true c2
    rw [List.length_map] at c2'
    have hin : i.toNat < ns.length := by omega
    have ei : i = ((i.toNat : Nat) : Int) := by omega
    have hat : atI (ns.map V.int) i = some (.int ns[i.toNat]) := at_of ei (by rw [List.getElem?_map, List.getElem?_eq_getElem hin] <;> rfl)
    refine ⟨_, rfl, _, _, _, _, rfl, rfl, SqL.of ha, at0, _, rfl, _, _, _, _, rfl, rfl, SqL.of ha, at1, _, _, _, _, rfl, rfl, SqL.of hb, hat, ?_⟩
    refine ⟨_, rfl, _, _, _, _, rfl, rfl, SqL.of ha, at1, _, _, rfl, rfl, _, rfl, _, _, _, 1, rfl, rfl, ha, rfl, ?_⟩
    refine ⟨_, rfl, _, rfl, _, _, _, 2, rfl, rfl, upd_same, rfl, ?_⟩
    refine ⟨_, rfl, _, _, rfl, rfl, _, rfl, ite2 (fun c3 => ?_) (fun c3 => ?_)⟩
    · refine ⟨_, rfl, _, rfl, fun t => ?_⟩
      refine ⟨_, rfl, _, _, _, 2, rfl, rfl, upd_same, rfl, ?_⟩
      exact ⟨i + 1, t, _, rfl, upd_same, by omega, (But.put.trans But.put).trans But.put⟩
    · exact ⟨i + 1, _, _, rfl, upd_same, by omega, But.put.trans But.put⟩
  · rintro σ H1 ⟨i, v, cl, rfl, ha1, hi1, e1⟩
    refine ⟨_, rfl, _, _, _, _, rfl, rfl, SqL.of ha1, at3, _, _, rfl, rfl, _, rfl, _, _, _, 3, rfl, rfl, ha1, rfl, ?_⟩
    have hb1 : H1 b = some (.lst (ns.map V.int)) := e1 b _ hab.symm hb
    have e2 : ∀ o, But a H (upd H1 a o) := fun o => e1.trans But.put
    refine ⟨_, rfl, _, _, _, _, rfl, rfl, SqL.of upd_same, at2, _, _, rfl, rfl, _, rfl, ite2 (fun c1 => ?_) (fun c1 => ?_)⟩
    · refine ⟨_, rfl, _, _, _, _, rfl, rfl, SqL.of upd_same, at4, _, _, rfl, rfl, .inr ⟨by decide, by decide⟩, _, rfl, _, _, _, _, rfl, rfl, SqL.of upd_same, at3, _, _, rfl, rfl, .inr ⟨by decide, by decide⟩, _, _, rfl, rfl, _, _, rfl, rfl, .inl ⟨_, rfl, _, _, rfl, rfl, (by show (0 : Int) < _; decide), ?_⟩⟩
      refine ⟨_, rfl, _, _, rfl, rfl, .inr ⟨by decide, by decide⟩, _, rfl, _, _, _, _, rfl, rfl, SqL.of upd_same, at3, _, _, rfl, rfl, .inl ⟨_, rfl, _, _, rfl, rfl, (by show (0 : Int) < _; decide), ?_⟩⟩
      refine ⟨_, rfl, _, _, rfl, rfl, ⟨by decide, by decide⟩, _, rfl, _, _, rfl, rfl, m0, ?_⟩
      refine q _ _ (Int.emod_nonneg _ (by omega)) (Int.emod_lt_of_pos _ m0) ⟨ns, i, v, _, salt, upd_same, by rw [upd_ne hab.symm]; exact hb1, hn, hi1⟩ (e2 _)
    · refine ⟨_, rfl, _, _, _, _, rfl, rfl, SqL.of upd_same, at2, .inl ⟨_, rfl, _, rfl, _, _, rfl, rfl, m0, ?_⟩⟩
      refine ⟨_, rfl, _, _, _, _, rfl, rfl, SqL.of upd_same, at2, _, rfl, _, _, rfl, rfl, fits63 m0 m1 _, _, rfl, _, _, _, 2, rfl, rfl, upd_same, rfl, ?_⟩
      refine ⟨_, rfl, ?_⟩
      refine q _ _ (Int.emod_nonneg _ (by omega)) (Int.emod_lt_of_pos _ m0) ⟨ns, i, _, _, salt, upd_same, ?_, hn, hi1⟩ ((e2 _).trans But.put)
      rw [upd_ne hab.symm, upd_ne hab.symm]
      exact hb1
end
end Cf
namespace Cf
open PySem L2
abbrev sSpelled : Stmt := top 7
theorem But.seqL {K : PySem.W.Frag} {a p : Addr} {H H' : Hp} {xs : List V} (e : But a H H') (n : p ≠ a) (h : SqL K H p xs) : SqL K H' p xs := by
  rcases h with (h | ⟨o, h⟩) | h
  · exact .inl (.inl (e _ _ n h))
  · exact .inl (.inr ⟨o, e _ _ n h⟩)
  · exact .inr h
theorem But.seqT {K : PySem.W.Frag} {a p : Addr} {H H' : Hp} {xs : List V} (e : But a H H') (n : p ≠ a) (h : SqT K H p xs) : SqT K H' p xs := by
  rcases h with (h | ⟨o, h⟩) | h
  · exact .inl (.inl (e _ _ n h))
  · exact .inl (.inr ⟨o, e _ _ n h⟩)
  · exact .inr h
theorem at_mem {α : Type} {xs : List α} {i : Int} (h0 : 0 ≤ i) (h : i < (xs.length : Int)) : ∃ x, atI xs i = some x ∧ x ∈ xs := by
  have hk : i.toNat < xs.length := by omega
  have ek : ((i.toNat : Nat) : Int) = i := by omega
  have q : atI xs ((i.toNat : Nat) : Int) = some xs[i.toNat] := atI_nat (List.getElem?_eq_getElem hk)
  rw [ek] at q
  exact ⟨_, q, List.getElem_mem hk⟩
def spPick (K : PySem.W.Frag) : Sp := fun vs H Q _ => ∃ (a b p : Addr) (xs : List V), vs = [.ref a, .ref p] ∧ PoolAt H a b ∧ (SqL K H p xs ∨ SqT K H p xs) ∧ p ≠ a ∧ 0 < xs.length ∧ xs.length ≤ 1000000 ∧
  ∀ (x : V) (H' : Hp), x ∈ xs → PoolAt H' a b → But a H H' → Q x H'
/-! ### numbers as words: 1 is a, 26 is z, 27 is aa -/
def spell (n : Nat) : List Nat := if h : n = 0 then [] else spell ((n - 1) / 26) ++ [97 + (n - 1) % 26]
termination_by n
decreasing_by omega
theorem spell_0 : spell 0 = [] := by rw [spell]; rfl
theorem spell_pos {n : Nat} (h : 0 < n) : spell n = spell ((n - 1) / 26) ++ [97 + (n - 1) % 26] := by
  rw [spell, dif_neg (by omega)]
def most : Nat → Nat
  | 0 => 0
  | k + 1 => 26 * most k + 26
theorem spell_len : ∀ (k n : Nat), n ≤ most k → (spell n).length ≤ k
  | 0, n, h => by
    have e : n = 0 := by have h' : n ≤ 0 := h; omega
    subst e
    rw [spell_0]
    exact Nat.le_refl _
  | k + 1, n, h => by
    by_cases e : n = 0
    · subst e; rw [spell_0]; exact Nat.zero_le _
    · have h' : n ≤ 26 * most k + 26 := h
      have ih := spell_len k ((n - 1) / 26) (by omega)
      rw [spell_pos (by omega), List.length_append]
      exact Nat.succ_le_succ ih
theorem spell_ne {n : Nat} (h : 0 < n) : spell n ≠ [] := by rw [spell_pos h]; simp
theorem spell_az (n : Nat) : ∀ c ∈ spell n, 97 ≤ c ∧ c ≤ 122 := by
  induction n using Nat.strongRecOn with
  | _ n ih =>
    intro c hc
    by_cases e : n = 0
    · subst e; rw [spell_0] at hc; cases hc
    · rw [spell_pos (by omega)] at hc
      rcases List.mem_append.mp hc with h | h
      · exact ih _ (by omega) c h
      · rw [List.mem_singleton.mp h]; omega
theorem spell_inj : ∀ {n m : Nat}, spell n = spell m → n = m := by
  intro n
  induction n using Nat.strongRecOn with
  | _ n ih =>
    intro m h
    by_cases e : n = 0
    · subst e
      by_cases e2 : m = 0
      · exact e2.symm
      · rw [spell_0] at h; exact absurd h.symm (spell_ne (by omega))
    · by_cases e2 : m = 0
      · subst e2; rw [spell_0] at h; exact absurd h (spell_ne (by omega))
      · rw [spell_pos (by omega : 0 < n), spell_pos (by omega : 0 < m)] at h
        have h1 := List.append_inj' h rfl
        have h2 := ih _ (by omega) h1.1
        have h3 : 97 + (n - 1) % 26 = 97 + (m - 1) % 26 := List.head_eq_of_cons_eq h1.2
        omega
/-- a word: 1 to 12 letters -/
def WordOk (w : Str) : Prop := 0 < w.length ∧ w.length ≤ 12 ∧ ∀ c ∈ w.cps.toList, 97 ≤ c ∧ c ≤ 122
theorem spell_ok {n : Nat} (h0 : 0 < n) (h : n ≤ most 12) : WordOk (SX.S (spell n)) := by
  refine ⟨?_, ?_, ?_⟩
  · rw [SX.S_len]; exact List.length_pos_iff.mpr (spell_ne h0)
  · rw [SX.S_len]; exact spell_len 12 n h
  · intro c hc
    exact spell_az n c (by simpa using hc)
def spSpelled : Sp := fun vs H Q _ => ∃ n : Nat, vs = [.int (n : Int)] ∧ n ≤ most 13 ∧ Q (.str (SX.S (spell n))) H
section
variable {P : Program} {w : World} {K : PySem.W.Frag} {mg : Str → Option Value} {base : Heap}
theorem scSpelled : FnScope ["number", "word", "left"] ["number"] (defScope sSpelled) := ⟨rfl, rfl, rfl, by decide +kernel, rfl, by decide +kernel, by decide +kernel⟩
theorem alpha (j : Nat) (h : j < 26) : atI (Str.ofString "abcdefghijklmnopqrstuvwxyz").cps.toList (j : Int) = some (97 + j) := by
  have q : ∀ j : Fin 26, (Str.ofString "abcdefghijklmnopqrstuvwxyz").cps.toList[j.val]? = some (97 + j.val) := by decide +kernel
  exact atI_nat (q ⟨j, h⟩)
theorem most13 : most 13 < 26 ^ 14 := by decide
theorem ok_spelled {f : Addr} {fd : FuncData} (F : Fun K "_law_spelled" "_law_spelled" sSpelled f fd) (B : Blt mg) : FnOk P w K mg base CX0 1 f fd ["number"] spSpelled := by
  refine F.ok scSpelled (fun vs H Q E h => ?_) (fun cdv A outer s H vs Q E hr h => ?_)
  · obtain ⟨n, rfl, _⟩ := h
    rfl
  obtain ⟨n, rfl, hn, q⟩ := h
  refine ⟨_, pss_cons (ps_set (i := 1) scSpelled.nd rfl (.inl rfl) pe_str) (pss_cons (ps_set (i := 2) scSpelled.nd rfl (.inl rfl) (pv 0))
    (pss_cons (ps_while PassesOwn.never (pt_cmpR op_gt (pv 2) pe_int (nomark _))
      (pss_cons (ps_set (i := 1) scSpelled.nd rfl (.inl rfl) (pe_op op_add_str (pe_ix ix_str pe_str (pe_op op_mod (pe_callTy call_int1 (by rfl) B.int (by decide +kernel) (pa_cons (pe_op op_sub (pv 2) pe_int) pa_nil)) pe_int) (fun _ _ => rfl)) (pv 1)))
      (pss_one (ps_set (i := 2) scSpelled.nd rfl (.inl rfl) (pe_op op_fdiv (pe_op op_sub (pv 2) pe_int) pe_int)))))
    (pss_one (ps_ret (pv 1))))), ?_⟩
  refine ⟨_, rfl, ?_⟩
  refine while_by (fun σ H' => H' = H ∧ ∃ (l : Nat) (u : List Nat), σ = [some (.int (n : Int)), some (.str (SX.S u)), some (.int (l : Int))] ∧ spell l ++ u = spell n)
    (fun σ _ => match σ with | [_, _, some (.int l)] => l.toNat | _ => 0) ⟨rfl, n, [], rfl, by simp⟩ (fun σ H' hp => ?_) (fun σ H' Q1 Q2 hm hc => ?_)
  · obtain ⟨rfl, l, u, rfl, hu⟩ := hp
    have hlen : (spell l).length + u.length ≤ 13 := by
      have h1 := spell_len 13 n hn
      rw [← hu, List.length_append] at h1
      exact h1
    refine ⟨_, rfl, _, _, rfl, rfl, _, rfl, ite2 (fun c => ?_) (fun c => ?_)⟩
    · have hl : 0 < l := by have c' : (0 : Int) < (l : Int) := of_decide_eq_true c; omega
      have el : (l : Int) - 1 = ((l - 1 : Nat) : Int) := by omega
      refine ⟨_, rfl, _, _, rfl, rfl, .inl ⟨_, rfl, _, _, rfl, rfl, (by show (0 : Int) < _; decide), ?_⟩⟩
      have em : ((l : Int) - 1) % 26 = (((l - 1) % 26 : Nat) : Int) := by omega
      refine ⟨_, _, 97 + (l - 1) % 26, rfl, rfl, (by decide +kernel), (by rw [em]; exact alpha _ (Nat.mod_lt _ (by decide))), _, rfl, _, _, rfl, rfl, ?_, ?_⟩
      · show 1 + (SX.S u).length ≤ sizeLine
        rw [SX.S_len]
        exact Nat.le_trans (by omega : 1 + u.length ≤ 14) (by decide)
      refine ⟨_, rfl, _, _, rfl, rfl, _, _, rfl, rfl, ⟨by decide, by decide⟩, ?_⟩
      have ed : ((l : Int) - 1) / 26 = (((l - 1) / 26 : Nat) : Int) := by omega
      refine ⟨⟨rfl, (l - 1) / 26, (97 + (l - 1) % 26) :: u, ?_, ?_⟩, ?_⟩
      · show [some (V.int (n : Int)), some (V.str (SX.S [97 + (l - 1) % 26] ++ SX.S u)), some (V.int (((l : Int) - 1) / 26))] = _
        rw [SX.S_cat, ed]
        rfl
      · rw [spell_pos hl, List.append_assoc] at hu
        exact hu
      · show (((l : Int) - 1) / 26).toNat < ((l : Int)).toNat
        omega
    · have hl : l = 0 := by have c' : ¬ (0 : Int) < (l : Int) := of_decide_eq_false (Bool.eq_false_iff.mpr c); omega
      subst hl
      rw [spell_0, List.nil_append] at hu
      refine ⟨_, rfl, ?_⟩
      rw [hu]
      exact q
  · obtain ⟨x, e1, i, j, e2, e3, k, e4, h⟩ := hc
    exact ⟨x, e1, i, j, e2, e3, k, e4, hm _ _ h⟩
end
end Cf
namespace Cf
open PySem L2
abbrev sWords : Stmt := top 8
abbrev nV (n : Nat) : V := .int (n : Int)
def from_ (x : Nat) (ns : List Nat) : Nat := (ns.filter fun y => decide (x ≤ y)).length
theorem from_le (x : Nat) (ns : List Nat) : from_ x ns ≤ ns.length := List.length_filter_le _ _
theorem from_mono (x : Nat) (ns : List Nat) : from_ (x + 1) ns ≤ from_ x ns := by
  induction ns with
  | nil => exact Nat.le_refl _
  | cons y r ih =>
    unfold from_ at ih ⊢
    rw [List.filter_cons, List.filter_cons]
    by_cases h : x + 1 ≤ y
    · rw [if_pos (decide_eq_true h), if_pos (decide_eq_true (by omega : x ≤ y))]
      exact Nat.succ_le_succ ih
    · rw [if_neg (by simpa using h)]
      split
      · exact Nat.le_succ_of_le ih
      · exact ih
theorem from_step {x : Nat} {ns : List Nat} (h : x ∈ ns) : from_ (x + 1) ns + 1 ≤ from_ x ns := by
  induction ns with
  | nil => cases h
  | cons y r ih =>
    by_cases e : x = y
    · subst e
      have m := from_mono x r
      unfold from_ at m ⊢
      rw [List.filter_cons, List.filter_cons, if_neg (by simp), if_pos (by simp)]
      exact Nat.succ_le_succ m
    · have ih' := ih ((List.mem_cons.mp h).resolve_left e)
      unfold from_ at ih' ⊢
      rw [List.filter_cons, List.filter_cons]
      by_cases c : x + 1 ≤ y
      · rw [if_pos (decide_eq_true c), if_pos (decide_eq_true (by omega : x ≤ y))]
        exact Nat.succ_le_succ ih'
      · rw [if_neg (by simpa using c), if_neg (by simp; omega)]
        exact ih'
theorem inV_nat (x : Nat) (ns : List Nat) : inV (nV x) (ns.map nV) = decide (x ∈ ns) := by
  unfold inV
  induction ns with
  | nil => rfl
  | cons y r ih =>
    rw [List.map_cons, List.any_cons, ih]
    show (((y : Int) == (x : Int)) || decide (x ∈ r)) = decide (x ∈ y :: r)
    by_cases e : x = y
    · subst e; simp
    · have e' : ¬ (y : Int) = (x : Int) := by omega
      simp [e, e']
theorem flat_nat (ns : List Nat) : (ns.map nV).all flatV = true := by simp [flatV]
def spWords : Sp := fun vs H Q _ => ∃ (a b : Addr) (many : Nat), vs = [.ref a, nV many] ∧ PoolAt H a b ∧ many ≤ 100 ∧
  ∀ (ws : List Str) (p : Addr) (H' : Hp), ws.length = many → ws.Nodup → (∀ w ∈ ws, WordOk w) → H p = none → H' p = some (.lst (ws.map V.str)) → PoolAt H' a b → But a H H' → Q (.ref p) H'
section
variable {P : Program} {w : World} {K : PySem.W.Frag} {mg : Str → Option Value} {base : Heap}
theorem scWords : FnScope ["pool", "many", "taken", "k", "number"] ["pool", "many"] (defScope sWords) := ⟨rfl, rfl, rfl, by decide +kernel, rfl, by decide +kernel, by decide +kernel⟩
/-- the greatest number that is drawn -/
theorem pick_le {d : Int} (h0 : 0 ≤ d) (h1 : d < 5) : ∃ m : Int, atI [V.int 26, .int 702, .int 18278, .int 475254, .int 95428956661682176] d = some (.int m) ∧ 0 < m ∧ m ≤ 95428956661682176 := by
  have e : d = 0 ∨ d = 1 ∨ d = 2 ∨ d = 3 ∨ d = 4 := by omega
  rcases e with rfl | rfl | rfl | rfl | rfl
  · exact ⟨_, rfl, by decide, by decide⟩
  · exact ⟨_, rfl, by decide, by decide⟩
  · exact ⟨_, rfl, by decide, by decide⟩
  · exact ⟨_, rfl, by decide, by decide⟩
  · exact ⟨_, rfl, by decide, by decide⟩
theorem pool_upd {H : Hp} {a b p : Addr} {o : HO} (h : PoolAt H a b) (n : p ≠ a) (m : p ≠ b) : PoolAt (upd H p o) a b := by
  obtain ⟨ns, i, v, c, s, h1, h2, h3, h4⟩ := h
  exact ⟨ns, i, v, c, s, by rw [upd_ne n.symm]; exact h1, by rw [upd_ne m.symm]; exact h2, h3, h4⟩
theorem pool_same {H H' : Hp} {a b : Addr} (h : PoolAt H a b) (e : Same H H') : PoolAt H' a b := by
  obtain ⟨ns, i, v, c, s, h1, h2, h3, h4⟩ := h
  exact ⟨ns, i, v, c, s, e _ _ h1, e _ _ h2, h3, h4⟩
theorem pool_new {H : Hp} {a b p : Addr} {o : HO} (h : PoolAt H a b) (n : H p = none) : PoolAt (upd H p o) a b := pool_same h (same_new n o)
theorem pool_a {H : Hp} {a b p : Addr} (h : PoolAt H a b) (n : H p = none) : p ≠ a := by
  obtain ⟨ns, i, v, c, s, h1, h2, h3, h4⟩ := h
  exact (ne_of_none h1 n).symm
theorem pool_b {H : Hp} {a b p : Addr} (h : PoolAt H a b) (n : H p = none) : p ≠ b := by
  obtain ⟨ns, i, v, c, s, h1, h2, h3, h4⟩ := h
  exact (ne_of_none h2 n).symm
theorem ok_words {f g e : Addr} {fd gd ed : FuncData} (F : Fun K "_law_words" "_law_words" sWords f fd) (B : Blt mg) (G : FnOk P w K mg base CX0 2 g gd ["pool", "many"] spDraw) (bG : Binds K gd ["pool", "many"] [])
    (kG : PySem.W.keepIn K (.ref g) = true) (mG : mg "_law_draw" = some (.ref g)) (S : FnOk P w K mg base CX0 1 e ed ["number"] spSpelled) (bS : Binds K ed ["number"] []) (kS : PySem.W.keepIn K (.ref e) = true) (mS : mg "_law_spelled" = some (.ref e)) :
    FnOk P w K mg base CX0 3 f fd ["pool", "many"] spWords := by
  refine F.ok scWords (fun vs H Q E h => ?_) (fun cdv A outer s H vs Q E hr h => ?_)
  · obtain ⟨a, b, m, rfl, _⟩ := h
    rfl
  obtain ⟨a, b, m, rfl, hp, hm, q⟩ := h
  have nd := scWords.nd
  refine ⟨_, pss_cons (ps_set (i := 2) nd rfl (.inl rfl) (pe_lst pa_nil))
    (pss_cons (ps_for PassesOwn.never rfl (pi_range1 rfl B.range (pa_cons (pv 1) pa_nil)) (pg_name (i := 3) nd rfl (.inl rfl))
      (pss_cons (ps_set (i := 4) nd rfl (.inl rfl) (pe_op op_add pe_int (pe_call G hr rfl mG kG bG .nil pass0 (pa_cons (pv 0) (pa_cons
          (pe_ix ix_tup (pe_tup (pa_cons pe_int (pa_cons pe_int (pa_cons pe_int (pa_cons pe_int (pa_cons pe_int pa_nil)))))) (pe_call G hr rfl mG kG bG .nil pass0 (pa_cons (pv 0) (pa_cons pe_int pa_nil))) (fun _ _ => rfl)) pa_nil)))))
      (pss_cons (ps_while PassesOwn.never (pt_cmpR op_in_seq (pv 4) (pv 2) (by rfl)) (pss_one (ps_set (i := 4) nd rfl (.inl rfl) (pe_op op_add (pv 4) pe_int))))
      (pss_one (ps_expr (pe_bm PySem.F.plainAttrs_list PySem.F.slot_list_append PySem.F.type_list_append mt_append (pv 2) (pa_cons (pv 4) pa_nil)))))))
    (pss_one (ps_ret (pe_lc (own := [("number", 4)]) (g := gName 4) (tt := tYes) rfl nd (pi_list (pv 2)) (blkOk_by (N := ["pool", "many", "taken", "k", "number"]) (sc := defScope sWords) (by decide +kernel))
      (fun _ _ _ _ _ => pg_name (i := 4) nd rfl (.inl rfl)) (fun _ _ _ _ _ => pts_nil) (fun _ _ _ _ _ => pe_call S (hr.mono (by decide)) rfl mS kS bS .nil pass0 (pa_cons (pv 4) pa_nil)))))), ?_⟩
  refine ⟨(by show 0 ≤ sizeLine; decide), fun p np => ?_⟩
  have npa : p ≠ a := pool_a hp np
  have npb : p ≠ b := pool_b hp np
  refine ⟨_, rfl, _, rfl, by omega, by omega, ?_⟩
  refine for_range (n := m) (fun i σ H1 => ∃ (ns : List Nat) (kv nv : Option V), σ = [some (.ref a), some (nV m), some (.ref p), kv, nv] ∧ H1 p = some (.lst (ns.map nV)) ∧ ns.length = i ∧ ns.Nodup ∧ (∀ n ∈ ns, 0 < n ∧ n ≤ 95428956661682176 + i) ∧ PoolAt H1 a b ∧ But a H H1)
    ⟨[], none, none, rfl, upd_same, rfl, List.nodup_nil, fun _ h => (by cases h), pool_new hp np, But.of (same_new np _)⟩ (fun i σ H1 hi h => ?_) (fun σ H1 h => ?_)
  · obtain ⟨ns, kv, nv, rfl, h1, hl, hnd, hns, hp1, e1⟩ := h
    refine ⟨_, rfl, (by show 5 ≤ sizeLine; decide), fun t nt => ?_⟩
    refine ⟨_, rfl, a, b, 5, rfl, pool_new hp1 nt, by decide, by decide, fun d H2 d0 d1 hp2 e2 => ?_⟩
    have tna : t ≠ a := pool_a hp1 nt
    obtain ⟨mx, hat, mx0, mx1⟩ := pick_le d0 d1
    refine ⟨t, _, d, _, rfl, rfl, SqT.of (e2 _ _ tna upd_same), hat, ?_⟩
    refine ⟨a, b, mx, rfl, hp2, mx0, by omega, fun x H3 x0 x1 hp3 e3 => ?_⟩
    refine ⟨_, _, rfl, rfl, ?_⟩
    have e13 : But a H1 H3 := ((But.of (same_new nt _)).trans e2).trans e3
    have h3 : H3 p = some (.lst (ns.map nV)) := e13 _ _ npa h1
    have ex : (1 : Int) + x = ((x.toNat + 1 : Nat) : Int) := by omega
    refine while_by (fun σ H' => H' = H3 ∧ ∃ y : Nat, σ = [some (.ref a), some (nV m), some (.ref p), some (.int (0 + (i : Int))), some (nV y)] ∧ 0 < y ∧ y + from_ y ns ≤ 95428956661682176 + ns.length)
      (fun σ _ => match σ with | [_, _, _, _, some (.int l)] => from_ l.toNat ns | _ => 0) ⟨rfl, x.toNat + 1, ?_, by omega, ?_⟩ (fun σ H' hw => ?_) (fun σ H' Q1 Q2 hmn hc => ?_)
    · show [some (V.ref a), some (nV m), some (V.ref p), some (V.int (0 + (i : Int))), some (V.int (1 + x))] = _
      rw [ex]
    · have := from_le (x.toNat + 1) ns
      omega
    · obtain ⟨rfl, y, rfl, y0, y1⟩ := hw
      refine ⟨_, rfl, _, rfl, p, _, rfl, .inl (SqL.of h3), rfl, flat_nat ns, _, rfl, ?_⟩
      show if inV (nV y) (ns.map nV) = true then _ else _
      rw [inV_nat]
      refine ite2 (fun c => ?_) (fun c => ?_)
      · have hy : y ∈ ns := of_decide_eq_true c
        have st := from_step hy
        refine ⟨_, rfl, _, _, rfl, rfl, ⟨rfl, y + 1, rfl, by omega, by omega⟩, ?_⟩
        show from_ ((y : Int) + 1).toNat ns < from_ ((y : Int)).toNat ns
        have e1 : ((y : Int) + 1).toNat = y + 1 := by omega
        have e2 : ((y : Int)).toNat = y := by omega
        rw [e1, e2]
        omega
      · have hy : y ∉ ns := fun h => c (decide_eq_true h)
        refine ⟨_, rfl, .inl ⟨rfl, _, SqL.of h3⟩, _, rfl, p, _, _, rfl, rfl, h3, ?_, ?_⟩
        · rw [List.length_map]; exact small1000 (by omega)
        refine ⟨ns ++ [y], _, _, rfl, ?_, ?_, ?_, ?_, pool_upd hp3 npa npb, ?_⟩
        · rw [upd_same, List.map_append]
          all_goals rfl
        · rw [List.length_append]
          exact congrArg (· + 1) hl
        · exact List.nodup_append.mpr ⟨hnd, (by simp), fun u hu v hv => by rw [List.mem_singleton.mp hv]; rintro rfl; exact hy hu⟩
        · intro n hn
          rcases List.mem_append.mp hn with h | h
          · have := hns n h; omega
          · rw [List.mem_singleton.mp h]; omega
        · exact fun c o hc hco => by rw [upd_ne (ne_of_none hco np)]; exact (e1.trans e13) _ _ hc hco
    · obtain ⟨x1, e1', x2, e2', p', xs', r1, r2, r3, r4, k, r5, h⟩ := hc
      exact ⟨x1, e1', x2, e2', p', xs', r1, r2, r3, r4, k, r5, hmn _ _ h⟩
  · obtain ⟨ns, kv, nv, rfl, h1, hl, hnd, hns, hp1, e1⟩ := h
    refine ⟨_, rfl, p, rfl, ⟨_, SqL.of h1⟩, fun D nD => ?_⟩
    refine lc_list (xs := ns.map nV) (fun i H' => H' D = some (.lst ((ns.take i).map fun n => V.str (SX.S (spell n)))) ∧ Same H1 H') ⟨upd_same, same_new nD _⟩ (fun i H' _ hh => SqL.of (hh.2 _ _ h1)) (fun i x H' hx hh => ?_) (fun H' hh => ?_)
    · rw [List.getElem?_map] at hx
      obtain ⟨n, hn, rfl⟩ := Option.map_eq_some_iff.mp hx
      have hb := hns n (List.mem_of_getElem? hn)
      refine ⟨rfl, ?_⟩
      refine ⟨_, rfl, n, rfl, ?_, _, hh.1, ?_, ?_, ?_⟩
      · exact Nat.le_trans hb.2 (Nat.le_trans (by omega : _ ≤ 95428956661682176 + 100) (by decide))
      · rw [List.length_map, List.length_take]
        exact small1000 (by omega)
      · rw [upd_same, List.take_add_one, List.map_append, hn]
        all_goals rfl
      · exact fun c o hc => by rw [upd_ne (ne_of_none hc nD)]; exact hh.2 _ _ hc
    · obtain ⟨hD, sm⟩ := hh
      rw [List.length_map, List.take_length] at hD
      refine q (ns.map fun n => SX.S (spell n)) D H' (by rw [List.length_map, hl]) ?_ ?_ ?_ (by rw [hD, List.map_map]; rfl) (pool_same hp1 sm) (e1.trans (But.of sm))
      · exact List.Pairwise.map _ (fun x y (h : x ≠ y) e => h (spell_inj (SX.S_inj e))) hnd
      · intro w hw
        obtain ⟨n, hn, rfl⟩ := List.mem_map.mp hw
        have hb := hns n hn
        exact spell_ok hb.1 (Nat.le_trans hb.2 (Nat.le_trans (by omega : _ ≤ 95428956661682176 + 100) (by decide)))
      · cases z : H D with
        | none => rfl
        | some o =>
          by_cases zz : D = a
          · exact absurd zz (pool_a hp1 nD)
          · rw [e1 D o zz z] at nD; cases nD
end
end Cf
namespace Cf
open PySem L2
/-- a constructor's pair stands at q -/
def PairAt (H : Hp) (q : Addr) (c : Str × Nat) : Prop := H q = some (.tup [.str c.1, nV c.2])
/-- constructors stand at p -/
def ConsAt (H : Hp) (p : Addr) (cs : List (Str × Nat)) : Prop := ∃ ps : List Addr, H p = some (.tup (ps.map V.ref)) ∧ Paired (PairAt H) ps cs
structure ConsOk (cs : List (Str × Nat)) : Prop where
  len : cs.length ≤ 5
  nd : (cs.map (·.1)).Nodup
  word : ∀ c ∈ cs, WordOk c.1
  ar : ∀ c ∈ cs, c.2 ≤ 2
  leaf : ∃ c ∈ cs, c.2 = 0
theorem pairs_keep {H H' : Hp} {ps : List Addr} {cs : List (Str × Nat)} (h : Paired (PairAt H) ps cs) (e : ∀ q xs, H q = some (.tup xs) → H' q = some (.tup xs)) : Paired (PairAt H') ps cs := Paired.mapP h fun _ _ q => e _ _ q
/-- tuples stand on -/
def KeepT (H H' : Hp) : Prop := ∀ q xs, H q = some (.tup xs) → H' q = some (.tup xs)
theorem KeepT.trans {H H1 H2 : Hp} (x : KeepT H H1) (y : KeepT H1 H2) : KeepT H H2 := fun q xs h => y q xs (x q xs h)
theorem KeepT.of {H H' : Hp} (x : Same H H') : KeepT H H' := fun q _ h => x q _ h
theorem KeepT.but {H H' : Hp} {a b : Addr} (x : But a H H') (h : PoolAt H a b) : KeepT H H' := fun q xs hq => by
  obtain ⟨ns, i, v, c, s, h1, _⟩ := h
  exact x q _ (ne_of hq h1 (by intro z; cases z)) hq
theorem ConsAt.keep {H H' : Hp} {p : Addr} {cs : List (Str × Nat)} (h : ConsAt H p cs) (e : KeepT H H') : ConsAt H' p cs := by
  obtain ⟨ps, h1, h2⟩ := h
  exact ⟨ps, e _ _ h1, pairs_keep h2 e⟩
def table : List (List Nat) := [[0, 1], [0, 1, 2], [0, 0, 1], [0, 2], [1, 0, 0, 2], [0, 2, 0], [1, 1, 0], [2, 0, 0], [0, 1, 0, 1, 2], [0, 0]]
theorem table_ok : ∀ ar ∈ table, ar.length ≤ 5 ∧ (∀ n ∈ ar, n ≤ 2) ∧ 0 ∈ ar := by decide
def spCons : Sp := fun vs H Q _ => ∃ (a b : Addr), vs = [.ref a] ∧ PoolAt H a b ∧ ∀ (cs : List (Str × Nat)) (p : Addr) (H' : Hp), ConsOk cs → H p = none → ConsAt H' p cs → PoolAt H' a b → But a H H' → Q (.ref p) H'
section
variable {P : Program} {w : World} {K : PySem.W.Frag} {mg : Str → Option Value} {base : Heap}
end
end Cf
namespace Cf
open PySem L2
/-- a term: a variable, or a word and parts -/
inductive Tm where
  | var (n : Int)
  | node (w : Str) (ps : List Tm)
mutual
inductive TmAt (H : Hp) : V → Tm → Prop
  | var (n : Int) : TmAt H (.int n) (.var n)
  | node {p : Addr} {w : Str} {vs : List V} {ps : List Tm} : H p = some (.tup (.str w :: vs)) → TmsAt H vs ps → TmAt H (.ref p) (.node w ps)
inductive TmsAt (H : Hp) : List V → List Tm → Prop
  | nil : TmsAt H [] []
  | cons {v : V} {vs : List V} {t : Tm} {ts : List Tm} : TmAt H v t → TmsAt H vs ts → TmsAt H (v :: vs) (t :: ts)
end
mutual
theorem TmAt.keep {H H' : Hp} (e : KeepT H H') : ∀ (t : Tm) (v : V), TmAt H v t → TmAt H' v t
  | .var n, _, h => by cases h; exact .var n
  | .node w ps, _, h => by
    cases h with
    | node h1 h2 => exact .node (e _ _ h1) (TmsAt.keep e ps _ h2)
theorem TmsAt.keep {H H' : Hp} (e : KeepT H H') : ∀ (ts : List Tm) (vs : List V), TmsAt H vs ts → TmsAt H' vs ts
  | [], _, h => by cases h; exact .nil
  | t :: ts, _, h => by
    cases h with
    | cons h1 h2 => exact .cons (TmAt.keep e t _ h1) (TmsAt.keep e ts _ h2)
end
theorem TmsAt.length {H : Hp} : ∀ {vs : List V} {ts : List Tm}, TmsAt H vs ts → vs.length = ts.length
  | [], _, h => by cases h; rfl
  | v :: vs, _, h => by
    cases h with
    | cons h1 h2 => exact congrArg (· + 1) (TmsAt.length h2)
theorem TmsAt.append {H : Hp} : ∀ {vs us : List V} {ts rs : List Tm}, TmsAt H vs ts → TmsAt H us rs → TmsAt H (vs ++ us) (ts ++ rs)
  | [], _, _, _, h, k => by cases h; exact k
  | v :: vs, _, _, _, h, k => by
    cases h with
    | cons h1 h2 => exact .cons h1 (TmsAt.append h2 k)
theorem TmsAt.snoc {H : Hp} {vs : List V} {v : V} {ts : List Tm} {t : Tm} (h : TmsAt H vs ts) (k : TmAt H v t) : TmsAt H (vs ++ [v]) (ts ++ [t]) := h.append (.cons k .nil)
theorem TmsAt.get {H : Hp} : ∀ {vs : List V} {ts : List Tm} {i : Nat} {t : Tm}, TmsAt H vs ts → ts[i]? = some t → ∃ v, vs[i]? = some v ∧ TmAt H v t
  | _, [], _, _, _, e => by simp at e
  | _, t :: ts, 0, _, h, e => by
    cases h with
    | cons h1 h2 => simp at e; subst e; exact ⟨_, rfl, h1⟩
  | _, t :: ts, i + 1, x, h, e => by
    cases h with
    | cons h1 h2 =>
      obtain ⟨v, a, b⟩ := TmsAt.get (i := i) h2 (by simpa using e)
      exact ⟨v, by simpa using a, b⟩
/-- a term over constructors with variables among some, of a height of at most so much -/
def TmOver (cs : List (Str × Nat)) (ns : List Int) : Nat → Tm → Prop
  | 0, _ => False
  | _ + 1, .var n => n ∈ ns
  | d + 1, .node w ps => (w, ps.length) ∈ cs ∧ ∀ p ∈ ps, TmOver cs ns d p
def spTerm (K : PySem.W.Frag) (n : Nat) : Sp := fun vs H Q _ => ∃ (a b cp np : Addr) (cs : List (Str × Nat)) (ns : List Int) (d : Nat), vs = [.ref a, .ref cp, .ref np, nV d] ∧ PoolAt H a b ∧ ConsAt H cp cs ∧ ConsOk cs ∧
  SqL K H np (ns.map V.int) ∧ np ≠ a ∧ ns.length ≤ 1000 ∧ 1 ≤ d ∧ d ≤ n ∧ ∀ (v : V) (t : Tm) (H' : Hp), TmAt H' v t → TmOver cs ns d t → PoolAt H' a b → But a H H' → Q v H'
theorem paired_left {H : Hp} {q : Addr} : ∀ {ps : List Addr} {cs : List (Str × Nat)}, Paired (PairAt H) ps cs → q ∈ ps → ∃ c ∈ cs, PairAt H q c
  | _, _, .nil, h => by cases h
  | _, _, .cons (b := b) x t, h => by
    rcases List.mem_cons.mp h with e | h
    · subst e; exact ⟨b, List.mem_cons_self, x⟩
    · obtain ⟨c, hc, k⟩ := paired_left t h
      exact ⟨c, List.mem_cons_of_mem _ hc, k⟩
theorem paired_get {H : Hp} {q : Addr} : ∀ {ps : List Addr} {cs : List (Str × Nat)} {i : Nat}, Paired (PairAt H) ps cs → ps[i]? = some q → ∃ c, cs[i]? = some c ∧ PairAt H q c
  | _, _, _, .nil, h => by simp at h
  | _, _, 0, .cons (b := b) x t, h => by simp at h; subst h; exact ⟨b, rfl, x⟩
  | _, _, i + 1, .cons x t, h => by
    obtain ⟨c, hc, k⟩ := paired_get (i := i) t (by simpa using h)
    exact ⟨c, by simpa using hc, k⟩
section
variable {P : Program} {w : World} {K : PySem.W.Frag} {mg : Str → Option Value} {base : Heap}
end
end Cf
namespace Cf
open PySem L2
abbrev sPool : Stmt := top 4
def spPool (K : PySem.W.Frag) : Sp := fun vs H Q _ => ∃ (a : Addr) (ns : List Int), vs = [.ref a] ∧ SqL K H a (ns.map V.int) ∧ ns.length ≤ 63 ∧ ∀ (p b : Addr) (H' : Hp), PoolAt H' p b → Same H H' → H p = none → Q (.ref p) H'
section
variable {P : Program} {w : World} {K : PySem.W.Frag} {mg : Str → Option Value} {base : Heap}
theorem scPool : FnScope ["script", "salt", "cell"] ["script"] (defScope sPool) := ⟨rfl, rfl, rfl, by decide +kernel, rfl, by decide +kernel, by decide +kernel⟩
theorem ok_pool {f : Addr} {fd : FuncData} (F : Fun K "_law_pool" "_law_pool" sPool f fd) (B : Blt mg) : FnOk P w K mg base CX0 1 f fd ["script"] (spPool K) := by
  refine F.ok scPool (fun vs H Q E h => ?_) (fun cdv A outer s H vs Q E hr h => ?_)
  · obtain ⟨a, ns, rfl, _⟩ := h
    rfl
  obtain ⟨a, ns, rfl, hS, hl, q⟩ := h
  have nd := scPool.nd
  refine ⟨_, pss_cons (ps_set (i := 1) nd rfl (.inl rfl) pe_int)
    (pss_cons (ps_for PassesOwn.never rfl (pi_list (pe_slice sl_list (pv 0) po_none (po_some pe_int))) (pg_name (i := 2) nd rfl (.inl rfl))
      (pss_one (ps_set (i := 1) nd rfl (.inl rfl) (pe_op op_mod (pe_callTy call_int1 (by rfl) B.int (by decide +kernel) (pa_cons (pe_op op_add (pe_op op_mul (pv 1) pe_int) (pv 2)) pa_nil)) pe_int))))
    (pss_one (ps_ret (pe_lst (pa_cons (pe_callTy call_list_of (by rfl) B.list (by decide +kernel) (pa_cons (pv 0) pa_nil)) (pa_cons pe_int (pa_cons pe_int (pa_cons pe_int (pa_cons (pv 1) pa_nil))))))))), ?_⟩
  refine ⟨_, rfl, 63, rfl, a, _, rfl, hS, fun p np => ?_⟩
  have sm := same_new np (HO.lst (cutV (ns.map V.int) none (some 63)))
  have hsub : ∀ v ∈ cutV (ns.map V.int) none (some 63), ∃ i : Int, v = .int i := fun v hv => by
    have h1 := List.mem_of_mem_drop (List.mem_of_mem_take hv)
    obtain ⟨i, _, e⟩ := List.mem_map.mp h1
    exact ⟨i, e.symm⟩
  refine ⟨p, rfl, ⟨_, SqL.of upd_same⟩, ?_⟩
  refine for_list (xs := cutV (ns.map V.int) none (some 63)) (fun i σ H' => H' = upd H p (.lst (cutV (ns.map V.int) none (some 63))) ∧ ∃ (t : Int) (c : Option V), σ = [some (.ref a), some (.int t), c])
    ⟨rfl, _, _, rfl⟩ (fun i σ H' _ hp => by rw [hp.1]; exact SqL.of upd_same) (fun i x σ H' hx hp => ?_) (fun σ H' hp => ?_)
  · obtain ⟨rfl, t, c, rfl⟩ := hp
    obtain ⟨i, rfl⟩ := hsub x (List.mem_of_getElem? hx)
    refine ⟨_, rfl, _, _, rfl, rfl, .inr ⟨by decide, by decide⟩, _, rfl, _, _, rfl, rfl, .inl ⟨_, rfl, _, _, rfl, rfl, (by show (0 : Int) < _; decide), ?_⟩⟩
    exact ⟨rfl, _, _, rfl⟩
  · obtain ⟨rfl, t, c, rfl⟩ := hp
    refine ⟨_, rfl, a, _, rfl, .inl (sm.seq hS), fun l nl => ?_⟩
    refine ⟨_, rfl, (by show 5 ≤ sizeLine; decide), fun m nm => ?_⟩
    have s2 := sm.trans ((same_new nl (HO.lst (ns.map V.int))).trans (same_new nm (HO.lst [.ref l, .int 0, .int 0, .int 0, .int t])))
    refine q m l _ ⟨ns, 0, 0, 0, t, upd_same, ?_, hl, Int.le_refl 0⟩ s2 ((sm.trans (same_new nl (HO.lst (ns.map V.int)))).free nm)
    rw [upd_ne (ne_of_none upd_same nm), upd_same]
end
end Cf
namespace Cf
open PySem L2
abbrev sSame : Stmt := top 3
/-- the same data to a depth, told by the heap -/
def Eqd (H : Hp) : Nat → V → V → Prop
  | 0, _, _ => False
  | n + 1, x, y => (x = y ∧ flatV x = true) ∨ ∃ (p q : Addr) (xs ys : List V), x = .ref p ∧ y = .ref q ∧ ((H p = some (.lst xs) ∧ H q = some (.lst ys)) ∨ (H p = some (.tup xs) ∧ H q = some (.tup ys))) ∧
      xs.length = ys.length ∧ xs.length ≤ 1000000 ∧ ∀ (i : Nat) (x y : V), xs[i]? = some x → ys[i]? = some y → Eqd H n x y
theorem Eqd.flat {H : Hp} {n : Nat} {x : V} (h : flatV x = true) : Eqd H (n + 1) x x := .inl ⟨rfl, h⟩
theorem Eqd.lst {H : Hp} {n : Nat} {p q : Addr} {xs ys : List V} (h1 : H p = some (.lst xs)) (h2 : H q = some (.lst ys)) (h3 : xs.length = ys.length) (h4 : xs.length ≤ 1000000)
    (h5 : ∀ (i : Nat) (x y : V), xs[i]? = some x → ys[i]? = some y → Eqd H n x y) : Eqd H (n + 1) (.ref p) (.ref q) := .inr ⟨p, q, xs, ys, rfl, rfl, .inl ⟨h1, h2⟩, h3, h4, h5⟩
theorem Eqd.tup {H : Hp} {n : Nat} {p q : Addr} {xs ys : List V} (h1 : H p = some (.tup xs)) (h2 : H q = some (.tup ys)) (h3 : xs.length = ys.length) (h4 : xs.length ≤ 1000000)
    (h5 : ∀ (i : Nat) (x y : V), xs[i]? = some x → ys[i]? = some y → Eqd H n x y) : Eqd H (n + 1) (.ref p) (.ref q) := .inr ⟨p, q, xs, ys, rfl, rfl, .inr ⟨h1, h2⟩, h3, h4, h5⟩
theorem Eqd.keep {H H' : Hp} (e : Same H H') : ∀ {n : Nat} {x y : V}, Eqd H n x y → Eqd H' n x y
  | 0, _, _, h => h
  | n + 1, _, _, h => by
    rcases h with h | ⟨p, q, xs, ys, rfl, rfl, h, h3, h4, h5⟩
    · exact .inl h
    · refine .inr ⟨p, q, xs, ys, rfl, rfl, ?_, h3, h4, fun i x y a b => Eqd.keep e (h5 i x y a b)⟩
      rcases h with ⟨a, b⟩ | ⟨a, b⟩
      · exact .inl ⟨e _ _ a, e _ _ b⟩
      · exact .inr ⟨e _ _ a, e _ _ b⟩
theorem Eqd.mono {H : Hp} : ∀ {n m : Nat} {x y : V}, n ≤ m → Eqd H n x y → Eqd H m x y
  | 0, _, _, _, _, h => h.elim
  | n + 1, 0, _, _, l, _ => by omega
  | n + 1, m + 1, _, _, l, h => by
    rcases h with h | ⟨p, q, xs, ys, rfl, rfl, h, h3, h4, h5⟩
    · exact .inl h
    · exact .inr ⟨p, q, xs, ys, rfl, rfl, h, h3, h4, fun i x y a b => Eqd.mono (by omega) (h5 i x y a b)⟩
def spSame (n : Nat) : Sp := fun vs H Q _ => ∃ x y : V, vs = [x, y] ∧ Eqd H n x y ∧ ∀ H', Same H H' → Q (.bl true) H'
/-- the name of a value's class -/
def TyN (H : Hp) : V → String → Prop
  | .non, T => T = "NoneType"
  | .bl _, T => T = "bool"
  | .int _, T => T = "int"
  | .str _, T => T = "str"
  | .ref p, T => (T = "list" ∧ ∃ xs, H p = some (.lst xs)) ∨ (T = "tuple" ∧ ∃ xs, H p = some (.tup xs)) ∨ (T = "dict" ∧ ∃ kvs, H p = some (.dK kvs))
  | _, _ => False
theorem tyx {K : PySem.W.Frag} {H : Hp} {v : V} {T : String} (h : TyN H v T) : TyX K H v (.type T) := by
  cases v with
  | non => cases (show T = "NoneType" from h); exact .base .non
  | bl b => cases (show T = "bool" from h); exact .base (.bl b)
  | int i => cases (show T = "int" from h); exact .base (.int i)
  | str z => cases (show T = "str" from h); exact .base (.str z)
  | ref p =>
    rcases h with ⟨rfl, xs, h⟩ | ⟨rfl, xs, h⟩ | ⟨rfl, xs, h⟩
    · exact .base (.lst h)
    · exact .base (.tup h)
    · exact .base (.dK h)
  | byt _ => exact (show False from h).elim
  | flt _ => exact (show False from h).elim
  | ty _ => exact (show False from h).elim
/-- isinstance(v, C), read -/
theorem isi {K : PySem.W.Frag} {H : Hp} {v : V} {T C : String} {b : Bool} {Q : VK} (h : TyN H v T) (k : kitB T C = some b) (q : Q (.bl b) H) : rIsi K [v, .ty C] H Q := ⟨v, .ty C, .type T, .type C, b, rfl, .ty C, tyx h, kit_ty k, q⟩
def spIsInt : Sp := fun vs H Q _ => ∃ (v : V) (T : String), vs = [v] ∧ TyN H v T ∧ Q (.bl (decide (T = "int"))) H
section
variable {P : Program} {w : World} {K : PySem.W.Frag} {mg : Str → Option Value} {base : Heap}
end
end Cf
namespace Cr
open PySem PySem.Spec PyProof.Rows L2
/-! list.extend by a tuple -/
theorem ext_tup (l b : Addr) (items items2 : Array Value) (n n2 : Nat) (od : Option Addr) (sl : Array (Option Value)) (h0 : ¬(!items.isEmpty && Builtin.List.listTooLong (items.size + items2.size)) = true)
    (h1 : items.size ≤ sizeLine) (h2 : (items ++ items2).size ≤ sizeLine + 1) :
    Meets (Builtin.«list.extend» ⟨[.ref l, .ref b], []⟩) (fun _ R s =>
      s.heap.get? l = some { cls := .type "list", dict := none, data := .seq items n, slots := #[] } ∧
      s.heap.get? b = some ⟨.type "tuple", od, .seq items2 n2, sl⟩ ∧
      R (.ok (.ret Value.none)) { s with heap := s.heap.update l (Obj.mapSeq fun x => x ++ items2), toks := s.toks }) :=
  .of_wp fun prog w A R s h => by
    obtain ⟨hp, g, d, tk, os⟩ := s
    obtain ⟨hl, hb, h⟩ := h
    have f1 := AutoSeq1.idx_int
    have f2 := AutoSeq1.sub_tuple_tuple
    have f3 := AutoSeq1.sub_list_list
    have f4 := AutoSeq1.sub_tuple_list
    have f5 := AutoSeq1.sub_list_tuple
    wp_walk using (wpAny_updateSeq hl rfl (hz := h1) (_hz' := h2)), AutoSeq1.wpAny_loadPart' hl, AutoSeq1.wpAny_loadPart' hb
    exact ⟨_, rfl, h⟩
def rExtT (K : PySem.W.Frag) : V → List V → Hp → VK → Prop := fun x vs H Q => ∃ (l b : Addr) (xs zs : List V), x = .ref l ∧ vs = [.ref b] ∧ H l = some (.lst xs) ∧ H b = some (.tup zs) ∧ xs.length + zs.length ≤ sizeLine ∧ Q .non (upd H l (.lst (xs ++ zs)))
theorem mt_extT {X : Cx} : MtM X "list.extend" (rExtT X.K) := by
  intro pins s σ H x vs v us Q I rx rv ⟨l, b, xs, zs, ex, evs, hL, hB, hz, q⟩
  subst ex evs
  obtain rfl : v = Value.ref l := rx
  obtain ⟨u, rfl, ru⟩ := rv.one
  obtain rfl : u = Value.ref b := ru
  obtain ⟨z1, i1, n1, r1, len1, e1⟩ := I.lstM hL
  obtain ⟨z2, i2, r2, ob, e2, c2, n2, d2⟩ := (show ObjOk X.prog X.w H s.heap b (.tup zs) from I.hok b _ hB)
  obtain ⟨oc, od, dt, sl⟩ := ob
  simp only at c2 d2
  subst c2 d2
  have len2 := r2.length
  have hh : (i1.toArray ++ i2.toArray).size ≤ sizeLine := by rw [Array.size_append, List.size_toArray, List.size_toArray]; omega
  have h0 : ¬(!i1.toArray.isEmpty && Builtin.List.listTooLong (i1.toArray.size + i2.toArray.size)) = true := by
    rw [notLongL (by rw [← Array.size_append]; exact hh), Bool.and_false]
    exact Bool.false_ne_true
  refine call_meets F.slot_list_extend ⟨_, e1, rfl⟩ F.entry_list_extend (F.args_list_extend_2 _ _)
    (ext_tup l b i1.toArray i2.toArray n1 n2 od sl h0 (by rw [List.size_toArray]; omega) (by omega)) ⟨e1, e2, ?_⟩
  exact ⟨.non, _, I.lset (its' := i1 ++ i2) hL e1 (by simp) (r1.append r2) (by rw [List.length_append]; exact hz), rfl, q⟩
/-! t[::-1] and t[:0:-1] of a tuple -/
theorem back_adjust {hi : Option Int} {k n : Nat} (h : (hi = none ∧ k = 0) ∨ (hi = some 0 ∧ k = 1 ∧ 0 < n)) : Builtin.Slice.sliceAdjust none hi (-1) (n : Int) = ((n : Int) - 1, (k : Int) - 1) := by
  rcases h with ⟨rfl, rfl⟩ | ⟨rfl, rfl, h⟩
  · rfl
  · have e : ¬ ((0 : Int) < 0) := by decide
    show ((n : Int) - 1, if (0 : Int) < 0 then max (0 + (n : Int)) (-1) else min 0 ((n : Int) - 1)) = _
    rw [if_neg e]
    exact Prod.ext rfl (by show min 0 ((n : Int) - 1) = ((1 : Nat) : Int) - 1; omega)
theorem back_places (k n : Nat) : Builtin.Slice.slicePlaces ((n : Int) - 1) ((k : Int) - 1) (-1) = n - k := by
  have e : ¬ ((-1 : Int) > 0) := by decide
  unfold Builtin.Slice.slicePlaces
  rw [if_neg e]
  by_cases h : (n : Int) - 1 > (k : Int) - 1
  · rw [if_pos h]
    show (((n : Int) - 1 - ((k : Int) - 1) - 1) / 1 + 1).toNat = n - k
    rw [Int.ediv_one]
    omega
  · rw [if_neg h]
    show 0 = n - k
    omega
theorem back_pick (xs : Array Value) (k : Nat) : ∀ c : Nat, c ≤ xs.size - k → (List.range c).filterMap (fun (m : Nat) => xs[((xs.size : Int) - 1 + (m : Int) * (-1)).toNat]?) = ((xs.toList.drop k).reverse).take c
  | 0, _ => by simp
  | c + 1, h => by
    have hl : (xs.toList.drop k).length = xs.size - k := by rw [List.length_drop, Array.length_toList]
    have e : ((xs.size : Int) - 1 + (c : Int) * (-1)).toNat = xs.size - 1 - c := by omega
    rw [List.range_succ, List.filterMap_append, back_pick xs k c (by omega), List.take_add_one, List.getElem?_reverse (by omega), List.getElem?_drop, hl]
    have e2 : k + (xs.size - k - 1 - c) = xs.size - 1 - c := by omega
    rw [e2, Array.getElem?_toList]
    congr 1
    rw [List.filterMap_cons, e]
    cases xs[xs.size - 1 - c]? <;> rfl
section
variable {prog : Program} {w : World} {A : Around} {E : Value → Shared → Prop} {s : Shared}
theorem applied_back {sl : Addr} {vl vu vs : Value} {hi : Option Int} {n k : Nat} {Q : Int × Int × Nat → Shared → Prop} (hs : s.heap.IsSliceOf sl vl vu vs) (pl : IsPart vl none) (pu : IsPart vu hi) (ps : IsPart vs (some (-1)))
    (hk : (hi = none ∧ k = 0) ∨ (hi = some 0 ∧ k = 1 ∧ 0 < n)) (h : Q ((n : Int) - 1, -1, n - k) s) : wpAny (model prog w) A (Builtin.Slice.sliceApplied (.ref sl) (pure (n : Int))) Q E s := by
  obtain ⟨ob, hob, _, hd⟩ := id hs
  unfold Builtin.Slice.sliceApplied Builtin.Slice.sliceFields
  have f2 : ∀ {R : Value × Value × Value → Shared → Prop}, R (vl, vu, vs) s → wpAny (model prog w) A (do return (← field (.ref sl) 0, ← field (.ref sl) 1, ← field (.ref sl) 2)) R E s := fun hR =>
    wpAny_bind (wpAny_field hob hd (x := vl) rfl (wpAny_bind (wpAny_field hob hd (x := vu) rfl (wpAny_bind (wpAny_field hob hd (x := vs) rfl (wpAny_pure hR))))))
  refine wpAny_bind (f2 (wpAny_bind (HT.slicePart_ ps ?_)))
  show wpAny _ _ (if ((-1 : Int) == 0) = true then _ else _) _ _ s
  rw [if_neg (by decide)]
  refine wpAny_bind (HT.slicePart_ pl (wpAny_bind (HT.slicePart_ pu (wpAny_bind (wpAny_pure ?_)))))
  show wpAny _ _ (match Builtin.Slice.sliceAdjust none hi (-1) (n : Int) with | (lo, up) => pure (lo, (-1 : Int), Builtin.Slice.slicePlaces lo up (-1))) _ _ s
  rw [back_adjust hk]
  show wpAny _ _ (pure ((n : Int) - 1, (-1 : Int), Builtin.Slice.slicePlaces ((n : Int) - 1) ((k : Int) - 1) (-1))) _ _ s
  rw [back_places]
  exact wpAny_pure h
theorem item_back {t sl : Addr} {items : Array Value} {vl vu vs : Value} {hi : Option Int} {k : Nat} {Q : Value → Shared → Prop} (ht : IsTup s.heap t items) (hs : s.heap.IsSliceOf sl vl vu vs) (pl : IsPart vl none) (pu : IsPart vu hi) (ps : IsPart vs (some (-1)))
    (hk : (hi = none ∧ k = 0) ∨ (hi = some 0 ∧ k = 1 ∧ 0 < items.size)) (hz : items.size ≤ sizeLine)
    (h : Q (.ref s.heap.objs.size) { s with heap := s.heap.push { cls := .type "tuple", data := .seq ((items.toList.drop k).reverse).toArray } }) : wpAny (model prog w) A (getItem (.ref t) (.ref sl)) Q E s := by
  obtain ⟨ob, hob, hc, _⟩ := id hs
  have isl : s.TypeIs (.ref sl) "slice" := ⟨ob, hob, hc⟩
  have room : sizeOk (.seq ((items.toList.drop k).reverse).toArray) := by
    show ((items.toList.drop k).reverse).toArray.size ≤ sizeLine
    rw [List.size_toArray, List.length_reverse, List.length_drop, Array.length_toList]
    omega
  unfold getItem
  try with_reducible refine wpAny_holding ?_
  first | refine wpAny_bind (wpAny_pure ?_) | skip
  refine wpAny_bind (wpAny_sequenceKey ht.typeIs (by decide) (wpAny_bind ?_))
  refine wpAny_callSpecial?_slot (name := Str.ofString "__getitem__") ht.typeIs PyProof.Rows.slot_tuple_getitem ?_
  refine wpAny_call_entry PyProof.Rows.slot_tuple_getitem ht.typeIs entry_tuple_getitem ?_ (args_tuple_getitem _ _)
  show wpAny _ _ (Builtin.Tuple.tupleItemsOf (.ref t) >>= _) _ _ s
  refine wpAny_bind (tupleItemsOf_ ht (wpAny_bind (wpAny_typeOf isl ?_)))
  rw [if_pos (by decide)]
  refine wpAny_bind (applied_back hs pl pu ps hk ?_)
  have hno : ¬ ((((items.size : Int) - 1 == 0) && ((-1 : Int) == 1) && (items.size - k == items.size)) = true) := by
    rw [show ((-1 : Int) == 1) = false by decide, Bool.and_false, Bool.false_and]
    exact Bool.false_ne_true
  show wpAny _ _ (if (((items.size : Int) - 1 == 0) && ((-1 : Int) == 1) && (items.size - k == items.size)) = true then _ else _) _ _ s
  have hp := back_pick items k (items.size - k) (Nat.le_refl _)
  rw [List.take_of_length_le (by rw [List.length_reverse, List.length_drop, Array.length_toList]; exact Nat.le_refl _)] at hp
  rw [if_neg hno, hp]
  first
    | exact wpAny_bind (m := Builtin.Tuple.tupleExact _) (wpAny_newObj_type (wpAny_pure ⟨_, rfl, wpAny_pure h⟩) room)
    | exact wpAny_bind (m := Builtin.Tuple.tupleExact _) (wpAny_newObj_type (wpAny_bind (wpAny_pure (wpAny_pure ⟨_, rfl, wpAny_pure h⟩))) room)
    | exact wpAny_bind (wpAny_bind (m := Builtin.Tuple.tupleExact _) (wpAny_newObj_type (wpAny_pure (wpAny_pure ⟨_, rfl, wpAny_pure h⟩)) room))
    | exact wpAny_bind (wpAny_bind (m := Builtin.Tuple.tupleExact _) (wpAny_newObj_type (wpAny_pure ⟨_, rfl, wpAny_pure h⟩) room))
end
section
variable {X : Cx}
/-- t[:hi:-1], hi left out or 0: k items at the front are left out, the rest backwards -/
def tBack (K : PySem.W.Frag) (te : TE) (tu : TO) : TE := fun σ H Q => te σ H fun x H1 => tu σ H1 fun u H2 => ∃ (a : Addr) (xs : List V) (k : Nat), x = .ref a ∧ SqT K H2 a xs ∧ ((u = none ∧ k = 0) ∨ (u = some 0 ∧ k = 1 ∧ 0 < xs.length)) ∧
  ∀ p, H2 p = none → Q (.ref p) (upd H2 p (.tup (xs.drop k).reverse))
theorem pe_back {e : Expr} {hi : Option Expr} {te : TE} {tu : TO} {kk : Nat} {p1 p2 p3 pos : Pos} (he : PE X e te) (hu : PO X hi tu) :
    PE X (.Subscript e (.Slice none hi (some (.UnaryOp .USub (.Constant (.int 1) kk p1) p2)) p3) pos) (tBack X.K te tu) := by
  refine ⟨fun pins s0 σ H0 Q I0 h => Subscript_ (thn (he.run pins s0 σ H0 _ I0 h) fun v s1 ⟨x, H1, I1, rx, q1⟩ => ?_)⟩
  have hst : PO X (some (.UnaryOp .USub (.Constant (.int 1) kk p1) p2)) (tPart (tUn (rU fun i => .int (-i)) (tC (.int 1)))) := po_some (pe_un un_neg pe_int)
  refine wpAny_Slice (thn (po_none.run pins s1 σ H1 (fun o G => o = none ∧ G = H1) I1 ⟨rfl, rfl⟩) fun vl s2 ⟨o1, G, I2, pl, eo, eG⟩ => ?_)
  subst eo eG
  refine thn (hu.run pins s2 σ G _ I2 q1) fun vu s3 ⟨u, G2, I3, pu, q2⟩ => ?_
  refine thn (hst.run pins s3 σ G2 (fun o G => o = some (-1) ∧ G = G2) I3 ⟨1, rfl, -1, rfl, rfl, rfl⟩) fun vs s4 ⟨o2, G3, I4, ps, eo2, eG2⟩ => ?_
  subst eo2 eG2
  obtain ⟨a, xs, k, ex, hx, hk, q⟩ := q2
  subst ex
  obtain rfl : v = Value.ref a := rx
  have I5 : Inv X pins σ G3 { s4 with heap := s4.heap.push { cls := .type "slice", data := .fields #[vl, vu, vs] } } := I4.kept (t' := s4.toks) fun b ob q => Heap.get?_push_of_some _ q
  obtain ⟨its, r, ht, hz⟩ := I5.tuple hx
  have hlen := r.length
  show wpAny (model X.prog X.w) X.A (subscriptTail e (.Slice none hi (some (.UnaryOp .USub (.Constant (.int 1) kk p1) p2)) p3) (.ref a) (.ref s4.heap.objs.size)) (EP X pins σ Q) X.xe _
  refine tail_any (ops := [.ref a, .ref s4.heap.objs.size]) ht.typeIs PyProof.Rows.slot_tuple_getitem.lookup ?_ (by with_unfolding_all rfl)
  refine item_back (k := k) ht (Heap.IsSliceOf.new _ vl vu vs) pl pu ps ?_ (by rw [List.size_toArray]; omega) ?_
  · rcases hk with h | ⟨h1, h2, h3⟩
    · exact .inl h
    · exact .inr ⟨h1, h2, by rw [List.size_toArray]; omega⟩
  refine ⟨.ref _, _, I5.laid (t' := s4.toks) (o := .tup (xs.drop k).reverse) (fun b ob q => Heap.get?_push_of_some _ q) (Nat.le_refl _) ?_, rfl, q _ (I5.hok.fresh (Nat.le_refl _))⟩
  exact ⟨by rw [List.length_reverse, List.length_drop]; omega, _, (r.drop k).reverse, IsTup.new _ _⟩
end
end Cr
namespace Cr
open PySem PySem.Spec PyProof.Rows L2
section
variable {J : It} {n : Nat} {G : Hp → Prop} {Y : Nat → Hp → V → Hp → Prop}
/-- a dict comprehension over a walk: what holds (Pv) by the turn and the heap, the new dict at D within it -/
theorem dc_it (walk : Walk J n G Y) {g : TG} {tt : TT} {tk tv : TE} {vs : List Nat} {σ : L2.St} {H1 : Hp} {D : Addr} {Qd : Hp → Prop} (Pv : Nat → Hp → Prop) (start : Pv 0 (upd H1 D (.dK []))) (stays : ∀ i H, i ≤ n → Pv i H → G H)
    (turn : ∀ i x H H', i < n → Pv i H → Y i H x H' → g x (wipe σ vs) H' fun σ2 H2 => wipe σ2 vs = wipe σ vs ∧ tt σ2 H2 fun b H3 =>
      if b = true then tk σ2 H3 fun y H4 => tv σ2 H4 fun z H5 => ∃ kvs k, y = kV k ∧ H5 D = some (.dK kvs) ∧ kvs.length < sizeLine ∧ Pv (i + 1) (upd H5 D (.dK (putK kvs k z))) else Pv (i + 1) H3) (fin : ∀ H, Pv n H → Qd H) :
    ∃ W : Nat → Nat → Hp → Prop, (∃ m, W 0 m (upd H1 D (.dK []))) ∧ ∀ i m H, W i m H →
      (J.stop i H ∧ Qd H) ∨ (J.go i H ∧ ∃ Nx : Hp → Prop, (∀ H', Nx H' → ∃ m', m' < m ∧ W (i + 1) m' H') ∧ ∀ x H', J.yld i H x H' → g x (wipe σ vs) H' fun σ2 H2 => wipe σ2 vs = wipe σ vs ∧ tt σ2 H2 fun b H3 =>
        if b = true then tk σ2 H3 fun y H4 => tv σ2 H4 fun z H5 => ∃ kvs k, y = kV k ∧ H5 D = some (.dK kvs) ∧ kvs.length < sizeLine ∧ Nx (upd H5 D (.dK (putK kvs k z))) else Nx H3) := by
  refine ⟨fun i m G' => (i ≤ n ∧ m = n - i) ∧ Pv i G', ⟨n, ⟨Nat.zero_le _, rfl⟩, start⟩, fun i m G' hw => ?_⟩
  obtain ⟨⟨hi, rfl⟩, p⟩ := hw
  have st := stays i G' hi p
  rcases Nat.lt_or_ge i n with hlt | hge
  · exact .inr ⟨walk.goes i G' hlt st, Pv (i + 1), fun H' p' => ⟨n - (i + 1), by omega, ⟨hlt, rfl⟩, p'⟩, fun x H' y => turn i x G' H' hlt p (walk.yields i G' x H' hlt st y)⟩
  · obtain rfl : i = n := by omega
    exact .inl ⟨walk.stops G' st, fin G' p⟩
end
/-- how many different ints are in a list -/
def many (ns : List Int) : Nat := (firstMet (fun i => ns.getD i 0) ns.length).length
section
variable {X : Cx}
def tSize (K : PySem.W.Frag) (ta : TE) : TE := fun σ H Q => ta σ H fun x H1 => ∃ (l : Addr) (ns : List Int), x = .ref l ∧ SqL K H1 l (ns.map V.int) ∧ ns.length ≤ 4000 ∧ Q (.int (many ns : Nat)) H1
/-- len(set(xs)), xs a list of ints -/
theorem pe_lenSet {e : Expr} {ta : TE} {p p2 q pos : Pos} (gl : Gl X "len") (ml : X.mg "len" = none) (gs : Gl X "set") (ms : X.mg "set" = none) (ha : PE X e ta) (hc : X.calm = true := by rfl)
    (na : starEach [e] X.env = (false, eval e X.env) :: starEach [] X.env := by rfl) : PE X (.Call (.Name "len" p) [.Call (.Name "set" p2) [e] [] q] [] pos) (tSize X.K ta) := by
  refine ⟨fun pins s σ H Q I h => Call_ (ld_blt I gl ml boot_len (PyProof.Rows.callWith_builtin1 (PyProof.Rows.args_cons (Call_ (ld_blt I gs ms boot_set ?_)) rfl) rfl rfl))⟩
  refine PyProof.Rows.callWith_type1 (PyProof.Rows.args_cons (thn (ha.run pins s σ H _ I h) fun v s1 ⟨x, H1, I1, r1, q1⟩ => PyProof.Rows.args_nil ?_) na) na rfl
  obtain ⟨l, ns, ex, hq, hl, q1⟩ := q1
  subst ex
  obtain rfl : v = Value.ref l := r1
  obtain ⟨its, r, pl, hz⟩ := I1.list hq
  have es : its.toArray.size = ns.length := by rw [List.size_toArray, ← r.length, List.length_map]
  refine call_set_list (I1.ok.hd hc) pl.isList (by simpa using RZ.intsAre_vals r) (by rw [es]; unfold scanBound; omega) fun h' tk hS hk => PyProof.Rows.args_nil ?_
  rw [es] at hS
  obtain ⟨o, en, ep, t, ho, hex, hd, _, _, _, hf, hn⟩ := hS
  have lm := firstMet_length_le (fun i => ns.getD i 0) ns.length
  refine call_len_set ho hex hd hf (by rw [hn]; omega) ⟨.int (many ns : Nat), H1, (I1.kept (t' := tk) fun b o e => hk b o (Heap.lt_size e) e).tok _, ⟨_, by rw [hn]; rfl⟩, q1⟩
end
end Cr
namespace Cr
open PySem PySem.Spec PyProof.Rows L2
/-! the law's own frame stands outside every repr; repr of nested data -/
def RunsG (P : Program) (w : World) (K : PySem.W.Frag) (mg : Str → Option Value) (base : Heap) (k : Nat) (f : Addr) (fd : FuncData) (ps : List Str) (sp : Sp) : Prop :=
  ∀ (A : Around) (outer : List Env) (s : Shared) (H : Hp) (args : Args) (us : List Value) (vs : List V) (Q : VK) (E : XK), A.guards = some [] → Room k A → Env0 P w K mg base A outer s H → BindsTo s fd args (ps.zip us) → Vals vs us → sp vs H Q E →
    codeAny (model P w) A (.call (.ref f) args) (CR CX0 outer P w H s Q E) s
section
variable {P : Program} {w : World} {K : PySem.W.Frag} {mg : Str → Option Value} {base : Heap}
theorem fn_g {k : Nat} {x qual : Str} {st : Stmt} {f : Addr} {fd : FuncData} {N ps : List Str} {sp : Sp} (F : Fun K x qual st f fd) (S : FnScope N ps (defScope st)) (len : ∀ vs H Q E, sp vs H Q E → vs.length = ps.length)
    (body : ∀ (cdv : Value) (A : Around) (outer : List Env) (s : Shared) (H : Hp) (vs : List V) (Q : VK) (E : XK), A.guards = some [] → Room k (A.deeper (envOfC qual (defScope st) s.heap.objs.size f cdv)) → sp vs H Q E →
      ∃ t, PSs (cxOf CX0 P w K mg base N qual (defScope st) f cdv A outer s H E).nox (defBody st) t ∧ t { nx := fun _ H' => Q .non H', rt := Q } (start N vs) H) : RunsG P w K mg base (k + 1) f fd ps sp := by
  obtain ⟨oc, od, kV, doc, pm, an, cdv, ct, osl, rfl, lk, hcd⟩ := F.ex
  intro A outer s H args us vs Q E hg hr env bind rel hsp
  have n1 := len _ _ _ _ hsp
  have kin : K.In s.heap := env.mod.kin.keeps fun c u z => (env.bs c u z).1
  have nol : s.heap.NoLimit := env.mod.nolimit.keeps fun c u z => (env.bs c u z).1
  have kinds : ∀ y ∈ ps.zip us, (defScope st).names.lookup y.1 = some .local ∨ ((defScope st).names.lookup y.1 = some .cell ∧ ((cellsFrom (s.heap.objs.size + 1) (defScope st).names []).lookup y.1).isSome = true) := by
    rintro ⟨n, v⟩ hy
    rcases S.par n (List.of_mem_zip hy).1 with z | z
    · exact Or.inl z
    · exact Or.inr ⟨z, PySem.W.cellsFrom_some _ _ _ (Or.inl z)⟩
  refine codeAny_call_function hr.depth (kin _ _ lk) rfl S.co S.gen rfl (PySem.W.codeRec_of kin hcd) (bind _ _ _ _ (wpAny_newFunctionEnv_cells S.kind kinds fun e1 h1 t1 y => ?_))
  subst h1
  refine ⟨nol.keeps y.toInCall.keep, codeAny_func ?_⟩
  obtain ⟨t, ht, hq⟩ := body cdv A outer s H vs Q E hg (hr.deeper _) hsp
  have inv0 : Inv (cxOf CX0 P w K mg base N qual (defScope st) f cdv A outer s H E) [] (start N vs) H t1 := inv_start S hr.hd env n1 rel y
  refine wpAny_mono (ht.nox.run [] t1 (start N vs) H _ inv0 hq) (fun fl s' z => ?_) fun e s' z => z
  cases fl with
  | ret u =>
    obtain ⟨v, σ', H', J, rv, q⟩ := z
    exact ⟨v, H', J.os, J.bare, J.base, J.hok, rv, q⟩
  | next =>
    obtain ⟨σ', H', J, q⟩ := z
    exact ⟨V.non, H', J.os, J.bare, J.base, J.hok, rfl, q⟩
  | brk => exact z.elim fun _ z => z.elim fun _ z => z.2.elim
  | cont => exact z.elim fun _ z => z.elim fun _ z => z.2.elim
end
/-- the call of the law by the claim's caller -/
theorem law_g {P : Program} {w : World} {K : PySem.W.Frag} {mg mb : Str → Option Value} {k : Nat} {fa a : Addr} {fd : FuncData} {x : Str} {sp : Sp} {t : Shared} {us : List Value} {ns : List Int} (kin : K.In t.heap) (main : t.heap.Ns mainGlobals mg) (blt : t.heap.Ns builtinsNs mb)
    (boot : ∀ y : Str, y ≠ "__name__" → mb y = bootBuiltins y) (nol : t.heap.NoLimit) (gens : t.gens = #[]) (scr : t.heap.get? a = some { cls := .type "list", data := .seq us.toArray }) (nums : IntsAre us ns) (short : ns.length ≤ sizeLine) (room : Room k callerA)
    (F : ∀ base : Heap, K.In base → base.Ns mainGlobals mg → RunsG P w K mg base k fa fd [x] sp) (bind : ∀ (s : Shared) (u : Value), BindsTo s fd ⟨[u], []⟩ [(x, u)]) (say : ∀ H : Hp, Only H → SqL K H a (ns.map V.int) → sp [.ref a] H (fun v _ => v = .bl true) fun _ _ _ => False) :
    codeAny (model P w) callerA (.call (.ref fa) ⟨[.ref a], []⟩) (fun r s' => r = .ok (.ret (.bool true)) ∧ OldK t.heap s'.heap ∧ s'.os = t.os ∧ AllBare s'.gens) t := by
  have vals := vals_ints nums
  have main1 : ∀ H : Hp, Only H → SqL K H a (ns.map V.int) → HOk P w H t.heap → (∀ c, H c ≠ none → c = a) → (H a ≠ none → K.lookup a = none) →
      codeAny (model P w) callerA (.call (.ref fa) ⟨[.ref a], []⟩) (fun r s' => r = .ok (.ret (.bool true)) ∧ OldK t.heap s'.heap ∧ s'.os = t.os ∧ AllBare s'.gens) t := by
    intro H only seq ok just noK
    have free : ∀ {c : Addr} {o : Obj} {es : Array DictEntry} {ep : Nat}, t.heap.get? c = some o → o.data = .dict es ep → H c = none := by
      intro c o es ep e d
      cases z : H c with
      | none => rfl
      | some u =>
        obtain rfl : c = a := just c (by rw [z]; exact Option.some_ne_none u)
        rw [scr] at e
        cases e
        exact absurd (show Data.seq us.toArray _ = Data.dict es ep from d) (by intro y; cases y)
    have ns2 : ∀ {c : Addr} {m : Str → Option Value}, t.heap.Ns c m → (hidT t.heap H).Ns c m := by
      rintro c m ⟨o, es, ep, e, d, r⟩
      exact ⟨o, es, ep, hidT_get e (free e d), d, r⟩
    have kin2 : K.In (hidT t.heap H) := by
      intro c o e
      refine hidT_get (kin c o e) ?_
      cases z : H c with
      | none => rfl
      | some u =>
        obtain rfl : c = a := just c (by rw [z]; exact Option.some_ne_none u)
        rw [noK (by rw [z]; exact Option.some_ne_none u)] at e
        cases e
    have mod : Mod K mg (hidT t.heap H) := ⟨kin2, ns2 main, ⟨mb, ns2 blt, boot⟩, by obtain ⟨mc, y1, y2⟩ := nol; exact ⟨mc, ns2 y1, y2⟩⟩
    have env : Env0 P w K mg (hidT t.heap H) callerA [] t H := ⟨rfl, mod, fun c o e => of_hidT e, Nat.le_of_eq (hidT_size _ _), trivial, fun c hc => absurd (show c ∈ ([] : List Addr) from hc) (by simp), ok, .of_eq gens⟩
    refine codeAny_mono (F _ kin2 (ns2 main) callerA [] t H ⟨[.ref a], []⟩ [.ref a] [.ref a] _ _ rfl room env (bind t (.ref a)) (.cons rfl .nil) (say H only seq)) fun r s' z => ?_
    match r, z with
    | .error e, z => exact False.elim z
    | .ok .next, z => exact False.elim z
    | .ok .brk, z => exact False.elim z
    | .ok .cont, z => exact False.elim z
    | .ok (.ret u), z =>
      obtain ⟨v, H', os, bare, un, ok', rv, q⟩ := z
      cases (show v = .bl true from q)
      cases (show u = Value.bool true from rv)
      refine ⟨rfl, OldK.of_keep fun c o e => ?_, os, bare⟩
      cases z : H c with
      | none => exact un.keep c o e z (fun y => absurd (show c ∈ ([] : List Addr) from y) (by simp)) (by simp)
      | some u =>
        rcases only c with y | ⟨oc, xs, y⟩
        · rw [z] at y
          cases y
        · obtain ⟨y1, _⟩ := ok c _ y
          obtain ⟨y2, _⟩ := ok' c _ (un.frzs c oc _ y)
          rw [e] at y1
          cases y1
          exact y2
  cases hk : K.lookup a with
  | some o =>
    have e := kin a o hk
    rw [scr] at e
    cases e
    refine main1 (fun _ => none) (fun _ => Or.inl rfl) (.inr ⟨_, us.toArray, _, hk, rfl, rfl, rfl, by rw [List.size_toArray, nums.length]; exact short, by simpa using vals⟩) (fun c u z => ?_) (fun c z => absurd rfl z) fun z => absurd rfl z
    exact absurd (show (none : Option HO) = some u from z) (by intro y; cases y)
  | none =>
    refine main1 (upd (fun _ => none) a (.frz { cls := .type "list", data := .seq us.toArray } (.lst (ns.map V.int)))) (fun c => ?_) (.inl (.inr ⟨{ cls := .type "list", data := .seq us.toArray }, upd_same⟩)) (fun c u z => ?_) (fun c z => ?_) fun _ => hk
    · by_cases e : c = a
      · subst e
        exact Or.inr ⟨_, _, upd_same⟩
      · exact Or.inl (upd_ne e)
    · by_cases e : c = a
      · subst e
        cases upd_same.symm.trans z
        exact ⟨scr, by rw [List.length_map]; exact short, us, _, vals, scr⟩
      · cases (upd_ne e).symm.trans z
    · by_cases e : c = a
      · exact e
      · exact absurd (upd_ne e) z
theorem walk_g {l : PySem.W.OpenLaw} {n k : Nat} {q : Program} {loose : List Str} {XP : (Str → Option Value) → Heap → Prop} {YP : World → Heap → Prop} {d : DefRec} {K : Params → PySem.W.Frag} {sp : World → Sp} {x : Str} (hn : l.most = some n) (hn2 : n ≤ sizeLine) (hdf : d.params.defaults = []) (room : Room k callerA)
    (hY : ∀ (w : World) (h : Heap), YP w h → (K w.params).In h)
    (F : ∀ (w : World) (mg : Str → Option Value) (fa : Addr) (h : Heap), (K w.params).In h → h.Ns mainGlobals mg → mg d.name = some (.ref fa) → ∃ fd : FuncData, (∀ (s : Shared) (u : Value), BindsTo s fd ⟨[u], []⟩ [(x, u)]) ∧
      ∀ base : Heap, (K w.params).In base → base.Ns mainGlobals mg → RunsG l.prog w (K w.params) mg base k fa fd [x] (sp w))
    (say : ∀ (w : World) (H : Hp) (a : Addr) (ns : List Int), ns.length ≤ n → Only H → SqL (K w.params) H a (ns.map V.int) → sp w [.ref a] H (fun v _ => v = .bl true) fun _ _ _ => False) : PySem.W.WalkO q loose XP YP l.row.toRowW d [] (fun f vs => PySem.call f vs) := by
  refine Att.attach_call hn hdf fun w _ t mg mb fa o pm cd doc a us ns G Y ho hd hcd hmg hobj hints hlen hg => ?_
  obtain ⟨fd, bind, run⟩ := F w mg fa _ (hY w _ Y) G.T.g hmg
  exact law_g (hY w _ Y) G.T.g G.T.b G.T.builtins G.T.nolimit hg hobj hints (Nat.le_trans hlen hn2) room run bind fun H only seq => say w H a ns hlen only seq
section
open PySem.Builtin PySem.Builtin.List
variable {prog : Program} {w : World} {A : Around} {E : Value → Shared → Prop} {s : Shared}
/-- repr of a list that has items -/
theorem repr_list {a : Addr} {o : Obj} {x : Value} {l : List Value} {n : Nat} {ds : List PyData} {as : List Addr} {Q : Value → Shared → Prop} (ho : s.heap.get? a = some o) (hc : o.cls = .type "list") (hd : o.data = .seq (x :: l).toArray n) (rs : ReadsAll s.heap (x :: l) ds as)
    (hs : PyData.showableAll ds = true) (hsm : sysModules ∉ as) (hz : (listText (PyData.shownAll ds)).length ≤ sizeLine) (hg : A.guards = some []) (hu : A.units + 1 + (PyData.depthAll ds + 1) < cLine)
    (q : ∀ h' u tk, (∀ b o, s.heap.get? b = some o → h'.get? b = some o) → Q (.str (listText (PyData.shownAll ds)) u) { s with heap := h', toks := tk }) : wpAny (model prog w) A (call (.builtin "repr") [.ref a]) Q E s := by
  obtain ⟨bs, hb, hk⟩ := ReprAllK.of_readsAll (prog := prog) (w := w) rs hs (fun _ => hsm) (fun t ht => Nat.le_trans (listText_mem_le ht) hz)
  have r : Reads s.heap (.ref a) (.list ds) (a :: as) := .list ho hc hd (by simpa using rs)
  have hna : a ∉ bs := not_mem_of_deeper r (by simp only [PyData.depth]; omega) hb
  have ty : s.TypeIs (.ref a) "list" := ⟨o, ho, hc⟩
  refine Calls.call_function_entry PySem.F.kind_repr PySem.F.plain_repr PySem.F.entry_repr (PySem.F.args_repr1 _) ?_
  unfold Builtin.«repr»
  refine wpAny_bind (m := oneArg "repr" _) (wpAny_pure ?_)
  refine wpAny_bind (wpAny_cRoomFor (by show A.units + 1 < cLine; omega) ?_)
  refine wpAny_bind (wpAny_specialOf (name := Str.ofString "__repr__") ty PySem.F.slot_list_repr.lookup ?_)
  rw [if_neg (by simp)]
  refine wpAny_bind (m := callSpecialIfBound? (.ref a) (Str.ofString "__repr__") _) (wpAny_callSpecialIfBound?_slot (name := Str.ofString "__repr__") ty PySem.F.slot_list_repr
    (call_list_reprK ho hc hd hna (by simpa using hk.length_eq) (fun i y e => hk.item i y (by simpa using e)) (show A.in1.guards = some [] from hg) (fun b _ => Clear.nil b) (by show A.units + 1 + _ < cLine; exact hu) (fun _ _ e => e) (fun h' u tk k => ?_) hz))
  refine wpAny_bind (wpAny_isInstance (typeIs_str _ _ _) isSubtype_str_str ?_)
  exact wpAny_pure ⟨_, rfl, q h' u tk k⟩
end
end Cr
namespace Cr
open PySem PySem.Spec PyProof.Rows L2
section
variable {X : Cx}
/-- name = {..} on one line, the name a local -/
theorem ps_setDc {i : Nat} {y : Str} {py : Pos} {kx vx tg iter : Expr} {ifs : List Expr} {scope : Scope} {own : List (Str × Nat)} {pos spos : Pos} {wi : TI} {g : TG} {tt : TT} {tk tv : TE} (hc : X.calm = true) (nd : X.N.Nodup) (at_ : X.N[i]? = some y) (loc : X.env.scope.names.lookup y = some .local)
    (sw : swapsWith (.DictComp kx vx [⟨tg, iter, ifs, 0⟩] scope pos) (some (.Name y py)) spos.line X.env = pure true) (hi : PI X tg iter wi) (ok : BlkOk X.N X.env.scope scope own)
    (hg : ∀ (s : Shared) (H : Hp) (C : Addr) (cl : List (Str × Addr)) (fp : List Addr), PG (X.blk s H scope (compEnvC scope cl C X.env) fp) tg g) (ht : ∀ (s : Shared) (H : Hp) (C : Addr) (cl : List (Str × Addr)) (fp : List Addr), PTs (X.blk s H scope (compEnvC scope cl C X.env) fp) ifs tt)
    (hk : ∀ (s : Shared) (H : Hp) (C : Addr) (cl : List (Str × Addr)) (fp : List Addr), PE (X.blk s H scope (compEnvC scope cl C X.env) fp) kx tk) (hv : ∀ (s : Shared) (H : Hp) (C : Addr) (cl : List (Str × Addr)) (fp : List Addr), PE (X.blk s H scope (compEnvC scope cl C X.env) fp) vx tv)
    (hs : ∀ x, foldedSetIterable iter X.env x = pure x := by intro _; rfl) : PS X (.Assign [.Name y py] (.DictComp kx vx [⟨tg, iter, ifs, 0⟩] scope pos) spos) (tAsg (tDc wi g tt tk tv (own.map (·.2))) (gName i)) := by
  refine ⟨fun pins s σ H D I h => ?_⟩
  rw [exec_Assign_Name_used _ _ _ _ sw]
  refine wpAny_bind (wpAny_standAt (wpAny_bind ?_))
  show wpAny _ X.A (do let _ ← comprehension (.DictComp kx vx [⟨tg, iter, ifs, 0⟩] scope pos) scope X.env (firstIterPos [⟨tg, iter, ifs, 0⟩] pos) newDict false (eval iter X.env) (some (assign (.Name y py) X.env))) _ _ s
  have h2 : tDc wi g tt tk tv (own.map (·.2)) σ H (fun x H1 => gName i x σ H1 D.nx) := h
  refine wpAny_bind (thn (dc_core (Qf := fun _ t => SP X pins D .next t) hc nd I hi ok hg ht hk hv hs h2 fun L C t m H' J q ns fp => ?_) fun _ t z => wpAny_pure (wpAny_pure z))
  show wpAny _ _ (assign (.Name y py) X.env (.ref L)) _ _ _
  refine wpAny_assign_Name (store_ok2 (v := V.ref L) J nd at_ (.inl loc) rfl (fun t2 J2 ⟨c, sb, hcc⟩ => ?_) (.inr loc))
  obtain ⟨b0, b1, b2, b3, b4, b5⟩ := fp
  have apart : C ≠ c := hcc.elim (fun z => z ▸ b1) fun z e => b4 y c z e.symm
  refine ⟨m, ns.sameBut sb apart, fun h3 sb3 => ⟨_, H', J2.turned (t' := t2.toks) (fun b o hb e => (sb3.2 b hb).trans e) b0 b1 b3 b4 b5, q⟩⟩
theorem sw_dict {kx vx : Expr} {gs : List Comprehension} {scope : Scope} {pos py : Pos} {y : Str} {l : Nat} {env : Env} (kind : env.scope.kind = .function) (loc : env.scope.names.lookup y = some .local) (line : (py.line == pos.line) = true)
    (none : (scope.names.any fun (n, k) => n == y && (k == .local || k == .cell)) = false) : swapsWith (.DictComp kx vx gs scope pos) (some (.Name y py)) l env = pure true := by
  have k1 : env.kindOf y = some .local := loc
  have k2 : env.blockKind = .function := by unfold Env.blockKind; rw [kind]; rfl
  unfold swapsWith
  simp only [k2, k1, none, Expr.pos, line]
  rfl
end
end Cr
namespace Cr
open PySem PySem.Spec PyProof.Rows L2
section
variable {X : Cx}
/-- t[:hi:-1] of a tuple, hi left out or 0; t[::-1] of a list -/
def tBack2 (K : PySem.W.Frag) (te : TE) (tu : TO) : TE := fun σ H Q => te σ H fun x H1 => tu σ H1 fun u H2 =>
  (∃ (a : Addr) (xs : List V) (k : Nat), x = .ref a ∧ SqT K H2 a xs ∧ ((u = none ∧ k = 0) ∨ (u = some 0 ∧ k = 1 ∧ 0 < xs.length)) ∧ ∀ p, H2 p = none → Q (.ref p) (upd H2 p (.tup (xs.drop k).reverse))) ∨
  (∃ (a : Addr) (xs : List V), x = .ref a ∧ u = none ∧ SqL K H2 a xs ∧ ∀ p, H2 p = none → Q (.ref p) (upd H2 p (.lst xs.reverse)))
theorem pe_back2 {e : Expr} {hi : Option Expr} {te : TE} {tu : TO} {kk : Nat} {p1 p2 p3 pos : Pos} (he : PE X e te) (hu : PO X hi tu) :
    PE X (.Subscript e (.Slice none hi (some (.UnaryOp .USub (.Constant (.int 1) kk p1) p2)) p3) pos) (tBack2 X.K te tu) := by
  refine ⟨fun pins s0 σ H0 Q I0 h => Subscript_ (thn (he.run pins s0 σ H0 _ I0 h) fun v s1 ⟨x, H1, I1, rx, q1⟩ => ?_)⟩
  have hst : PO X (some (.UnaryOp .USub (.Constant (.int 1) kk p1) p2)) (tPart (tUn (rU fun i => .int (-i)) (tC (.int 1)))) := po_some (pe_un un_neg pe_int)
  refine wpAny_Slice (thn (po_none.run pins s1 σ H1 (fun o G => o = none ∧ G = H1) I1 ⟨rfl, rfl⟩) fun vl s2 ⟨o1, G, I2, pl, eo, eG⟩ => ?_)
  subst eo eG
  refine thn (hu.run pins s2 σ G _ I2 q1) fun vu s3 ⟨u, G2, I3, pu, q2⟩ => ?_
  refine thn (hst.run pins s3 σ G2 (fun o G => o = some (-1) ∧ G = G2) I3 ⟨1, rfl, -1, rfl, rfl, rfl⟩) fun vs s4 ⟨o2, G3, I4, ps, eo2, eG2⟩ => ?_
  subst eo2 eG2
  have I5 : Inv X pins σ G3 { s4 with heap := s4.heap.push { cls := .type "slice", data := .fields #[vl, vu, vs] } } := I4.kept (t' := s4.toks) fun b ob q => Heap.get?_push_of_some _ q
  rcases q2 with ⟨a, xs, k, ex, hx, hk, q⟩ | ⟨a, xs, ex, eu, hx, q⟩
  · subst ex
    obtain rfl : v = Value.ref a := rx
    obtain ⟨its, r, ht, hz⟩ := I5.tuple hx
    have hlen := r.length
    show wpAny (model X.prog X.w) X.A (subscriptTail e (.Slice none hi (some (.UnaryOp .USub (.Constant (.int 1) kk p1) p2)) p3) (.ref a) (.ref s4.heap.objs.size)) (EP X pins σ Q) X.xe _
    refine tail_any (ops := [.ref a, .ref s4.heap.objs.size]) ht.typeIs PyProof.Rows.slot_tuple_getitem.lookup ?_ (by with_unfolding_all rfl)
    refine item_back (k := k) ht (Heap.IsSliceOf.new _ vl vu vs) pl pu ps ?_ (by rw [List.size_toArray]; omega) ?_
    · rcases hk with h | ⟨h1, h2, h3⟩
      · exact .inl h
      · exact .inr ⟨h1, h2, by rw [List.size_toArray]; omega⟩
    refine ⟨.ref _, _, I5.laid (t' := s4.toks) (o := .tup (xs.drop k).reverse) (fun b ob q => Heap.get?_push_of_some _ q) (Nat.le_refl _) ?_, rfl, q _ (I5.hok.fresh (Nat.le_refl _))⟩
    exact ⟨by rw [List.length_reverse, List.length_drop]; omega, _, (r.drop k).reverse, IsTup.new _ _⟩
  · subst ex eu
    obtain rfl : v = Value.ref a := rx
    obtain ⟨its, r, ht, hz⟩ := I5.list hx
    have hlen := r.length
    show wpAny (model X.prog X.w) X.A (subscriptTail e (.Slice none hi (some (.UnaryOp .USub (.Constant (.int 1) kk p1) p2)) p3) (.ref a) (.ref s4.heap.objs.size)) (EP X pins σ Q) X.xe _
    refine tail_any (ops := [.ref a, .ref s4.heap.objs.size]) ht.isList.typeIs (PySem.slot_list_getitem.lookup) ?_ (by with_unfolding_all rfl)
    refine wpAny_getItem_list_slice ht.isList (Heap.IsSliceOf.new _ vl vu vs) pl pu ps (by decide) ?_ (by rw [List.size_toArray]; omega)
    rw [PySem.W.krv_pick]
    refine ⟨.ref _, _, I5.laid (t' := s4.toks) (o := .lst xs.reverse) (fun b ob q => Heap.get?_push_of_some _ q) (Nat.le_refl _) ?_, rfl, q _ (I5.hok.fresh (Nat.le_refl _))⟩
    exact ⟨by rw [List.length_reverse]; exact hz, _, 0, r.reverse, Heap.get?_push_size _ rfl⟩
end
end Cr
namespace Lq
open PySem L2
/-! ### plain data in the abstract heap -/
/-- a dict's key as data -/
def kD : Key → PyData
  | .inl i => .int i
  | .inr x => .str x
mutual
/-- v stands for d; lists and dicts within it stand outside of U -/
inductive Dat (U : Addr → Prop) (H : Hp) : V → PyData → Prop
  | non : Dat U H .non .none
  | bl (b : Bool) : Dat U H (.bl b) (.bool b)
  | int (i : Int) : Dat U H (.int i) (.int i)
  | str (x : Str) : Dat U H (.str x) (.str x)
  | tup {p : Addr} {vs : List V} {ds : List PyData} : H p = some (.tup vs) → Dats U H vs ds → Dat U H (.ref p) (.tuple ds)
  | lst {p : Addr} {vs : List V} {ds : List PyData} : ¬ U p → H p = some (.lst vs) → Dats U H vs ds → Dat U H (.ref p) (.list ds)
  | dic {p : Addr} {kvs : List (Key × V)} {es : List (PyData × PyData)} : ¬ U p → H p = some (.dK kvs) → DatK U H kvs es → Dat U H (.ref p) (.dict es)
  | dit {p : Addr} {kvs : List (List Key × V)} {es : List (PyData × PyData)} : ¬ U p → H p = some (.dT kvs) → DatT U H kvs es → Dat U H (.ref p) (.dict ((.none, .none) :: es))
inductive Dats (U : Addr → Prop) (H : Hp) : List V → List PyData → Prop
  | nil : Dats U H [] []
  | cons {v : V} {d : PyData} {vs : List V} {ds : List PyData} : Dat U H v d → Dats U H vs ds → Dats U H (v :: vs) (d :: ds)
inductive DatK (U : Addr → Prop) (H : Hp) : List (Key × V) → List (PyData × PyData) → Prop
  | nil : DatK U H [] []
  | cons {k : Key} {v : V} {d : PyData} {vs : List (Key × V)} {ds : List (PyData × PyData)} : Dat U H v d → DatK U H vs ds → DatK U H ((k, v) :: vs) ((kD k, d) :: ds)
inductive DatT (U : Addr → Prop) (H : Hp) : List (List Key × V) → List (PyData × PyData) → Prop
  | nil : DatT U H [] []
  | cons {k : List Key} {v : V} {d : PyData} {vs : List (List Key × V)} {ds : List (PyData × PyData)} : Dat U H v d → DatT U H vs ds → DatT U H ((k, v) :: vs) ((.tuple (k.map kD), d) :: ds)
end
section
variable {U U' : Addr → Prop} {H H' : Hp}
mutual
theorem Dat.to (hU : ∀ p, ¬ U p → H p ≠ none → ¬ U' p) (ht : ∀ p vs, H p = some (.tup vs) → H' p = some (.tup vs)) (hl : ∀ p o, ¬ U p → H p = some o → H' p = some o) : ∀ {v : V} {d : PyData}, Dat U H v d → Dat U' H' v d
  | _, _, .non => .non
  | _, _, .bl b => .bl b
  | _, _, .int i => .int i
  | _, _, .str x => .str x
  | _, _, .tup h r => .tup (ht _ _ h) (Dats.to hU ht hl r)
  | _, _, .lst n h r => .lst (hU _ n (by rw [h]; exact Option.some_ne_none _)) (hl _ _ n h) (Dats.to hU ht hl r)
  | _, _, .dic n h r => .dic (hU _ n (by rw [h]; exact Option.some_ne_none _)) (hl _ _ n h) (DatK.to hU ht hl r)
  | _, _, .dit n h r => .dit (hU _ n (by rw [h]; exact Option.some_ne_none _)) (hl _ _ n h) (DatT.to hU ht hl r)
theorem Dats.to (hU : ∀ p, ¬ U p → H p ≠ none → ¬ U' p) (ht : ∀ p vs, H p = some (.tup vs) → H' p = some (.tup vs)) (hl : ∀ p o, ¬ U p → H p = some o → H' p = some o) : ∀ {v : List V} {d : List PyData}, Dats U H v d → Dats U' H' v d
  | _, _, .nil => .nil
  | _, _, .cons h r => .cons (Dat.to hU ht hl h) (Dats.to hU ht hl r)
theorem DatK.to (hU : ∀ p, ¬ U p → H p ≠ none → ¬ U' p) (ht : ∀ p vs, H p = some (.tup vs) → H' p = some (.tup vs)) (hl : ∀ p o, ¬ U p → H p = some o → H' p = some o) : ∀ {v : List (Key × V)} {d : List (PyData × PyData)}, DatK U H v d → DatK U' H' v d
  | _, _, .nil => .nil
  | _, _, .cons h r => .cons (Dat.to hU ht hl h) (DatK.to hU ht hl r)
theorem DatT.to (hU : ∀ p, ¬ U p → H p ≠ none → ¬ U' p) (ht : ∀ p vs, H p = some (.tup vs) → H' p = some (.tup vs)) (hl : ∀ p o, ¬ U p → H p = some o → H' p = some o) : ∀ {v : List (List Key × V)} {d : List (PyData × PyData)}, DatT U H v d → DatT U' H' v d
  | _, _, .nil => .nil
  | _, _, .cons h r => .cons (Dat.to hU ht hl h) (DatT.to hU ht hl r)
end
theorem Dat.same (e : Same H H') {v : V} {d : PyData} (h : Dat U H v d) : Dat U H' v d := h.to (fun _ n _ => n) (fun p vs => e p _) fun p o _ => e p o
theorem Dats.same (e : Same H H') {v : List V} {d : List PyData} (h : Dats U H v d) : Dats U H' v d := h.to (fun _ n _ => n) (fun p vs => e p _) fun p o _ => e p o
theorem Dat.less (hU : ∀ p, H p ≠ none → U' p → U p) {v : V} {d : PyData} (h : Dat U H v d) : Dat U' H v d := h.to (fun p n z y => n (hU p z y)) (fun _ _ => id) fun _ _ _ => id
theorem Dats.less (hU : ∀ p, H p ≠ none → U' p → U p) {v : List V} {d : List PyData} (h : Dats U H v d) : Dats U' H v d := h.to (fun p n z y => n (hU p z y)) (fun _ _ => id) fun _ _ _ => id
theorem Dats.length : ∀ {vs : List V} {ds : List PyData}, Dats U H vs ds → vs.length = ds.length
  | _, _, .nil => rfl
  | _, _, .cons _ r => congrArg (· + 1) r.length
theorem Dats.append : ∀ {vs us : List V} {ds es : List PyData}, Dats U H vs ds → Dats U H us es → Dats U H (vs ++ us) (ds ++ es)
  | _, _, _, _, .nil, k => k
  | _, _, _, _, .cons h r, k => .cons h (r.append k)
theorem Dats.get : ∀ {vs : List V} {ds : List PyData} {i : Nat} {d : PyData}, Dats U H vs ds → ds[i]? = some d → ∃ v, vs[i]? = some v ∧ Dat U H v d
  | _, _, _, _, .nil, e => by simp at e
  | _, _, 0, _, .cons h _, e => by simp at e; subst e; exact ⟨_, rfl, h⟩
  | _, _, i + 1, d, .cons _ r, e => by
    obtain ⟨v, a, b⟩ := Dats.get (i := i) (d := d) r (by simpa using e)
    exact ⟨v, by simpa using a, b⟩
theorem Dats.getV : ∀ {vs : List V} {ds : List PyData} {i : Nat} {v : V}, Dats U H vs ds → vs[i]? = some v → ∃ d, ds[i]? = some d ∧ Dat U H v d
  | _, _, _, _, .nil, e => by simp at e
  | _, _, 0, _, .cons h _, e => by simp at e; subst e; exact ⟨_, rfl, h⟩
  | _, _, i + 1, d, .cons _ r, e => by
    obtain ⟨v, a, b⟩ := Dats.getV (i := i) (v := d) r (by simpa using e)
    exact ⟨v, by simpa using a, b⟩
theorem Dats.take : ∀ {vs : List V} {ds : List PyData} (n : Nat), Dats U H vs ds → Dats U H (vs.take n) (ds.take n)
  | _, _, 0, _ => .nil
  | _, _, _ + 1, .nil => .nil
  | _, _, n + 1, .cons h r => .cons h (r.take n)
theorem Dats.drop : ∀ {vs : List V} {ds : List PyData} (n : Nat), Dats U H vs ds → Dats U H (vs.drop n) (ds.drop n)
  | _, _, 0, r => r
  | _, _, _ + 1, .nil => .nil
  | _, _, n + 1, .cons _ r => r.drop n
theorem Dats.set {v : V} {d : PyData} (h : Dat U H v d) : ∀ {vs : List V} {ds : List PyData} (i : Nat), Dats U H vs ds → Dats U H (vs.set i v) (ds.set i d)
  | _, _, _, .nil => .nil
  | _, _, 0, .cons _ r => .cons h r
  | _, _, i + 1, .cons k r => .cons k (Dats.set h i r)
theorem Dats.snoc {vs : List V} {ds : List PyData} {v : V} {d : PyData} (h : Dats U H vs ds) (k : Dat U H v d) : Dats U H (vs ++ [v]) (ds ++ [d]) := h.append (.cons k .nil)
theorem Dats.reverse : ∀ {vs : List V} {ds : List PyData}, Dats U H vs ds → Dats U H vs.reverse ds.reverse
  | _, _, .nil => .nil
  | _, _, .cons h r => by
    rw [List.reverse_cons, List.reverse_cons]
    exact r.reverse.snoc h
end
/-! ### what a step leaves -/
abbrev Pl := Option (Addr × Addr)
/-- all that stood is as it was but for the pool, which is a pool still -/
structure Ex (pl : Pl) (H H' : Hp) : Prop where
  keep : ∀ b o, (∀ a c, pl = some (a, c) → b ≠ a) → H b = some o → H' b = some o
  pool : ∀ a c, pl = some (a, c) → Cf.PoolAt H' a c
  there : ∀ b, H b ≠ none → H' b ≠ none
theorem Ex.trans {pl : Pl} {H H1 H2 : Hp} (x : Ex pl H H1) (y : Ex pl H1 H2) : Ex pl H H2 :=
  ⟨fun b o n h => y.keep b o n (x.keep b o n h), y.pool, fun b h => y.there b (x.there b h)⟩
theorem same_there {H H' : Hp} (e : Same H H') : ∀ b, H b ≠ none → H' b ≠ none := fun b h => by
  cases z : H b with
  | none => exact absurd z h
  | some o => rw [e b o z]; exact Option.some_ne_none _
/-- what stands in a slot: nothing that is spoken of; data; a list, a dict of the def's own; the pool -/
inductive Sl where
  | un
  | val (d : PyData)
  | lst (ds : List PyData)
  | dic (es : List (PyData × PyData))
  | dit (es : List (PyData × PyData))
  | pool
inductive SlotAt (W : Addr → Prop) (pl : Pl) (H : Hp) : Option Addr → Option V → Sl → Prop
  | un (x : Option V) : SlotAt W pl H none x .un
  | val {v : V} {d : PyData} : Dat W H v d → SlotAt W pl H none (some v) (.val d)
  | lst {p : Addr} {vs : List V} {ds : List PyData} : H p = some (.lst vs) → Dats W H vs ds → SlotAt W pl H (some p) (some (.ref p)) (.lst ds)
  | dic {p : Addr} {kvs : List (Key × V)} {es : List (PyData × PyData)} : H p = some (.dK kvs) → DatK W H kvs es → SlotAt W pl H (some p) (some (.ref p)) (.dic es)
  | dit {p : Addr} {kvs : List (List Key × V)} {es : List (PyData × PyData)} : H p = some (.dT kvs) → DatT W H kvs es → SlotAt W pl H (some p) (some (.ref p)) (.dit es)
  | pool {a c : Addr} : pl = some (a, c) → SlotAt W pl H none (some (.ref a)) .pool
inductive Slots (W : Addr → Prop) (pl : Pl) (H : Hp) : List (Option Addr) → St → List Sl → Prop
  | nil : Slots W pl H [] [] []
  | cons {o : Option Addr} {x : Option V} {s : Sl} {O : List (Option Addr)} {σ : St} {ρ : List Sl} : SlotAt W pl H o x s → Slots W pl H O σ ρ → Slots W pl H (o :: O) (x :: σ) (s :: ρ)
section
variable {W W' : Addr → Prop} {pl : Pl} {H H' : Hp}
theorem Slots.get : ∀ {O : List (Option Addr)} {σ : St} {ρ : List Sl} {i : Nat} {s : Sl}, Slots W pl H O σ ρ → ρ[i]? = some s → ∃ o x, O[i]? = some o ∧ σ[i]? = some x ∧ SlotAt W pl H o x s
  | _, _, _, _, _, .nil, e => by simp at e
  | _, _, _, 0, _, .cons h _, e => by simp at e; subst e; exact ⟨_, _, rfl, rfl, h⟩
  | _, _, _, i + 1, s, .cons _ r, e => by
    obtain ⟨o, x, a, b, c⟩ := Slots.get (i := i) (s := s) r (by simpa using e)
    exact ⟨o, x, by simpa using a, by simpa using b, c⟩
theorem Slots.set {o : Option Addr} {x : Option V} {s : Sl} (h : SlotAt W pl H o x s) : ∀ {O : List (Option Addr)} {σ : St} {ρ : List Sl} (i : Nat), Slots W pl H O σ ρ → Slots W pl H (O.set i o) (σ.set i x) (ρ.set i s)
  | _, _, _, _, .nil => .nil
  | _, _, _, 0, .cons _ r => .cons h r
  | _, _, _, i + 1, .cons k r => .cons k (Slots.set h i r)
theorem Slots.len : ∀ {O : List (Option Addr)} {σ : St} {ρ : List Sl}, Slots W pl H O σ ρ → O.length = ρ.length ∧ σ.length = ρ.length
  | _, _, _, .nil => ⟨rfl, rfl⟩
  | _, _, _, .cons _ r => ⟨congrArg (· + 1) r.len.1, congrArg (· + 1) r.len.2⟩
/-- from one heap to another: own things as well -/
theorem Slots.to (hU : ∀ p, ¬ W p → H p ≠ none → ¬ W' p) (ht : ∀ p vs, H p = some (.tup vs) → H' p = some (.tup vs)) (hl : ∀ p o, ¬ W p → H p = some o → H' p = some o) :
    ∀ {O : List (Option Addr)} {σ : St} {ρ : List Sl}, (∀ p o, some p ∈ O → H p = some o → H' p = some o) → Slots W pl H O σ ρ → Slots W' pl H' O σ ρ
  | _, _, _, _, .nil => .nil
  | _, _, _, ho, .cons h r => by
    refine .cons ?_ (Slots.to hU ht hl (fun p o m => ho p o (List.mem_cons_of_mem _ m)) r)
    cases h with
    | un => exact .un _
    | val h => exact .val (h.to hU ht hl)
    | lst h k => exact .lst (ho _ _ List.mem_cons_self h) (k.to hU ht hl)
    | dic h k => exact .dic (ho _ _ List.mem_cons_self h) (k.to hU ht hl)
    | dit h k => exact .dit (ho _ _ List.mem_cons_self h) (k.to hU ht hl)
    | pool h => exact .pool h
end
/-- where a def stands: U no data's list stands here, Wr what may be written of what stood at the start, the pool, the heap at the start -/
structure Fr where
  U : Addr → Prop
  Wr : Addr → Prop
  pl : Pl
  H0 : Hp
/-- no list of a slot's data stands here -/
def Wd (fr : Fr) (O : List (Option Addr)) : Addr → Prop := fun b => fr.U b ∨ some b ∈ O
structure At (fr : Fr) (O : List (Option Addr)) (σ : St) (ρ : List Sl) (H : Hp) : Prop where
  sl : Slots (Wd fr O) fr.pl H O σ ρ
  keep : ∀ b o, ¬ fr.Wr b → fr.H0 b = some o → H b = some o
  pool : ∀ a c, fr.pl = some (a, c) → Cf.PoolAt H a c ∧ fr.Wr a ∧ fr.U a
  own : ∀ p, some p ∈ O → (¬ fr.U p ∧ (fr.Wr p ∨ fr.H0 p = none)) ∧ (∀ a c, fr.pl = some (a, c) → p ≠ a ∧ p ≠ c) ∧ (∃ o, H p = some o ∧ ∀ vs, o ≠ .tup vs)
  nd : ∀ (i j : Nat) (p : Addr), O[i]? = some (some p) → O[j]? = some (some p) → i = j
  up : ∀ b, fr.U b → fr.H0 b ≠ none
  st : ∀ b, fr.H0 b ≠ none → H b ≠ none
theorem pool_obj {H : Hp} {a c : Addr} (h : Cf.PoolAt H a c) : ∃ vs, H a = some (.lst vs) := by
  obtain ⟨_, _, _, _, _, h, _⟩ := h
  exact ⟨_, h⟩
section
variable {fr : Fr} {O O' : List (Option Addr)} {σ σ' : St} {ρ ρ' : List Sl} {H H' : Hp}
theorem At.tupW (A : At fr O σ ρ H) {a c : Addr} (e : fr.pl = some (a, c)) {b : Addr} {vs : List V} (h : H b = some (.tup vs)) : b ≠ a := by
  obtain ⟨us, hu⟩ := pool_obj (A.pool a c e).1
  exact ne_of h hu (by intro z; cases z)
/-- a step that writes nothing but the pool -/
theorem At.ex (A : At fr O σ ρ H) (e : Ex fr.pl H H') : At fr O σ ρ H' where
  sl := by
    refine A.sl.to (fun _ n _ => n) (fun p vs h => e.keep p _ (fun a c z => A.tupW z h) h) (fun p o n h => e.keep p o (fun a c z y => n (.inl (by rw [y]; exact (A.pool a c z).2.2))) h) fun p o m h => e.keep p o (fun a c z => ((A.own p m).2.1 a c z).1) h
  keep := fun b o n h => e.keep b o (fun a c z y => n (by rw [y]; exact (A.pool a c z).2.1)) (A.keep b o n h)
  pool := fun a c z => ⟨e.pool a c z, (A.pool a c z).2⟩
  own := fun p m => by
    obtain ⟨h1, h2, o, h3, h4⟩ := A.own p m
    exact ⟨h1, h2, o, e.keep p o (fun a c z => (h2 a c z).1) h3, h4⟩
  nd := A.nd
  up := A.up
  st := fun b h => e.there b (A.st b h)
theorem At.refl (A : At fr O σ ρ H) : Ex fr.pl H H := ⟨fun _ _ _ h => h, fun a c e => (A.pool a c e).1, fun _ h => h⟩
theorem At.same (A : At fr O σ ρ H) (e : Same H H') : Ex fr.pl H H' := by
  refine ⟨fun b o _ h => e b o h, fun a c z => ?_, same_there e⟩
  obtain ⟨ns, i, v, k, s, h1, h2, h3, h4⟩ := (A.pool a c z).1
  exact ⟨ns, i, v, k, s, e _ _ h1, e _ _ h2, h3, h4⟩
theorem At.wd (A : At fr O σ ρ H) {b : Addr} (h : Wd fr O b) : H b ≠ none := by
  rcases h with h | h
  · exact A.st b (A.up b h)
  · obtain ⟨_, _, o, h, _⟩ := A.own b h
    rw [h]; exact Option.some_ne_none _
/-- data stays through a step that writes nothing but the pool; U' with the pool in it -/
theorem Dat.ex {U : Addr → Prop} {pl : Pl} (e : Ex pl H H') (hp : ∀ a c, pl = some (a, c) → U a ∧ Cf.PoolAt H a c) {v : V} {d : PyData} (h : Dat U H v d) : Dat U H' v d := by
  refine h.to (fun _ n _ => n) (fun p vs h => e.keep p _ (fun a c z => ?_) h) fun p o n h => e.keep p o (fun a c z y => n (by rw [y]; exact (hp a c z).1)) h
  obtain ⟨us, hu⟩ := pool_obj (hp a c z).2
  exact ne_of h hu (by intro y; cases y)
theorem Dats.ex {U : Addr → Prop} {pl : Pl} (e : Ex pl H H') (hp : ∀ a c, pl = some (a, c) → U a ∧ Cf.PoolAt H a c) {v : List V} {d : List PyData} (h : Dats U H v d) : Dats U H' v d := by
  refine h.to (fun _ n _ => n) (fun p vs h => e.keep p _ (fun a c z => ?_) h) fun p o n h => e.keep p o (fun a c z y => n (by rw [y]; exact (hp a c z).1)) h
  obtain ⟨us, hu⟩ := pool_obj (hp a c z).2
  exact ne_of h hu (by intro y; cases y)
theorem At.hp (A : At fr O σ ρ H) : ∀ a c, fr.pl = some (a, c) → Wd fr O a ∧ Cf.PoolAt H a c := fun a c z => ⟨.inl (A.pool a c z).2.2, (A.pool a c z).1⟩
theorem At.hpU (A : At fr O σ ρ H) : ∀ a c, fr.pl = some (a, c) → fr.U a ∧ Cf.PoolAt H a c := fun a c z => ⟨(A.pool a c z).2.2, (A.pool a c z).1⟩
end
/-- the frame from here on -/
def Fr.shift (fr : Fr) (O : List (Option Addr)) (H : Hp) : Fr := ⟨fr.U, fun b => some b ∈ O ∨ ∃ c, fr.pl = some (b, c), fr.pl, H⟩
section
variable {fr : Fr} {O O' : List (Option Addr)} {σ σ' : St} {ρ ρ' : List Sl} {H H' : Hp}
theorem At.shift (A : At fr O σ ρ H) : At (fr.shift O H) O σ ρ H where
  sl := A.sl
  keep := fun _ _ _ h => h
  pool := fun a c z => ⟨(A.pool a c z).1, .inr ⟨c, z⟩, (A.pool a c z).2.2⟩
  own := fun p m => ⟨⟨(A.own p m).1.1, .inl (.inl m)⟩, (A.own p m).2⟩
  nd := A.nd
  up := fun b h => A.wd (.inl h)
  st := fun _ h => h
theorem At.back (A : At fr O σ ρ H) (B : At (fr.shift O H) O' σ' ρ' H') : At fr O' σ' ρ' H' where
  sl := B.sl
  keep := fun b o n h => by
    refine B.keep b o (fun z => ?_) (A.keep b o n h)
    rcases z with z | ⟨c, z⟩
    · rcases (A.own b z).1.2 with y | y
      · exact n y
      · rw [h] at y; cases y
    · exact n (A.pool b c z).2.1
  pool := fun a c z => ⟨(B.pool a c z).1, (A.pool a c z).2⟩
  own := fun p m => by
    obtain ⟨⟨h0, h1⟩, h2, h3⟩ := B.own p m
    refine ⟨⟨h0, ?_⟩, h2, h3⟩
    rcases h1 with (z | ⟨c, z⟩) | z
    · exact (A.own p z).1.2
    · exact absurd rfl (h2 p c z).1
    · refine .inr ?_
      cases y : fr.H0 p with
      | none => rfl
      | some o => exact absurd z (A.st p (by rw [y]; exact Option.some_ne_none _))
  nd := B.nd
  up := A.up
  st := fun b h => B.st b (A.st b h)
/-- what stood outside of what is written stands -/
theorem At.datBack (A : At fr O σ ρ H) (B : At (fr.shift O H) O' σ' ρ' H') {v : V} {d : PyData} (h : Dat (Wd fr O) H v d) : Dat (Wd fr O) H' v d := by
  have key : ∀ p o, (∀ c, fr.pl ≠ some (p, c)) → some p ∉ O → H p = some o → H' p = some o := fun p o n1 n2 h => B.keep p o (fun z => z.elim n2 fun ⟨c, z⟩ => n1 c z) h
  refine h.to (fun _ n _ => n) (fun p vs h => key p _ (fun c z => A.tupW z h rfl) (fun m => ?_) h) fun p o n h => key p o (fun c z => n (.inl (A.pool p c z).2.2)) (fun m => n (.inr m)) h
  obtain ⟨_, _, o, y, z⟩ := A.own p m
  exact z vs (Option.some.inj (y.symm.trans h))
end
/-- a value on its way: a list or dict at the top may be the def's own -/
inductive TopD (U W : Addr → Prop) (H : Hp) : V → PyData → Prop
  | of {v : V} {d : PyData} : Dat W H v d → TopD U W H v d
  | lst {p : Addr} {vs : List V} {ds : List PyData} : ¬ U p → H p = some (.lst vs) → Dats W H vs ds → TopD U W H (.ref p) (.list ds)
  | dic {p : Addr} {kvs : List (Key × V)} {es : List (PyData × PyData)} : ¬ U p → H p = some (.dK kvs) → DatK W H kvs es → TopD U W H (.ref p) (.dict es)
  | dit {p : Addr} {kvs : List (List Key × V)} {es : List (PyData × PyData)} : ¬ U p → H p = some (.dT kvs) → DatT W H kvs es → TopD U W H (.ref p) (.dict ((.none, .none) :: es))
section
variable {U W : Addr → Prop} {H : Hp} {v : V}
theorem TopD.tup {ds : List PyData} (h : TopD U W H v (.tuple ds)) : ∃ p vs, v = .ref p ∧ H p = some (.tup vs) ∧ Dats W H vs ds := by
  cases h with
  | of h => cases h with | tup a b => exact ⟨_, _, rfl, a, b⟩
theorem TopD.list {ds : List PyData} (h : TopD U W H v (.list ds)) : ∃ p vs, v = .ref p ∧ H p = some (.lst vs) ∧ Dats W H vs ds := by
  cases h with
  | of h => cases h with | lst _ a b => exact ⟨_, _, rfl, a, b⟩
  | lst _ a b => exact ⟨_, _, rfl, a, b⟩
theorem TopD.dict {es : List (PyData × PyData)} (h : TopD U W H v (.dict es)) : ∃ p, v = .ref p ∧ ((∃ kvs, H p = some (.dK kvs) ∧ DatK W H kvs es) ∨ ∃ kvs fs, es = (.none, .none) :: fs ∧ H p = some (.dT kvs) ∧ DatT W H kvs fs) := by
  cases h with
  | of h => cases h with
    | dic _ a b => exact ⟨_, rfl, .inl ⟨_, a, b⟩⟩
    | dit _ a b => exact ⟨_, rfl, .inr ⟨_, _, rfl, a, b⟩⟩
  | dic _ a b => exact ⟨_, rfl, .inl ⟨_, a, b⟩⟩
  | dit _ a b => exact ⟨_, rfl, .inr ⟨_, _, rfl, a, b⟩⟩
theorem TopD.int {i : Int} (h : TopD U W H v (.int i)) : v = .int i := by cases h with | of h => cases h; rfl
theorem TopD.str {x : Str} (h : TopD U W H v (.str x)) : v = .str x := by cases h with | of h => cases h; rfl
theorem TopD.bool {b : Bool} (h : TopD U W H v (.bool b)) : v = .bl b := by cases h with | of h => cases h; rfl
theorem TopD.none (h : TopD U W H v .none) : v = .non := by cases h with | of h => cases h; rfl
end
end Lq
namespace Lq
open PySem L2
/-! ### what is asked behind a step -/
abbrev Wp (α : Type) := (α → Prop) → Prop
def Mono {α : Type} (m : Wp α) : Prop := ∀ P P' : α → Prop, (∀ a, P a → P' a) → m P → m P'
def ret {α : Type} (a : α) : Wp α := fun Q => Q a
def bad {α : Type} : Wp α := fun _ => False
def bnd {α β : Type} (m : Wp α) (k : α → Wp β) : Wp β := fun Q => m fun a => k a Q
/-- c holds, then a -/
def gd {α : Type} (c : Prop) (a : α) : Wp α := fun Q => c ∧ Q a
theorem mono_ret {α : Type} (a : α) : Mono (ret a) := fun _ _ h q => h a q
theorem mono_bad {α : Type} : Mono (bad : Wp α) := fun _ _ _ q => q
theorem mono_gd {α : Type} {c : Prop} (a : α) : Mono (gd c a) := fun _ _ h q => ⟨q.1, h a q.2⟩
theorem mono_bnd {α β : Type} {m : Wp α} {k : α → Wp β} (h : Mono m) (g : ∀ a, Mono (k a)) : Mono (bnd m k) := fun _ _ hp q => h _ _ (fun a => g a _ _ hp) q
/-- what follows from what m gives -/
def up {α : Type} (m : Wp α) : Wp α := fun Q => ∃ P : α → Prop, m P ∧ ∀ a, P a → Q a
theorem mono_up {α : Type} (m : Wp α) : Mono (up m) := fun _ _ h ⟨R, a, b⟩ => ⟨R, a, fun x r => h x (b x r)⟩
theorem up_of {α : Type} {m : Wp α} {Q : α → Prop} (h : m Q) : up m Q := ⟨Q, h, fun _ q => q⟩
abbrev Rho := List Sl
theorem TopD.ex {pl : Pl} {U W : Addr → Prop} {H H' : Hp} (e : Ex pl H H') (hU : ∀ a c, pl = some (a, c) → U a ∧ Cf.PoolAt H a c) (hW : ∀ a c, pl = some (a, c) → W a ∧ Cf.PoolAt H a c) {v : V} {d : PyData} (h : TopD U W H v d) : TopD U W H' v d := by
  have ht : ∀ p vs, H p = some (.tup vs) → H' p = some (.tup vs) := fun p vs h => e.keep p _ (fun a c z => by
    obtain ⟨us, hu⟩ := pool_obj (hU a c z).2
    exact ne_of h hu (by intro y; cases y)) h
  have hl : ∀ p o, ¬ W p → H p = some o → H' p = some o := fun p o n h => e.keep p o (fun a c z y => n (by rw [y]; exact (hW a c z).1)) h
  have hl' : ∀ p o, ¬ U p → H p = some o → H' p = some o := fun p o n h => e.keep p o (fun a c z y => n (by rw [y]; exact (hU a c z).1)) h
  cases h with
  | of h => exact .of (h.ex e hW)
  | lst n a b => exact .lst n (hl' _ _ n a) (b.ex e hW)
  | dic n a b => exact .dic n (hl' _ _ n a) (b.to (fun _ n _ => n) ht hl)
  | dit n a b => exact .dit n (hl' _ _ n a) (b.to (fun _ n _ => n) ht hl)
/-- g: clean, for a slot; else on its way -/
def Gd (g : Bool) (fr : Fr) (O : List (Option Addr)) (H : Hp) (v : V) (d : PyData) : Prop := match g with
  | true => Dat (Wd fr O) H v d
  | false => TopD fr.U (Wd fr O) H v d
theorem Gd.top {g : Bool} {fr : Fr} {O : List (Option Addr)} {H : Hp} {v : V} {d : PyData} (h : Gd g fr O H v d) : TopD fr.U (Wd fr O) H v d := by
  cases g with
  | true => exact .of h
  | false => exact h
theorem Gd.of {g : Bool} {fr : Fr} {O : List (Option Addr)} {H : Hp} {v : V} {d : PyData} (h : Dat (Wd fr O) H v d) : Gd g fr O H v d := by
  cases g with
  | true => exact h
  | false => exact TopD.of h
section
variable {fr : Fr} {O : List (Option Addr)} {σ : St} {ρ : Rho} {H H' : Hp} {g : Bool}
theorem At.gd (A : At fr O σ ρ H) (e : Ex fr.pl H H') {v : V} {d : PyData} (h : Gd g fr O H v d) : Gd g fr O H' v d := by
  cases g with
  | true => exact Dat.ex e A.hp h
  | false => exact TopD.ex e A.hpU A.hp h
end
inductive Gds (g : Bool) (fr : Fr) (O : List (Option Addr)) (H : Hp) : List V → List PyData → Prop
  | nil : Gds g fr O H [] []
  | cons {v : V} {d : PyData} {vs : List V} {ds : List PyData} : Gd g fr O H v d → Gds g fr O H vs ds → Gds g fr O H (v :: vs) (d :: ds)
theorem Gds.dats {fr : Fr} {O : List (Option Addr)} {H : Hp} : ∀ {vs : List V} {ds : List PyData}, Gds true fr O H vs ds → Dats (Wd fr O) H vs ds
  | _, _, .nil => .nil
  | _, _, .cons h r => .cons h r.dats
/-! ### the readings -/
def teOf (g : Bool) (f : Rho → Wp PyData) : TE := fun σ H Q => ∃ fr O ρ, At fr O σ ρ H ∧ f ρ fun d => ∀ v H', Ex fr.pl H H' → Gd g fr O H' v d → Q v H'
def ttOf (f : Rho → Wp Bool) : TT := fun σ H Q => ∃ fr O ρ, At fr O σ ρ H ∧ f ρ fun b => ∀ H', Ex fr.pl H H' → Q b H'
def taOf (g : Bool) (f : Rho → Wp (List PyData)) : TA := fun σ H Q => ∃ fr O ρ, At fr O σ ρ H ∧ f ρ fun ds => ∀ vs H', Ex fr.pl H H' → Gds g fr O H' vs ds → Q vs H'
structure E (X : Cx) (g : Bool) (e : Expr) (f : Rho → Wp PyData) : Prop where
  pe : PE X e (teOf g f)
  mo : ∀ ρ, Mono (f ρ)
structure T (X : Cx) (e : Expr) (f : Rho → Wp Bool) : Prop where
  pt : PT X e (ttOf f)
  mo : ∀ ρ, Mono (f ρ)
structure TW (X : Cx) (e : Expr) (f : Rho → Wp Bool) : Prop where
  pw : PW X e (ttOf f)
  mo : ∀ ρ, Mono (f ρ)
structure A (X : Cx) (g : Bool) (es : List Expr) (f : Rho → Wp (List PyData)) : Prop where
  pa : PA X es (taOf g f)
  mo : ∀ ρ, Mono (f ρ)
  len : ∀ ρ P, f ρ P → f ρ fun ds => ds.length = es.length ∧ P ds
section
variable {X : Cx}
theorem pe_imp {e : Expr} {t t' : TE} (h : PE X e t) (i : ∀ σ H Q, t' σ H Q → t σ H Q) : PE X e t' := ⟨fun pins s σ H Q I q => h.run pins s σ H Q I (i σ H Q q)⟩
theorem pt_imp {e : Expr} {t t' : TT} (h : PT X e t) (i : ∀ σ H Q, t' σ H Q → t σ H Q) : PT X e t' := ⟨fun pins s σ H Q I q => h.run pins s σ H Q I (i σ H Q q)⟩
theorem pw_imp {e : Expr} {t t' : TT} (h : PW X e t) (i : ∀ σ H Q, t' σ H Q → t σ H Q) : PW X e t' := ⟨fun wh pins s σ H Q I q => h.run wh pins s σ H Q I (i σ H Q q)⟩
theorem pa_imp {es : List Expr} {t t' : TA} (h : PA X es t) (i : ∀ σ H Q, t' σ H Q → t σ H Q) : PA X es t' := ⟨fun pos pins s σ H Q I q => h.run pos pins s σ H Q I (i σ H Q q)⟩
theorem ps_imp {st : Stmt} {t t' : TS} (h : PS X st t) (i : ∀ D σ H, t' D σ H → t D σ H) : PS X st t' := ⟨fun pins s σ H D I q => h.run pins s σ H D I (i D σ H q)⟩
theorem pss_imp {st : List Stmt} {t t' : TS} (h : PSs X st t) (i : ∀ D σ H, t' D σ H → t D σ H) : PSs X st t' := ⟨fun pins s σ H D I q => h.run pins s σ H D I (i D σ H q)⟩
theorem E.tr {e : Expr} {f : Rho → Wp PyData} {g : Bool} (h : E X true e f) : E X g e f := by
  refine ⟨pe_imp h.pe fun σ H Q ⟨fr, O, ρ, A, q⟩ => ⟨fr, O, ρ, A, h.mo ρ _ _ (fun d k v H' e h' => k v H' e (Gd.of h')) q⟩, h.mo⟩
/-! ### names, constants -/
def slV : Option Sl → Wp PyData
  | some (.val d) => ret d
  | _ => bad
def slO : Option Sl → Wp PyData
  | some (.lst ds) => ret (.list ds)
  | some (.dic es) => ret (.dict es)
  | some (.dit es) => ret (.dict ((.none, .none) :: es))
  | _ => bad
def eVar (i : Nat) : Rho → Wp PyData := fun ρ => slV ρ[i]?
def eOwn (i : Nat) : Rho → Wp PyData := fun ρ => slO ρ[i]?
theorem At.val {fr : Fr} {O : List (Option Addr)} {σ : St} {ρ : Rho} {H : Hp} (A : At fr O σ ρ H) {i : Nat} {d : PyData} (h : ρ[i]? = some (.val d)) : ∃ v, σ[i]? = some (some v) ∧ Dat (Wd fr O) H v d := by
  obtain ⟨o, x, _, h2, h3⟩ := A.sl.get h
  cases h3 with
  | val h3 => exact ⟨_, h2, h3⟩
theorem mono_slV : ∀ o, Mono (slV o)
  | some (.val _) => mono_ret _
  | none | some .un | some (.lst _) | some (.dic _) | some (.dit _) | some .pool => mono_bad
theorem mono_slO : ∀ o, Mono (slO o)
  | some (.lst _) | some (.dic _) | some (.dit _) => mono_ret _
  | none | some .un | some (.val _) | some .pool => mono_bad
theorem e_var (i : Nat) {x : Str} {pos : Pos} (hN : X.N[i]? = some x := by rfl) (hv : Vis X.env.scope x := by first | exact Or.inl rfl | exact Or.inr (Or.inl rfl) | exact Or.inr (Or.inr rfl)) (hd : (x == ("__debug__" : Str)) = false := by decide)
    (hcd : (x == ("__classdict__" : Str)) = false := by decide) : E X true (.Name x pos) (eVar i) := by
  refine ⟨pe_imp (pe_var hN hv hd hcd) fun σ H Q ⟨fr, O, ρ, A, q⟩ => ?_, fun _ => mono_slV _⟩
  show ∃ v, _
  unfold eVar at q
  cases h : ρ[i]? with
  | none => rw [h] at q; exact False.elim q
  | some s =>
    rw [h] at q
    cases s with
    | val d =>
      obtain ⟨v, h1, h2⟩ := A.val h
      exact ⟨v, h1, q v H A.refl h2⟩
    | un => exact False.elim q
    | lst _ => exact False.elim q
    | dic _ => exact False.elim q
    | dit _ => exact False.elim q
    | pool => exact False.elim q
theorem e_own (i : Nat) {x : Str} {pos : Pos} (hN : X.N[i]? = some x := by rfl) (hv : Vis X.env.scope x := by first | exact Or.inl rfl | exact Or.inr (Or.inl rfl) | exact Or.inr (Or.inr rfl)) (hd : (x == ("__debug__" : Str)) = false := by decide)
    (hcd : (x == ("__classdict__" : Str)) = false := by decide) : E X false (.Name x pos) (eOwn i) := by
  refine ⟨pe_imp (pe_var hN hv hd hcd) fun σ H Q ⟨fr, O, ρ, A, q⟩ => ?_, fun _ => mono_slO _⟩
  have own : ∀ {p : Addr}, O[i]? = some (some p) → ¬ fr.U p := fun h => (A.own _ (List.mem_of_getElem? h)).1.1
  unfold eOwn at q
  cases h : ρ[i]? with
  | none => rw [h] at q; exact False.elim q
  | some s =>
    rw [h] at q
    obtain ⟨o, x, h1, h2, h3⟩ := A.sl.get h
    cases h3 with
    | val _ => exact False.elim q
    | un => exact False.elim q
    | pool => exact False.elim q
    | lst a b => exact ⟨_, h2, q _ H A.refl (TopD.lst (own h1) a b)⟩
    | dic a b => exact ⟨_, h2, q _ H A.refl (TopD.dic (own h1) a b)⟩
    | dit a b => exact ⟨_, h2, q _ H A.refl (TopD.dit (own h1) a b)⟩
def eC (d : PyData) : Rho → Wp PyData := fun _ => ret d
theorem e_int {i : Int} {j} {pos : Pos} {g : Bool} : E X g (.Constant (.int i) j pos) (eC (.int i)) := ⟨pe_imp pe_int fun σ H Q ⟨fr, O, ρ, A, q⟩ => q _ H A.refl (Gd.of (.int i)), fun _ => mono_ret _⟩
theorem e_bl {b : Bool} {j} {pos : Pos} {g : Bool} : E X g (.Constant (.bool b) j pos) (eC (.bool b)) := ⟨pe_imp pe_bl fun σ H Q ⟨fr, O, ρ, A, q⟩ => q _ H A.refl (Gd.of (.bl b)), fun _ => mono_ret _⟩
theorem e_str {x : Str} {j} {pos : Pos} {g : Bool} : E X g (.Constant (.str x) j pos) (eC (.str x)) := ⟨pe_imp pe_str fun σ H Q ⟨fr, O, ρ, A, q⟩ => q _ H A.refl (Gd.of (.str x)), fun _ => mono_ret _⟩
theorem e_non {j} {pos : Pos} {g : Bool} : E X g (.Constant .none j pos) (eC .none) := ⟨pe_imp pe_non fun σ H Q ⟨fr, O, ρ, A, q⟩ => q _ H A.refl (Gd.of .non), fun _ => mono_ret _⟩
/-! ### argument lists -/
def aNil : Rho → Wp (List PyData) := fun _ => ret []
def aCons (f : Rho → Wp PyData) (k : Rho → Wp (List PyData)) : Rho → Wp (List PyData) := fun ρ => bnd (f ρ) fun d => bnd (k ρ) fun ds => ret (d :: ds)
theorem a_nil {g : Bool} : A X g [] aNil := ⟨pa_imp pa_nil fun σ H Q ⟨fr, O, ρ, A, q⟩ => q [] H A.refl .nil, fun _ => mono_ret _, fun _ _ h => ⟨rfl, h⟩⟩
theorem a_cons {g : Bool} {e : Expr} {es : List Expr} {f : Rho → Wp PyData} {k : Rho → Wp (List PyData)} (h : E X g e f) (r : A X g es k) (hs : starEach (e :: es) X.env = (false, eval e X.env) :: starEach es X.env := by rfl) : A X g (e :: es) (aCons f k) := by
  refine ⟨pa_imp (pa_cons h.pe r.pa hs) fun σ H Q ⟨fr, O, ρ, A, q⟩ => ?_, fun ρ => mono_bnd (h.mo ρ) fun _ => mono_bnd (r.mo ρ) fun _ => mono_ret _, fun ρ P q => h.mo ρ _ _ (fun d k1 => r.mo ρ _ _ (fun ds k2 => ⟨congrArg (· + 1) k2.1, k2.2⟩) (r.len ρ _ k1)) q⟩
  refine ⟨fr, O, ρ, A, h.mo ρ _ _ (fun d k1 v H1 e1 g1 => ?_) q⟩
  have A1 := A.ex e1
  exact ⟨fr, O, ρ, A1, r.mo ρ _ _ (fun ds k2 vs H2 e2 g2 => k2 (v :: vs) H2 (e1.trans e2) (.cons (A1.gd e2 g1) g2)) k1⟩
theorem Ex.new {fr : Fr} {O : List (Option Addr)} {σ : St} {ρ : Rho} {H : Hp} (A : At fr O σ ρ H) {p : Addr} {o : HO} (h : H p = none) : Ex fr.pl H (upd H p o) := A.same (Cf.same_new h o)
theorem wd_new {fr : Fr} {O : List (Option Addr)} {σ : St} {ρ : Rho} {H : Hp} (A : At fr O σ ρ H) {p : Addr} (h : H p = none) : ¬ Wd fr O p := fun w => A.wd w h
/-- (a, b, ..) -/
def eTup (k : Rho → Wp (List PyData)) : Rho → Wp PyData := fun ρ => bnd (k ρ) fun ds => gd (ds.length ≤ sizeLine) (.tuple ds)
theorem e_tup {g : Bool} {es : List Expr} {c} {pos : Pos} {k : Rho → Wp (List PyData)} (h : A X true es k) : E X g (.Tuple es c pos) (eTup k) := by
  refine E.tr ⟨pe_imp (pe_tup h.pa) fun σ H Q ⟨fr, O, ρ, A, q⟩ => ?_, fun ρ => mono_bnd (h.mo ρ) fun _ => mono_gd _⟩
  refine ⟨fr, O, ρ, A, h.mo ρ _ _ (fun ds k1 vs H1 e1 g1 => ?_) q⟩
  have A1 := A.ex e1
  have l := g1.dats.length
  exact ⟨by rw [l]; exact k1.1, fun p hp => k1.2 _ _ (e1.trans (Ex.new A1 hp)) (Dat.tup upd_same (g1.dats.same (Cf.same_new hp _)))⟩
end
end Lq
namespace Lq
open PySem L2
/-! ### operators, built-in calls, by data -/
structure OpQ (X : Cx) (f : Value → Value → Sem Value) (o : PyData → PyData → Wp PyData) : Prop where
  ex : ∃ r : R2, OpR X f r ∧ ∀ {fr : Fr} {O : List (Option Addr)} {σ : St} {ρ : Rho} {H : Hp} {x y : V} {d e : PyData} {Q : VK}, At fr O σ ρ H → TopD fr.U (Wd fr O) H x d → TopD fr.U (Wd fr O) H y e →
    (o d e fun c => ∀ v H', Same H H' → Dat (Wd fr O) H' v c → Q v H') → r x y H Q
  mo : ∀ d e, Mono (o d e)
structure CallQ (X : Cx) (f : Value) (o : List PyData → Wp PyData) : Prop where
  ex : ∃ r : List V → Hp → VK → Prop, CallR X f r ∧ ∀ {fr : Fr} {O : List (Option Addr)} {σ : St} {ρ : Rho} {H : Hp} {vs : List V} {ds : List PyData} {Q : VK}, At fr O σ ρ H → Gds false fr O H vs ds →
    (o ds fun c => ∀ v H', Same H H' → Dat (Wd fr O) H' v c → Q v H') → r vs H Q
  mo : ∀ ds, Mono (o ds)
structure IxQ (X : Cx) (o : PyData → PyData → Wp PyData) : Prop where
  ex : ∃ r : R2, IxR X r ∧ ∀ {fr : Fr} {O : List (Option Addr)} {σ : St} {ρ : Rho} {H : Hp} {x y : V} {d e : PyData} {Q : VK}, At fr O σ ρ H → TopD fr.U (Wd fr O) H x d → TopD fr.U (Wd fr O) H y e →
    (o d e fun c => ∀ v H', Same H H' → Dat (Wd fr O) H' v c → Q v H') → r x y H Q
  mo : ∀ d e, Mono (o d e)
def eOp (o : PyData → PyData → Wp PyData) (f k : Rho → Wp PyData) : Rho → Wp PyData := fun ρ => bnd (f ρ) fun d => bnd (k ρ) fun e => o d e
section
variable {X : Cx} {a b : Expr} {f k : Rho → Wp PyData} {pos : Pos}
theorem mono_eOp {o : PyData → PyData → Wp PyData} (mo : ∀ d e, Mono (o d e)) (h : ∀ ρ, Mono (f ρ)) (r : ∀ ρ, Mono (k ρ)) (ρ : Rho) : Mono (eOp o f k ρ) := mono_bnd (h ρ) fun _ => mono_bnd (r ρ) fun _ => mo _ _
/-- two values and what is asked of them -/
theorem two_ops {o : PyData → PyData → Wp PyData} {r : R2} (hr : ∀ {fr : Fr} {O : List (Option Addr)} {σ : St} {ρ : Rho} {H : Hp} {x y : V} {d e : PyData} {Q : VK}, At fr O σ ρ H → TopD fr.U (Wd fr O) H x d → TopD fr.U (Wd fr O) H y e →
    (o d e fun c => ∀ v H', Same H H' → Dat (Wd fr O) H' v c → Q v H') → r x y H Q) (mo : ∀ d e, Mono (o d e)) (ha : ∀ ρ, Mono (f ρ)) (hb : ∀ ρ, Mono (k ρ)) {σ : St} {H : Hp} {Q : VK} (q : teOf true (eOp o f k) σ H Q) : tOp r (teOf false f) (teOf false k) σ H Q := by
  obtain ⟨fr, O, ρ, A, q⟩ := q
  refine ⟨fr, O, ρ, A, ha ρ _ _ (fun d k1 x H1 e1 g1 => ?_) q⟩
  have A1 := A.ex e1
  refine ⟨fr, O, ρ, A1, hb ρ _ _ (fun e k2 y H2 e2 g2 => ?_) k1⟩
  have A2 := A1.ex e2
  exact hr A2 (A1.gd e2 g1).top g2.top (mo _ _ _ _ (fun c k3 v H3 e3 g3 => k3 v H3 ((e1.trans e2).trans (A2.same e3)) g3) k2)
theorem e_op {g : Bool} {op : Operator} {o : PyData → PyData → Wp PyData} (ho : OpQ X (binaryOp op) o) (ha : E X false a f) (hb : E X false b k) : E X g (.BinOp a op b pos) (eOp o f k) := by
  obtain ⟨r, h1, h2⟩ := ho.ex
  exact E.tr ⟨pe_imp (pe_op h1 ha.pe hb.pe) fun σ H Q q => two_ops h2 ho.mo ha.mo hb.mo q, mono_eOp ho.mo ha.mo hb.mo⟩
theorem e_cmp {g : Bool} {op : CmpOp} {o : PyData → PyData → Wp PyData} (ho : OpQ X (compareOp op) o) (ha : E X false a f) (hb : E X false b k) (hm : behindInMarks op b = false := by first | exact nomark _ (by decide) (by decide) | rfl | with_unfolding_all rfl) : E X g (.Compare a [op] [b] pos) (eOp o f k) := by
  obtain ⟨r, h1, h2⟩ := ho.ex
  exact E.tr ⟨pe_imp (pe_cmpR h1 ha.pe hb.pe hm) fun σ H Q q => two_ops h2 ho.mo ha.mo hb.mo q, mono_eOp ho.mo ha.mo hb.mo⟩
/-- the outcome of a test -/
def asB : PyData → Wp Bool
  | .bool b => ret b
  | _ => bad
theorem mono_asB : ∀ d, Mono (asB d)
  | .bool _ => mono_ret _
  | .none | .int _ | .str _ | .list _ | .tuple _ | .dict _ => mono_bad
def tT (f : Rho → Wp PyData) : Rho → Wp Bool := fun ρ => bnd (f ρ) asB
theorem mono_tT (h : ∀ ρ, Mono (f ρ)) (ρ : Rho) : Mono (tT f ρ) := mono_bnd (h ρ) mono_asB
theorem asB_ok {d : PyData} {P : Bool → Prop} (h : asB d P) : ∃ c, d = .bool c ∧ P c := by
  cases d with
  | bool b => exact ⟨b, rfl, h⟩
  | none => exact False.elim h
  | int _ => exact False.elim h
  | str _ => exact False.elim h
  | list _ => exact False.elim h
  | tuple _ => exact False.elim h
  | dict _ => exact False.elim h
theorem tt_of {t : TE} (mo : ∀ ρ, Mono (f ρ)) (h : ∀ σ H Q, teOf true f σ H Q → t σ H Q) {σ : St} {H : Hp} {Q : Bool → Hp → Prop} (q : ttOf (tT f) σ H Q) : tTest t σ H Q := by
  obtain ⟨fr, O, ρ, A, q⟩ := q
  refine h σ H _ ⟨fr, O, ρ, A, mo ρ _ _ (fun d k v H1 e1 g1 => ?_) q⟩
  obtain ⟨c, rfl, k⟩ := asB_ok k
  cases (show Dat (Wd fr O) H1 v (.bool c) from g1)
  exact ⟨c, rfl, k H1 e1⟩
theorem t_cmp {op : CmpOp} {o : PyData → PyData → Wp PyData} (ho : OpQ X (compareOp op) o) (ha : E X false a f) (hb : E X false b k) (hm : behindInMarks op b = false := by first | exact nomark _ (by decide) (by decide) | rfl | with_unfolding_all rfl) : T X (.Compare a [op] [b] pos) (tT (eOp o f k)) := by
  obtain ⟨r, h1, h2⟩ := ho.ex
  have m := mono_eOp ho.mo ha.mo hb.mo
  exact ⟨pt_imp (pt_cmpR h1 ha.pe hb.pe hm) fun σ H Q q => tt_of m (fun σ H Q q => two_ops h2 ho.mo ha.mo hb.mo q) q, mono_tT m⟩
def eChain (o o' : PyData → PyData → Wp PyData) (f k l : Rho → Wp PyData) : Rho → Wp PyData := fun ρ => bnd (f ρ) fun d => bnd (k ρ) fun e => bnd (o d e) fun z => bnd (asB z) fun c => if c = true then bnd (l ρ) fun i => o' e i else ret (.bool false)
theorem ite_mono {α : Type} {c : Prop} [Decidable c] {m n : Wp α} (h : Mono m) (g : Mono n) : Mono (if c then m else n) := by
  split
  · exact h
  · exact g
theorem chain_op {o o' : PyData → PyData → Wp PyData} {r r' : R2} {l : Rho → Wp PyData} (hr : ∀ {fr : Fr} {O : List (Option Addr)} {σ : St} {ρ : Rho} {H : Hp} {x y : V} {d e : PyData} {Q : VK}, At fr O σ ρ H → TopD fr.U (Wd fr O) H x d → TopD fr.U (Wd fr O) H y e →
    (o d e fun c => ∀ v H', Same H H' → Dat (Wd fr O) H' v c → Q v H') → r x y H Q) (hr' : ∀ {fr : Fr} {O : List (Option Addr)} {σ : St} {ρ : Rho} {H : Hp} {x y : V} {d e : PyData} {Q : VK}, At fr O σ ρ H → TopD fr.U (Wd fr O) H x d → TopD fr.U (Wd fr O) H y e →
    (o' d e fun c => ∀ v H', Same H H' → Dat (Wd fr O) H' v c → Q v H') → r' x y H Q) (mo : ∀ d e, Mono (o d e)) (mo' : ∀ d e, Mono (o' d e)) (ha : ∀ ρ, Mono (f ρ)) (hb : ∀ ρ, Mono (k ρ)) (hc : ∀ ρ, Mono (l ρ)) {σ : St} {H : Hp} {Q : VK}
    (q : teOf true (eChain o o' f k l) σ H Q) : tChain r r' (teOf false f) (teOf false k) (teOf false l) σ H Q := by
  obtain ⟨fr, O, ρ, A, q⟩ := q
  refine ⟨fr, O, ρ, A, ha ρ _ _ (fun d k1 x H1 e1 g1 => ?_) q⟩
  have A1 := A.ex e1
  refine ⟨fr, O, ρ, A1, hb ρ _ _ (fun e k2 y H2 e2 g2 => ?_) k1⟩
  have A2 := A1.ex e2
  refine hr A2 (A1.gd e2 g1).top g2.top (mo _ _ _ _ (fun c k3 v H3 e3 g3 => ?_) k2)
  obtain ⟨c, rfl, k3⟩ := asB_ok k3
  cases g3
  have A3 := A2.ex (A2.same e3)
  refine ⟨c, rfl, ?_⟩
  cases c with
  | true =>
    refine iteT ⟨fr, O, ρ, A3, hc ρ _ _ (fun i k4 z H4 e4 g4 => ?_) k3⟩
    have A4 := A3.ex e4
    exact hr' A4 (A3.gd e4 (A2.gd (A2.same e3) g2)).top g4.top (mo' _ _ _ _ (fun c k5 v H5 e5 g5 => k5 v H5 ((((e1.trans e2).trans (A2.same e3)).trans e4).trans (A4.same e5)) g5) k4)
  | false => exact iteF (k3 _ H3 ((e1.trans e2).trans (A2.same e3)) (.bl false))
theorem mono_eChain {o o' : PyData → PyData → Wp PyData} {l : Rho → Wp PyData} (mo : ∀ d e, Mono (o d e)) (mo' : ∀ d e, Mono (o' d e)) (ha : ∀ ρ, Mono (f ρ)) (hb : ∀ ρ, Mono (k ρ)) (hc : ∀ ρ, Mono (l ρ)) (ρ : Rho) : Mono (eChain o o' f k l ρ) :=
  mono_bnd (ha ρ) fun _ => mono_bnd (hb ρ) fun _ => mono_bnd (mo _ _) fun _ => mono_bnd (mono_asB _) fun _ => ite_mono (mono_bnd (hc ρ) fun _ => mo' _ _) (mono_ret _)
theorem e_chain {g : Bool} {c : Expr} {l : Rho → Wp PyData} {op op' : CmpOp} {o o' : PyData → PyData → Wp PyData} (ho : OpQ X (compareOp op) o) (ho' : OpQ X (compareOp op') o') (ha : E X false a f) (hb : E X false b k) (hc : E X false c l)
    (hm : lastMarks [op, op'] [b, c] = false := by with_unfolding_all rfl) : E X g (.Compare a [op, op'] [b, c] pos) (eChain o o' f k l) := by
  obtain ⟨r, h1, h2⟩ := ho.ex
  obtain ⟨r', h1', h2'⟩ := ho'.ex
  exact E.tr ⟨pe_imp (pe_chain h1 h1' ha.pe hb.pe hc.pe hm) fun σ H Q q => chain_op h2 h2' ho.mo ho'.mo ha.mo hb.mo hc.mo q, mono_eChain ho.mo ho'.mo ha.mo hb.mo hc.mo⟩
theorem t_chain {c : Expr} {l : Rho → Wp PyData} {op op' : CmpOp} {o o' : PyData → PyData → Wp PyData} (ho : OpQ X (compareOp op) o) (ho' : OpQ X (compareOp op') o') (ha : E X false a f) (hb : E X false b k) (hc : E X false c l)
    (hm : lastMarks [op, op'] [b, c] = false := by with_unfolding_all rfl) : T X (.Compare a [op, op'] [b, c] pos) (tT (eChain o o' f k l)) := by
  obtain ⟨r, h1, h2⟩ := ho.ex
  obtain ⟨r', h1', h2'⟩ := ho'.ex
  have m := mono_eChain ho.mo ho'.mo ha.mo hb.mo hc.mo
  exact ⟨pt_imp (pt_chain h1 h1' ha.pe hb.pe hc.pe hm) fun σ H Q q => tt_of m (fun σ H Q q => chain_op h2 h2' ho.mo ho'.mo ha.mo hb.mo hc.mo q) q, mono_tT m⟩
/-! ### truth, not, and, or, if -/
def tru : PyData → Wp Bool
  | .none => ret false
  | .bool b => ret b
  | .int i => ret (i != 0)
  | .str y => gd (y.length ≤ sizeLine) ((y.length : Int) != 0)
  | .list ds => ret (!ds.isEmpty)
  | .tuple ds => ret (!ds.isEmpty)
  | .dict ((.none, _) :: _) => bad
  | .dict es => ret (!es.isEmpty)
theorem mono_tru (d : PyData) : Mono (tru d) := by
  unfold tru
  split <;> first | exact mono_ret _ | exact mono_gd _ | exact mono_bad
theorem dats_empty {U : Addr → Prop} {H : Hp} {vs : List V} {ds : List PyData} (h : Dats U H vs ds) : ds.isEmpty = vs.isEmpty := by cases h <;> rfl
theorem tru_ok {K : PySem.W.Frag} {U W : Addr → Prop} {H : Hp} {v : V} {d : PyData} {P : Bool → Prop} (h : TopD U W H v d) (q : tru d P) : ∃ k, TruV K v H k ∧ P k := by
  cases d with
  | none => cases h.none; exact ⟨_, rfl, q⟩
  | bool b => cases h.bool; exact ⟨_, rfl, q⟩
  | int i => cases h.int; exact ⟨_, rfl, q⟩
  | str y => cases h.str; exact ⟨_, ⟨q.1, rfl⟩, q.2⟩
  | list ds =>
    obtain ⟨p, vs, rfl, a, b⟩ := h.list
    have q' : P (!ds.isEmpty) := q
    rw [dats_empty b] at q'
    exact ⟨_, .inl ⟨vs, SqL.of a, rfl⟩, q'⟩
  | tuple ds =>
    obtain ⟨p, vs, rfl, a, b⟩ := h.tup
    have q' : P (!ds.isEmpty) := q
    rw [dats_empty b] at q'
    exact ⟨_, .inr (.inl ⟨vs, SqT.of a, rfl⟩), q'⟩
  | dict es =>
    obtain ⟨p, rfl, hh⟩ := h.dict
    clear h
    rcases hh with ⟨kvs, a, b⟩ | ⟨kvs, fs, rfl, a, b⟩
    · cases b with
      | nil => exact ⟨_, .inr (.inr ⟨_, a, rfl⟩), q⟩
      | @cons k _ _ _ _ c r =>
        cases k with
        | inl i => exact ⟨_, .inr (.inr ⟨_, a, rfl⟩), q⟩
        | inr i => exact ⟨_, .inr (.inr ⟨_, a, rfl⟩), q⟩
    · exact False.elim q
def tTru (f : Rho → Wp PyData) : Rho → Wp Bool := fun ρ => bnd (f ρ) tru
theorem mono_tTru (h : ∀ ρ, Mono (f ρ)) (ρ : Rho) : Mono (tTru f ρ) := mono_bnd (h ρ) mono_tru
theorem t_tru (ha : E X false a f) (he : ∀ whole, isTrue a X.env whole = (do let v ← whole; standAt a.pos; holding [v] (truthy v)) := by intro _; rfl) : T X a (tTru f) := by
  refine ⟨pt_imp (pt_truth ha.pe he) fun σ H Q ⟨fr, O, ρ, A, q⟩ => ?_, mono_tTru ha.mo⟩
  refine ⟨fr, O, ρ, A, ha.mo ρ _ _ (fun d k v H1 e1 g1 => ?_) q⟩
  obtain ⟨c, h1, h2⟩ := tru_ok (K := X.K) g1.top k
  exact ⟨c, h1, h2 H1 e1⟩
def tNo (f : Rho → Wp Bool) : Rho → Wp Bool := fun ρ => bnd (f ρ) fun b => ret (!b)
theorem t_not {l : Rho → Wp Bool} (ha : T X a l) : T X (.UnaryOp .Not a pos) (tNo l) := by
  refine ⟨pt_imp (pt_not ha.pt) fun σ H Q ⟨fr, O, ρ, A, q⟩ => ?_, fun ρ => mono_bnd (ha.mo ρ) fun _ => mono_ret _⟩
  exact ⟨fr, O, ρ, A, q⟩
theorem TW.t {l : Rho → Wp Bool} (h : TW X a l) : T X a l := ⟨h.pw.pt, h.mo⟩
def tBoth (f k : Rho → Wp Bool) : Rho → Wp Bool := fun ρ => bnd (f ρ) fun b => if b = true then k ρ else ret false
def tEither (f k : Rho → Wp Bool) : Rho → Wp Bool := fun ρ => bnd (f ρ) fun b => if b = true then ret true else k ρ
variable {l m : Rho → Wp Bool} {rest : List Expr}
theorem tw_and1 (ha : T X a l) : TW X (.BoolOp .And [a] pos) l := ⟨pw_and1 ha.pt, ha.mo⟩
theorem tw_or1 (ha : T X a l) : TW X (.BoolOp .Or [a] pos) l := ⟨pw_or1 ha.pt, ha.mo⟩
theorem tw_and (ha : T X a l) (hb : TW X (.BoolOp .And (b :: rest) pos) m) : TW X (.BoolOp .And (a :: b :: rest) pos) (tBoth l m) := by
  refine ⟨pw_imp (pw_and ha.pt hb.pw) fun σ H Q ⟨fr, O, ρ, A, q⟩ => ?_, fun ρ => mono_bnd (ha.mo ρ) fun _ => ite_mono (hb.mo ρ) (mono_ret _)⟩
  refine ⟨fr, O, ρ, A, ha.mo ρ _ _ (fun c k H1 e1 => ?_) q⟩
  cases c with
  | true => exact iteT ⟨fr, O, ρ, A.ex e1, hb.mo ρ _ _ (fun c k H2 e2 => k H2 (e1.trans e2)) k⟩
  | false => exact iteF (k H1 e1)
theorem tw_or (ha : T X a l) (hb : TW X (.BoolOp .Or (b :: rest) pos) m) : TW X (.BoolOp .Or (a :: b :: rest) pos) (tEither l m) := by
  refine ⟨pw_imp (pw_or ha.pt hb.pw) fun σ H Q ⟨fr, O, ρ, A, q⟩ => ?_, fun ρ => mono_bnd (ha.mo ρ) fun _ => ite_mono (mono_ret _) (hb.mo ρ)⟩
  refine ⟨fr, O, ρ, A, ha.mo ρ _ _ (fun c k H1 e1 => ?_) q⟩
  cases c with
  | true => exact iteT (k H1 e1)
  | false => exact iteF ⟨fr, O, ρ, A.ex e1, hb.mo ρ _ _ (fun c k H2 e2 => k H2 (e1.trans e2)) k⟩
/-- a and b, a or b as values -/
def eBoth (f k : Rho → Wp PyData) : Rho → Wp PyData := fun ρ => bnd (f ρ) fun d => bnd (tru d) fun b => if b = true then k ρ else ret d
def eEither (f k : Rho → Wp PyData) : Rho → Wp PyData := fun ρ => bnd (f ρ) fun d => bnd (tru d) fun b => if b = true then ret d else k ρ
theorem e_one {g : Bool} {op} (h : E X g a f) : E X g (.BoolOp op [a] pos) f := ⟨pe_one h.pe, h.mo⟩
theorem e_and {g : Bool} (ha : E X g a f) (hb : E X g (.BoolOp .And (b :: rest) pos) k) : E X g (.BoolOp .And (a :: b :: rest) pos) (eBoth f k) := by
  refine ⟨pe_imp (pe_andT ha.pe hb.pe) fun σ H Q ⟨fr, O, ρ, A, q⟩ => ?_, fun ρ => mono_bnd (ha.mo ρ) fun _ => mono_bnd (mono_tru _) fun _ => ite_mono (hb.mo ρ) (mono_ret _)⟩
  refine ⟨fr, O, ρ, A, ha.mo ρ _ _ (fun d k v H1 e1 g1 => ?_) q⟩
  obtain ⟨c, h1, h2⟩ := tru_ok (K := X.K) g1.top k
  refine ⟨c, h1, ?_⟩
  cases c with
  | true => exact iteT ⟨fr, O, ρ, A.ex e1, hb.mo ρ _ _ (fun c k v H2 e2 g2 => k v H2 (e1.trans e2) g2) h2⟩
  | false => exact iteF (h2 v H1 e1 g1)
theorem e_or {g : Bool} (ha : E X g a f) (hb : E X g (.BoolOp .Or (b :: rest) pos) k) : E X g (.BoolOp .Or (a :: b :: rest) pos) (eEither f k) := by
  refine ⟨pe_imp (pe_orT ha.pe hb.pe) fun σ H Q ⟨fr, O, ρ, A, q⟩ => ?_, fun ρ => mono_bnd (ha.mo ρ) fun _ => mono_bnd (mono_tru _) fun _ => ite_mono (mono_ret _) (hb.mo ρ)⟩
  refine ⟨fr, O, ρ, A, ha.mo ρ _ _ (fun d k v H1 e1 g1 => ?_) q⟩
  obtain ⟨c, h1, h2⟩ := tru_ok (K := X.K) g1.top k
  refine ⟨c, h1, ?_⟩
  cases c with
  | true => exact iteT (h2 v H1 e1 g1)
  | false => exact iteF ⟨fr, O, ρ, A.ex e1, hb.mo ρ _ _ (fun c k v H2 e2 g2 => k v H2 (e1.trans e2) g2) h2⟩
def eNo (f : Rho → Wp PyData) : Rho → Wp PyData := fun ρ => bnd (f ρ) fun d => bnd (tru d) fun b => ret (.bool (!b))
theorem e_not {g : Bool} (ha : E X false a f) : E X g (.UnaryOp .Not a pos) (eNo f) := by
  refine E.tr ⟨pe_imp (pe_notT ha.pe) fun σ H Q ⟨fr, O, ρ, A, q⟩ => ?_, fun ρ => mono_bnd (ha.mo ρ) fun _ => mono_bnd (mono_tru _) fun _ => mono_ret _⟩
  refine ⟨fr, O, ρ, A, ha.mo ρ _ _ (fun d k v H1 e1 g1 => ?_) q⟩
  obtain ⟨c, h1, h2⟩ := tru_ok (K := X.K) g1.top k
  exact ⟨c, h1, h2 _ H1 e1 (.bl _)⟩
def eIf (c : Rho → Wp Bool) (f k : Rho → Wp PyData) : Rho → Wp PyData := fun ρ => bnd (c ρ) fun b => if b = true then f ρ else k ρ
theorem e_if {g : Bool} {c : Expr} (hc : T X c l) (ha : E X g a f) (hb : E X g b k) : E X g (.IfExp c a b pos) (eIf l f k) := by
  refine ⟨pe_imp (pe_ifExp hc.pt ha.pe hb.pe) fun σ H Q ⟨fr, O, ρ, A, q⟩ => ?_, fun ρ => mono_bnd (hc.mo ρ) fun _ => ite_mono (ha.mo ρ) (hb.mo ρ)⟩
  refine ⟨fr, O, ρ, A, hc.mo ρ _ _ (fun d k H1 e1 => ?_) q⟩
  cases d with
  | true => exact iteT ⟨fr, O, ρ, A.ex e1, ha.mo ρ _ _ (fun c k v H2 e2 g2 => k v H2 (e1.trans e2) g2) k⟩
  | false => exact iteF ⟨fr, O, ρ, A.ex e1, hb.mo ρ _ _ (fun c k v H2 e2 g2 => k v H2 (e1.trans e2) g2) k⟩
/-! ### built-in calls, subscripts -/
def eCall (o : List PyData → Wp PyData) (k : Rho → Wp (List PyData)) : Rho → Wp PyData := fun ρ => bnd (k ρ) o
variable {x : Str} {p : Pos} {e : Expr} {es : List Expr} {o : List PyData → Wp PyData} {ka : Rho → Wp (List PyData)}
theorem args_ops {r : List V → Hp → VK → Prop} (hr : ∀ {fr : Fr} {O : List (Option Addr)} {σ : St} {ρ : Rho} {H : Hp} {vs : List V} {ds : List PyData} {Q : VK}, At fr O σ ρ H → Gds false fr O H vs ds →
    (o ds fun c => ∀ v H', Same H H' → Dat (Wd fr O) H' v c → Q v H') → r vs H Q) (mo : ∀ ds, Mono (o ds)) (ha : ∀ ρ, Mono (ka ρ)) {σ : St} {H : Hp} {Q : VK} (q : teOf true (eCall o ka) σ H Q) : tCB r (taOf false ka) σ H Q := by
  obtain ⟨fr, O, ρ, A, q⟩ := q
  refine ⟨fr, O, ρ, A, ha ρ _ _ (fun d k1 x H1 e1 g1 => ?_) q⟩
  have A1 := A.ex e1
  exact hr A1 g1 (mo _ _ _ (fun c k3 v H3 e3 g3 => k3 v H3 (e1.trans (A1.same e3)) g3) k1)
theorem e_callB {g : Bool} {id : String} (hc : CallQ X (.builtin id) o) (hm : X.mg x = none) (ha : A X false (e :: es) ka) (hg : Gl X x := by rfl) (hv : bootBuiltins x = some (.builtin id) := by decide +kernel) (hn : x ≠ "__name__" := by decide) (hdb : (x == ("__debug__" : Str)) = false := by decide)
    (he : starEach (e :: es) X.env = (false, eval e X.env) :: starEach es X.env := by rfl) (hpl : (backTo pos (starEach es X.env)).any (·.1) = false := by rfl) : E X g (.Call (.Name x p) (e :: es) [] pos) (eCall o ka) := by
  obtain ⟨r, h1, h2⟩ := hc.ex
  exact E.tr ⟨pe_imp (pe_callB h1 hg hm hv ha.pa hn hdb he hpl) fun σ H Q q => args_ops h2 hc.mo ha.mo q, fun ρ => mono_bnd (ha.mo ρ) hc.mo⟩
theorem e_callTy {g : Bool} {id : String} (hc : CallQ X (.type id) o) (hm : X.mg x = none) (ha : A X false (e :: es) ka) (hg : Gl X x := by rfl) (hv : bootBuiltins x = some (.type id) := by decide +kernel) (hn : x ≠ "__name__" := by decide) (hdb : (x == ("__debug__" : Str)) = false := by decide)
    (he : starEach (e :: es) X.env = (false, eval e X.env) :: starEach es X.env := by rfl) (hpl : (backTo pos (starEach es X.env)).any (·.1) = false := by rfl) : E X g (.Call (.Name x p) (e :: es) [] pos) (eCall o ka) := by
  obtain ⟨r, h1, h2⟩ := hc.ex
  exact E.tr ⟨pe_imp (pe_callTy h1 hg hm hv ha.pa hn hdb he hpl) fun σ H Q q => args_ops h2 hc.mo ha.mo q, fun ρ => mono_bnd (ha.mo ρ) hc.mo⟩
theorem e_ix {g : Bool} {o : PyData → PyData → Wp PyData} (hi : IxQ X o) (ha : E X false a f) (hb : E X false b k) (hs : PlainIx b := by exact fun _ _ => rfl) : E X g (.Subscript a b pos) (eOp o f k) := by
  obtain ⟨r, h1, h2⟩ := hi.ex
  exact E.tr ⟨pe_imp (pe_ix h1 ha.pe hb.pe hs) fun σ H Q q => two_ops h2 hi.mo ha.mo hb.mo q, mono_eOp hi.mo ha.mo hb.mo⟩
/-! ### calls of the text's own defs -/
/-- data in, data out, nothing written -/
def spQ (n : Nat) (m : List PyData → Wp PyData) : Sp := fun vs H Q _ => ∃ ds U, ds.length = n ∧ (∀ b, U b → H b ≠ none) ∧ Dats U H vs ds ∧ up (m ds) fun r => ∀ v H', Same H H' → Dat U H' v r → Q v H'
/-- .. and the pool, which is the first argument -/
def spQP (n : Nat) (m : List PyData → Wp PyData) : Sp := fun vs H Q _ => ∃ ds U a c us, vs = .ref a :: us ∧ ds.length = n ∧ Cf.PoolAt H a c ∧ U a ∧ (∀ b, U b → H b ≠ none) ∧ Dats U H us ds ∧ up (m ds) fun r => ∀ v H', Ex (some (a, c)) H H' → Dat U H' v r → Q v H'
def eFn (m : List PyData → Wp PyData) (k : Rho → Wp (List PyData)) : Rho → Wp PyData := fun ρ => bnd (k ρ) fun ds => up (m ds)
theorem e_call {g : Bool} {n j : Nat} {ps : List Str} {m : List PyData → Wp PyData} (C : Cf.At X.prog X.w X.K X.mg X.base x j ps (spQ n m)) (hr : Room j X.A) (ha : A X true (e :: es) ka) (hn : es.length + 1 = n := by rfl) (hg : Gl X x := by rfl) (hdb : (x == ("__debug__" : Str)) = false := by decide)
    (he : starEach (e :: es) X.env = (false, eval e X.env) :: starEach es X.env := by rfl) (hpl : (backTo pos (starEach es X.env)).any (·.1) = false := by rfl) : E X g (.Call (.Name x p) (e :: es) [] pos) (eFn m ka) := by
  obtain ⟨fa, fd, F, hb, hk, hm⟩ := C.ex
  refine E.tr ⟨pe_imp (pe_call (dvs := []) (E := E0) F hr hg hm hk hb .nil pass0 ha.pa hdb he hpl) fun σ H Q ⟨fr, O, ρ, A, q⟩ => ?_, fun ρ => mono_bnd (ha.mo ρ) fun _ => mono_up _⟩
  refine ⟨fr, O, ρ, A, ha.mo ρ _ _ (fun ds k1 vs H1 e1 g1 => ?_) (ha.len ρ _ q)⟩
  have A1 := A.ex e1
  exact ⟨ds, Wd fr O, k1.1.trans hn, fun b w => A1.wd w, by rw [List.append_nil]; exact g1.dats, mono_up _ _ _ (fun c k3 v H3 e3 g3 => k3 v H3 (e1.trans (A1.same e3)) g3) k1.2⟩
theorem hu65 {j : Nat} {A : Around} (hr : Room j A) : A.units + 65 < cLine := by have := hr.un; omega
end
end Lq
namespace Lq
open PySem L2
/-! ### statements -/
inductive Out where
  | nx (ρ : Rho)
  | rt (d : PyData)
  | bk (ρ : Rho)
  | ct (ρ : Rho)
/-- what is left at a def's end -/
structure Fin (fr : Fr) (H' : Hp) (v : V) (d : PyData) : Prop where
  keep : ∀ b o, ¬ fr.Wr b → fr.H0 b = some o → H' b = some o
  pool : ∀ a c, fr.pl = some (a, c) → Cf.PoolAt H' a c
  dat : Dat fr.U H' v d
  st : ∀ b, fr.H0 b ≠ none → H' b ≠ none
def endOf (fr : Fr) (D : Ends) : Out → Prop
  | .nx ρ' => ∀ σ' O' H', At fr O' σ' ρ' H' → D.nx σ' H'
  | .rt d => ∀ v H', Fin fr H' v d → D.rt v H'
  | .bk ρ' => ∀ σ' O' H', At fr O' σ' ρ' H' → D.bk σ' H'
  | .ct ρ' => ∀ σ' O' H', At fr O' σ' ρ' H' → D.ct σ' H'
def tsOf (f : Rho → Wp Out) : TS := fun D σ H => ∃ fr O ρ, At fr O σ ρ H ∧ f ρ (endOf fr D)
structure S (X : Cx) (st : Stmt) (f : Rho → Wp Out) : Prop where
  ps : PS X st (tsOf f)
  mo : ∀ ρ, Mono (f ρ)
structure SS (X : Cx) (st : List Stmt) (f : Rho → Wp Out) : Prop where
  ps : PSs X st (tsOf f)
  mo : ∀ ρ, Mono (f ρ)
/-- slots that are as they were but for those of ws -/
structure Agree (ws : List Nat) (O O' : List (Option Addr)) (σ σ' : St) : Prop where
  own : ∀ b, some b ∈ O' → some b ∈ O
  oeq : ∀ j, j ∉ ws → O'[j]? = O[j]?
  eq : ∀ j, j ∉ ws → σ'[j]? = σ[j]?
  len : σ'.length = σ.length
/-- data comes to names -/
def tgOf (ws : List Nat) (k : PyData → Rho → Wp Rho) : TG := fun v σ H Q => ∃ fr O ρ d, At fr O σ ρ H ∧ Dat (Wd fr O) H v d ∧ k d ρ fun ρ' => ∀ σ' O', Agree ws O O' σ σ' → At fr O' σ' ρ' H → Q σ' H
def tgsOf (ws : List Nat) (k : List PyData → Rho → Wp Rho) : TGs := fun vs σ H Q => ∃ fr O ρ ds, At fr O σ ρ H ∧ Dats (Wd fr O) H vs ds ∧ k ds ρ fun ρ' => ∀ σ' O', Agree ws O O' σ σ' → At fr O' σ' ρ' H → Q σ' H
structure G (X : Cx) (ws : List Nat) (tg : Expr) (k : PyData → Rho → Wp Rho) : Prop where
  pg : PG X tg (tgOf ws k)
  mo : ∀ d ρ, Mono (k d ρ)
  some : ∀ d ρ P, k d ρ P → ∃ ρ', P ρ'
structure Gs (X : Cx) (ws : List Nat) (tg : List Expr) (k : List PyData → Rho → Wp Rho) : Prop where
  pg : PGs X tg (tgsOf ws k)
  mo : ∀ d ρ, Mono (k d ρ)
  some : ∀ d ρ P, k d ρ P → ∃ ρ', P ρ'
  len : ∀ ds ρ P, k ds ρ P → ds.length = tg.length ∧ k ds ρ P
section
variable {fr : Fr} {O O' : List (Option Addr)} {σ σ' : St} {ρ ρ' : Rho} {H H' : Hp}
theorem mem_set_none {i : Nat} {b : Addr} (h : some b ∈ O.set i none) : some b ∈ O := by
  rcases List.mem_or_eq_of_mem_set h with h | h
  · exact h
  · cases h
theorem get_set_none {i j : Nat} {b : Addr} (h : (O.set i none)[j]? = some (some b)) : O[j]? = some (some b) := by
  rw [List.getElem?_set] at h
  split at h
  · split at h <;> cases h
  · exact h
/-- a slot takes data (or nothing, or the pool) -/
theorem At.setN (A : At fr O σ ρ H) (i : Nat) {x : Option V} {s : Sl} (h : SlotAt (Wd fr O) fr.pl H none x s) : At fr (O.set i none) (σ.set i x) (ρ.set i s) H := by
  have hw : ∀ p, ¬ Wd fr O p → H p ≠ none → ¬ Wd fr (O.set i none) p := fun p n _ z => n (z.elim .inl fun m => .inr (mem_set_none m))
  refine ⟨?_, A.keep, A.pool, fun p m => A.own p (mem_set_none m), fun j k p h1 h2 => A.nd j k p (get_set_none h1) (get_set_none h2), A.up, A.st⟩
  refine Slots.set ?_ i (A.sl.to hw (fun _ _ => id) (fun _ _ _ => id) fun _ _ _ => id)
  cases h with
  | un x => exact .un x
  | val h => exact .val (h.to hw (fun _ _ => id) fun _ _ _ => id)
  | pool h => exact .pool h
theorem At.setVal (A : At fr O σ ρ H) (i : Nat) {v : V} {d : PyData} (h : Dat (Wd fr O) H v d) : At fr (O.set i none) (σ.set i (some v)) (ρ.set i (.val d)) H := A.setN i (.val h)
end
section
variable {X : Cx} {e : Expr} {f : Rho → Wp PyData} {pos : Pos}
theorem pg_imp {tg : Expr} {t t' : TG} (h : PG X tg t) (i : ∀ v σ H Q, t' v σ H Q → t v σ H Q) : PG X tg t' := ⟨fun pins s σ H v u Q I r q => h.run pins s σ H v u Q I r (i v σ H Q q)⟩
theorem pgs_imp {tg : List Expr} {t t' : TGs} (h : PGs X tg t) (i : ∀ v σ H Q, t' v σ H Q → t v σ H Q) : PGs X tg t' := ⟨fun pins s σ H v u Q I r q => h.run pins s σ H v u Q I r (i v σ H Q q)⟩
def gN (i : Nat) : PyData → Rho → Wp Rho := fun d ρ => ret (ρ.set i (.val d))
theorem g_name (i : Nat) {x : Str} {p : Pos} (hN : X.N.Nodup) (hi : X.N[i]? = some x := by rfl) (hx : Loc X.env.scope x := by first | exact Or.inl rfl | exact Or.inr rfl) (hf : X.fn x = true ∨ X.env.scope.names.lookup x = some .local := by first | exact .inl rfl | exact .inr rfl) : G X [i] (.Name x p) (gN i) := by
  refine ⟨pg_imp (pg_name hN hi hx hf) fun v σ H Q ⟨fr, O, ρ, d, A, hd, q⟩ => ?_, fun _ _ => mono_ret _, fun _ _ _ q => ⟨_, q⟩⟩
  exact q _ _ ⟨fun b m => mem_set_none m, fun j n => List.getElem?_set_ne (fun e => n (by rw [e]; exact List.mem_singleton_self _)), fun j n => List.getElem?_set_ne (fun e => n (by rw [e]; exact List.mem_singleton_self _)), List.length_set⟩ (A.setVal i hd)
def gsNil : List PyData → Rho → Wp Rho := fun ds ρ => gd (ds = []) ρ
def gsCons (k : PyData → Rho → Wp Rho) (l : List PyData → Rho → Wp Rho) : List PyData → Rho → Wp Rho := fun ds ρ => match ds with
  | [] => bad
  | d :: ds => bnd (k d ρ) fun ρ' => l ds ρ'
theorem gs_nil : Gs X [] [] gsNil := by
  refine ⟨pgs_imp pgs_nil fun vs σ H Q ⟨fr, O, ρ, ds, A, hd, e, q⟩ => ?_, fun _ _ => mono_gd _, fun _ _ _ q => ⟨_, q.2⟩, fun ds ρ P q => ⟨by rw [q.1]; rfl, q⟩⟩
  subst e
  cases hd
  exact ⟨rfl, q σ O ⟨fun _ => id, fun _ _ => rfl, fun _ _ => rfl, rfl⟩ A⟩
theorem gs_cons {ws us : List Nat} {t : Expr} {ts : List Expr} {k : PyData → Rho → Wp Rho} {l : List PyData → Rho → Wp Rho} (h : G X ws t k) (r : Gs X us ts l) (hs : (assignEach (t :: ts) X.env).map (·.2) = assign t X.env :: (assignEach ts X.env).map (·.2) := by rfl) : Gs X (ws ++ us) (t :: ts) (gsCons k l) := by
  refine ⟨pgs_imp (pgs_cons h.pg r.pg hs) fun vs σ H Q ⟨fr, O, ρ, ds, A, hd, q⟩ => ?_, fun ds ρ => ?_, fun ds ρ P q => ?_, fun ds ρ P q => ?_⟩
  · cases hd with
    | nil => exact False.elim q
    | @cons v d vs ds h1 h2 =>
      refine ⟨v, vs, rfl, fr, O, ρ, d, A, h1, h.mo _ _ _ _ (fun ρ1 k1 σ1 O1 s1 A1 => ?_) q⟩
      exact ⟨fr, O1, ρ1, ds, A1, h2.less (fun p _ z => z.elim .inl fun m => .inr (s1.own p m)), r.mo _ _ _ _ (fun ρ2 k2 σ2 O2 s2 A2 => k2 σ2 O2 ⟨fun b m => s1.own b (s2.own b m), fun j n => (s2.oeq j fun m => n (List.mem_append_right _ m)).trans (s1.oeq j fun m => n (List.mem_append_left _ m)), fun j n => (s2.eq j fun m => n (List.mem_append_right _ m)).trans (s1.eq j fun m => n (List.mem_append_left _ m)), s2.len.trans s1.len⟩ A2) k1⟩
  · match ds with
    | [] => exact mono_bad
    | d :: ds => exact mono_bnd (m := k d ρ) (h.mo d ρ) fun _ => r.mo _ _
  · match ds, q with
    | [], q => exact False.elim q
    | d :: ds, q =>
      obtain ⟨ρ', hl⟩ := h.some _ _ _ q
      exact r.some _ _ _ hl
  · match ds, q with
    | [], q => exact False.elim q
    | d :: ds, q =>
      refine ⟨?_, q⟩
      obtain ⟨ρ', hl⟩ := h.some _ _ _ q
      exact congrArg (· + 1) (r.len ds ρ' _ hl).1
def gT (k : List PyData → Rho → Wp Rho) : PyData → Rho → Wp Rho := fun d ρ => match d with
  | .tuple ds => k ds ρ
  | _ => bad
theorem g_tup {ws : List Nat} {ts : List Expr} {n : Nat} {c} {p : Pos} {k : List PyData → Rho → Wp Rho} (hc : X.calm = true) (h : Gs X ws ts k) (hn : (assignEach ts X.env).length = n := by rfl) (hst : (assignEach ts X.env).findIdx? (·.1) = none := by rfl) (hl : ts.length = n := by rfl) : G X ws (.Tuple ts c p) (gT k) := by
  refine ⟨pg_imp (pg_tup hc h.pg hn hst) fun v σ H Q ⟨fr, O, ρ, d, A, hd, q⟩ => ?_, fun d ρ => ?_, fun d ρ P q => ?_⟩
  · cases d with
    | tuple ds =>
      cases hd with
      | tup a b => exact ⟨_, _, rfl, SqT.of a, by rw [b.length, (h.len _ _ _ q).1, hl], fr, O, ρ, ds, A, b, (h.len _ _ _ q).2⟩
    | none => exact False.elim q
    | bool _ => exact False.elim q
    | int _ => exact False.elim q
    | str _ => exact False.elim q
    | list _ => exact False.elim q
    | dict _ => exact False.elim q
  · unfold gT
    split
    · exact h.mo _ _
    · exact mono_bad
  · unfold gT at q
    split at q
    · exact h.some _ _ _ q
    · exact False.elim q
/-! ### blocks -/
def thenO (k : Rho → Wp Out) : Out → Wp Out
  | .nx ρ => k ρ
  | .rt d => ret (.rt d)
  | .bk ρ => ret (.bk ρ)
  | .ct ρ => ret (.ct ρ)
theorem mono_thenO {k : Rho → Wp Out} (h : ∀ ρ, Mono (k ρ)) : ∀ o, Mono (thenO k o)
  | .nx ρ => h ρ
  | .rt _ | .bk _ | .ct _ => mono_ret _
def sSeq (f k : Rho → Wp Out) : Rho → Wp Out := fun ρ => bnd (f ρ) (thenO k)
def sNil : Rho → Wp Out := fun ρ => ret (.nx ρ)
variable {st : Stmt} {sts : List Stmt} {l m : Rho → Wp Out}
theorem ss_nil : SS X [] sNil := ⟨pss_imp pss_nil fun D σ H ⟨fr, O, ρ, A, q⟩ => q σ O H A, fun _ => mono_ret _⟩
theorem ss_cons (h : S X st l) (r : SS X sts m) : SS X (st :: sts) (sSeq l m) := by
  refine ⟨pss_imp (pss_cons h.ps r.ps) fun D σ H ⟨fr, O, ρ, A, q⟩ => ?_, fun ρ => mono_bnd (h.mo ρ) (mono_thenO r.mo)⟩
  refine ⟨fr, O, ρ, A, h.mo ρ _ _ (fun o k => ?_) q⟩
  cases o with
  | nx ρ1 => exact fun σ1 O1 H1 A1 => ⟨fr, O1, ρ1, A1, k⟩
  | rt d => exact k
  | bk ρ1 => exact k
  | ct ρ1 => exact k
theorem ss_one (h : S X st l) : SS X [st] l := ⟨pss_imp (pss_one h.ps) fun _ _ _ q => q, h.mo⟩
/-! ### single ones -/
def sRet (f : Rho → Wp PyData) : Rho → Wp Out := fun ρ => bnd (f ρ) fun d => ret (.rt d)
theorem At.fin {fr : Fr} {O : List (Option Addr)} {σ : St} {ρ : Rho} {H : Hp} (A : At fr O σ ρ H) {v : V} {d : PyData} (h : TopD fr.U (Wd fr O) H v d) : Fin fr H v d := by
  refine ⟨A.keep, fun a c e => (A.pool a c e).1, ?_, A.st⟩
  have w : ∀ p, ¬ Wd fr O p → H p ≠ none → ¬ fr.U p := fun p n _ u => n (.inl u)
  cases h with
  | of h => exact h.to w (fun _ _ => id) fun _ _ _ => id
  | lst n a b => exact .lst n a (b.to w (fun _ _ => id) fun _ _ _ => id)
  | dic n a b => exact .dic n a (b.to w (fun _ _ => id) fun _ _ _ => id)
  | dit n a b => exact .dit n a (b.to w (fun _ _ => id) fun _ _ _ => id)
theorem s_ret (h : E X false e f) : S X (.Return (some e) pos) (sRet f) := by
  refine ⟨ps_imp (ps_ret h.pe) fun D σ H ⟨fr, O, ρ, A, q⟩ => ?_, fun ρ => mono_bnd (h.mo ρ) fun _ => mono_ret _⟩
  exact ⟨fr, O, ρ, A, h.mo ρ _ _ (fun d k v H1 e1 g1 => k v H1 ((A.ex e1).fin g1)) q⟩
theorem s_retN : S X (.Return none pos) (fun _ => ret (.rt .none)) := ⟨ps_imp ps_retN fun D σ H ⟨fr, O, ρ, A, q⟩ => q .non H (A.fin (.of .non)), fun _ => mono_ret _⟩
def sSet (k : PyData → Rho → Wp Rho) (f : Rho → Wp PyData) : Rho → Wp Out := fun ρ => bnd (f ρ) fun d => bnd (k d ρ) fun ρ' => ret (.nx ρ')
theorem s_asg {ws : List Nat} {tg : Expr} {k : PyData → Rho → Wp Rho} (h : E X true e f) (g : G X ws tg k) (hs : swapsWithSole [tg] e pos.line X.env = pure false := by rfl) (hw : swappedStores [tg] e X.env = pure none := by rfl) (h1 : (assignEach [tg] X.env).map (·.2) = [assign tg X.env] := by rfl) : S X (.Assign [tg] e pos) (sSet k f) := by
  refine ⟨ps_imp (ps_asg h.pe g.pg hs hw h1) fun D σ H ⟨fr, O, ρ, A, q⟩ => ?_, fun ρ => mono_bnd (h.mo ρ) fun _ => mono_bnd (g.mo _ _) fun _ => mono_ret _⟩
  refine ⟨fr, O, ρ, A, h.mo ρ _ _ (fun d k v H1 e1 g1 => ?_) q⟩
  exact ⟨fr, O, ρ, d, A.ex e1, g1, g.mo _ _ _ _ (fun ρ1 k1 σ1 O1 _ A1 => k1 σ1 O1 H1 A1) k⟩
def sIf (c : Rho → Wp Bool) (f k : Rho → Wp Out) : Rho → Wp Out := fun ρ => bnd (c ρ) fun b => if b = true then f ρ else k ρ
theorem s_if {c : Expr} {a b : List Stmt} {t : Rho → Wp Bool} (hc : T X c t) (ha : SS X a l) (hb : SS X b m) : S X (.If c a b pos) (sIf t l m) := by
  refine ⟨ps_imp (ps_if hc.pt ha.ps hb.ps) fun D σ H ⟨fr, O, ρ, A, q⟩ => ?_, fun ρ => mono_bnd (hc.mo ρ) fun _ => ite_mono (ha.mo ρ) (hb.mo ρ)⟩
  refine ⟨fr, O, ρ, A, hc.mo ρ _ _ (fun d k H1 e1 => ?_) q⟩
  cases d with
  | true => exact iteT ⟨fr, O, ρ, A.ex e1, k⟩
  | false => exact iteF ⟨fr, O, ρ, A.ex e1, k⟩
theorem s_pass : S X (.Pass pos) sNil := ⟨ps_imp ps_pass fun D σ H ⟨fr, O, ρ, A, q⟩ => q σ O H A, fun _ => mono_ret _⟩
theorem s_break : S X (.Break pos) (fun ρ => ret (.bk ρ)) := ⟨ps_imp ps_break fun D σ H ⟨fr, O, ρ, A, q⟩ => q σ O H A, fun _ => mono_ret _⟩
theorem s_continue : S X (.Continue pos) (fun ρ => ret (.ct ρ)) := ⟨ps_imp ps_continue fun D σ H ⟨fr, O, ρ, A, q⟩ => q σ O H A, fun _ => mono_ret _⟩
def sExpr (f : Rho → Wp PyData) : Rho → Wp Out := fun ρ => bnd (f ρ) fun _ => ret (.nx ρ)
theorem s_expr (h : E X false e f) (hs : swapsWith e none pos.line X.env = pure false := by rfl) : S X (.Expr e pos) (sExpr f) := by
  refine ⟨ps_imp (ps_expr h.pe hs) fun D σ H ⟨fr, O, ρ, A, q⟩ => ?_, fun ρ => mono_bnd (h.mo ρ) fun _ => mono_ret _⟩
  exact ⟨fr, O, ρ, A, h.mo ρ _ _ (fun d k v H1 e1 g1 => k σ O H1 (A.ex e1)) q⟩
end
end Lq
namespace Lq
open PySem L2
/-! ### loops -/
section
variable {fr : Fr} {O O' : List (Option Addr)} {σ σ' : St} {ρ ρ' : Rho} {H H1 H' : Hp}
/-- what stands through a loop's body -/
def Kept (fr : Fr) (O : List (Option Addr)) (H H' : Hp) : Prop := ∀ b o, ¬ (some b ∈ O ∨ ∃ c, fr.pl = some (b, c)) → H b = some o → H' b = some o
theorem At.kept (B : At (fr.shift O H1) O' σ' ρ' H') : Kept fr O H1 H' := fun b o n h => B.keep b o n h
theorem Fin.back (A : At fr O σ ρ H1) {v : V} {d : PyData} (F : Fin (fr.shift O H1) H' v d) : Fin fr H' v d where
  keep := fun b o n h => by
    refine F.keep b o (fun z => ?_) (A.keep b o n h)
    rcases z with z | ⟨c, z⟩
    · rcases (A.own b z).1.2 with y | y
      · exact n y
      · rw [h] at y; cases y
    · exact n (A.pool b c z).2.1
  pool := F.pool
  dat := F.dat
  st := fun b h => F.st b (A.st b h)
/-- data that stood at the loop's start, at a turn -/
theorem At.datAt (A : At fr O σ ρ H1) (e : Kept fr O H1 H') {W : Addr → Prop} (hW : ∀ q, ¬ Wd fr O q → H1 q ≠ none → ¬ W q) {v : V} {d : PyData} (h : Dat (Wd fr O) H1 v d) : Dat W H' v d := by
  refine h.to hW (fun p vs h => e p _ (fun z => ?_) h) fun p o n h => e p o (fun z => n ?_) h
  · rcases z with m | ⟨c, z⟩
    · obtain ⟨_, _, o, y, z⟩ := A.own p m
      exact z vs (Option.some.inj (y.symm.trans h))
    · exact A.tupW z h rfl
  · rcases z with m | ⟨c, z⟩
    · exact .inr m
    · exact .inl (A.pool p c z).2.2
end
/-- a walk over data: b: also through the body of a loop -/
structure Its (b : Bool) (fr : Fr) (O : List (Option Addr)) (H1 : Hp) (J : It) (ds : List PyData) : Prop where
  ex : ∃ (Gd : Hp → Prop) (Y : Nat → Hp → V → Hp → Prop), Walk J ds.length Gd Y ∧ (∀ H2, (if b = true then Kept fr O H1 H2 else Ex fr.pl H1 H2) → Gd H2) ∧
    ∀ i Ha x Hb (W : Addr → Prop), i < ds.length → (if b = true then Kept fr O H1 Ha else Ex fr.pl H1 Ha) → (∀ q, ¬ Wd fr O q → H1 q ≠ none → ¬ W q) → Y i Ha x Hb → Same Ha Hb ∧ ∃ d, ds[i]? = some d ∧ Dat W Hb x d
def tiOf (b : Bool) (f : Rho → Wp (List PyData)) : TI := fun σ H R => ∃ fr O ρ, At fr O σ ρ H ∧ f ρ fun ds => ∀ J H', Ex fr.pl H H' → Its b fr O H' J ds → R J H'
structure I (X : Cx) (b : Bool) (tg iter : Expr) (f : Rho → Wp (List PyData)) : Prop where
  pi : PI X tg iter (tiOf b f)
  mo : ∀ ρ, Mono (f ρ)
section
variable {X : Cx} {tg iter : Expr} {f : Rho → Wp (List PyData)} {pos : Pos}
theorem pi_imp {t t' : TI} (h : PI X tg iter t) (i : ∀ σ H R, t' σ H R → t σ H R) : PI X tg iter t' := ⟨fun pins s σ H R I q => h.run pins s σ H R I (i σ H R q)⟩
def endLoop (k : Rho → Wp Out) : Out → Wp Out
  | .nx ρ => k ρ
  | .ct ρ => k ρ
  | .bk ρ => ret (.nx ρ)
  | .rt d => ret (.rt d)
theorem mono_endLoop {k : Rho → Wp Out} (h : ∀ ρ, Mono (k ρ)) : ∀ o, Mono (endLoop k o)
  | .nx ρ => h ρ
  | .ct ρ => h ρ
  | .bk _ => mono_ret _
  | .rt _ => mono_ret _
def wFor (k : PyData → Rho → Wp Rho) (b : Rho → Wp Out) : List PyData → Rho → Wp Out
  | [], ρ => ret (.nx ρ)
  | d :: ds, ρ => bnd (k d ρ) fun ρ1 => bnd (b ρ1) (endLoop (wFor k b ds))
theorem mono_wFor {k : PyData → Rho → Wp Rho} {b : Rho → Wp Out} (hk : ∀ d ρ, Mono (k d ρ)) (hb : ∀ ρ, Mono (b ρ)) : ∀ ds ρ, Mono (wFor k b ds ρ)
  | [], _ => mono_ret _
  | _ :: ds, _ => mono_bnd (hk _ _) fun _ => mono_bnd (hb _) (mono_endLoop (mono_wFor hk hb ds))
def sFor (fi : Rho → Wp (List PyData)) (k : PyData → Rho → Wp Rho) (b : Rho → Wp Out) : Rho → Wp Out := fun ρ => bnd (fi ρ) fun ds => wFor k b ds ρ
theorem s_for {ws : List Nat} {k : PyData → Rho → Wp Rho} {body : List Stmt} {b : Rho → Wp Out} (hp : PassesOwn (model X.prog X.w) X.A X.env X.xe) (hc : X.calm = true) (hi : I X true tg iter f) (hg : G X ws tg k) (hb : SS X body b)
    (hs : ∀ x, foldedSetIterable iter X.env x = pure x := by intro _; rfl) : S X (.For tg iter body [] pos) (sFor f k b) := by
  refine ⟨ps_imp (ps_for hp hc hi.pi hg.pg hb.ps hs) fun D σ H ⟨fr, O, ρ, A, q⟩ => ?_, fun ρ => mono_bnd (hi.mo ρ) fun _ => mono_wFor hg.mo hb.mo _ _⟩
  refine ⟨fr, O, ρ, A, hi.mo ρ _ _ (fun ds q J H1 e1 it => ?_) q⟩
  have A1 := A.ex e1
  obtain ⟨Gd, Y, w, hG, hY⟩ := it.ex
  simp only [if_true] at hG hY
  refine for_it w (fun i σ' H' => ∃ O' ρ', At (fr.shift O H1) O' σ' ρ' H' ∧ wFor k b (ds.drop i) ρ' (endOf fr D)) ⟨O, ρ, A1.shift, q⟩ (fun i σ' H' _ p => ?_) (fun i x σ' H' Hb hi p y => ?_) (fun σ' H' p => ?_)
  · obtain ⟨O', ρ', B, _⟩ := p
    exact hG H' B.kept
  · obtain ⟨O', ρ', B, q⟩ := p
    have hW : ∀ q, ¬ Wd fr O q → H1 q ≠ none → ¬ Wd (fr.shift O H1) O' q := fun q n h z => by
      rcases z with z | z
      · exact n (.inl z)
      · rcases (B.own q z).1.2 with (m | ⟨c, m⟩) | m
        · exact n (.inr m)
        · exact n (.inl (A1.pool q c m).2.2)
        · exact h m
    obtain ⟨sm, d, hd, hx⟩ := hY i H' x Hb _ hi B.kept hW y
    have B1 := B.ex (B.same sm)
    have e : ds.drop i = d :: ds.drop (i + 1) := by
      obtain ⟨h1, h2⟩ := List.getElem?_eq_some_iff.mp hd
      rw [List.drop_eq_getElem_cons hi, h2]
    rw [e] at q
    refine ⟨_, O', ρ', d, B1, hx, hg.mo _ _ _ _ (fun ρ1 k1 σ1 O1 _ B2 => ?_) q⟩
    refine ⟨_, O1, ρ1, B2, hb.mo _ _ _ (fun o k2 => ?_) k1⟩
    cases o with
    | nx ρ2 => exact fun σ2 O2 H2 B3 => ⟨O2, ρ2, B3, k2⟩
    | ct ρ2 => exact fun σ2 O2 H2 B3 => ⟨O2, ρ2, B3, k2⟩
    | bk ρ2 => exact fun σ2 O2 H2 B3 => k2 σ2 O2 H2 (A1.back B3)
    | rt d => exact fun v H2 F => k2 v H2 (F.back A1)
  · obtain ⟨O', ρ', B, q⟩ := p
    rw [List.drop_length] at q
    exact q σ' O' H' (A1.back B)
def wWhile (c : Rho → Wp Bool) (b : Rho → Wp Out) : Nat → Rho → Wp Out
  | 0, _ => bad
  | n + 1, ρ => bnd (c ρ) fun t => if t = true then bnd (b ρ) (endLoop (wWhile c b n)) else ret (.nx ρ)
theorem mono_wWhile {c : Rho → Wp Bool} {b : Rho → Wp Out} (hc : ∀ ρ, Mono (c ρ)) (hb : ∀ ρ, Mono (b ρ)) : ∀ n ρ, Mono (wWhile c b n ρ)
  | 0, _ => mono_bad
  | n + 1, _ => mono_bnd (hc _) fun _ => ite_mono (mono_bnd (hb _) (mono_endLoop (mono_wWhile hc hb n))) (mono_ret _)
def sWhile (c : Rho → Wp Bool) (b : Rho → Wp Out) : Rho → Wp Out := fun ρ Q => ∃ n, wWhile c b n ρ Q
theorem s_while {c : Expr} {t : Rho → Wp Bool} {body : List Stmt} {b : Rho → Wp Out} (hp : PassesOwn (model X.prog X.w) X.A X.env X.xe) (hc : T X c t) (hb : SS X body b) : S X (.While c body [] pos) (sWhile t b) := by
  refine ⟨ps_imp (ps_while hp hc.pt hb.ps) fun D σ H ⟨fr, O, ρ, A, n, q⟩ => ?_, fun ρ P P' h ⟨n, q⟩ => ⟨n, mono_wWhile hc.mo hb.mo n ρ _ _ h q⟩⟩
  refine ⟨fun m σ' H' => ∃ O' ρ', At fr O' σ' ρ' H' ∧ wWhile t b m ρ' (endOf fr D), ⟨n, O, ρ, A, q⟩, ?_⟩
  rintro m σ' H' ⟨O', ρ', B, q⟩
  cases m with
  | zero => exact False.elim q
  | succ m =>
    refine ⟨fr, O', ρ', B, hc.mo _ _ _ (fun x k H1 e1 => ?_) q⟩
    have B1 := B.ex e1
    cases x with
    | true =>
      refine iteT ⟨fun σ2 H2 => ∃ O2 ρ2, At fr O2 σ2 ρ2 H2 ∧ wWhile t b m ρ2 (endOf fr D), fun σ2 H2 z => ⟨m, Nat.lt_succ_self m, z⟩, fr, O', ρ', B1, hb.mo _ _ _ (fun o k2 => ?_) k⟩
      cases o with
      | nx ρ2 => exact fun σ2 O2 H2 B3 => ⟨O2, ρ2, B3, k2⟩
      | ct ρ2 => exact fun σ2 O2 H2 B3 => ⟨O2, ρ2, B3, k2⟩
      | bk ρ2 => exact k2
      | rt d => exact k2
    | false => exact iteF (k σ' O' H1 B1)
/-! ### what is walked -/
variable {e : Expr} {fe : Rho → Wp PyData}
def items : PyData → Wp (List PyData)
  | .tuple ds => ret ds
  | .list ds => ret ds
  | _ => bad
theorem mono_items (d : PyData) : Mono (items d) := by
  unfold items
  split <;> first | exact mono_ret _ | exact mono_bad
def iSeq (fe : Rho → Wp PyData) : Rho → Wp (List PyData) := fun ρ => bnd (fe ρ) items
def onlyTup : PyData → Wp (List PyData)
  | .tuple ds => ret ds
  | _ => bad
def onlyLst : PyData → Wp (List PyData)
  | .list ds => ret ds
  | _ => bad
theorem mono_onlyTup (d : PyData) : Mono (onlyTup d) := by
  unfold onlyTup
  split <;> first | exact mono_ret _ | exact mono_bad
theorem mono_onlyLst (d : PyData) : Mono (onlyLst d) := by
  unfold onlyLst
  split <;> first | exact mono_ret _ | exact mono_bad
theorem At.via {b : Bool} {fr : Fr} {O : List (Option Addr)} {σ : St} {ρ : Rho} {H H' : Hp} (A : At fr O σ ρ H) (k : if b = true then Kept fr O H H' else Ex fr.pl H H') :
    (∀ p vs, H p = some (.tup vs) → H' p = some (.tup vs)) ∧ (∀ p o, ¬ Wd fr O p → H p = some o → H' p = some o) := by
  have own : ∀ {p : Addr} {vs : List V}, some p ∈ O → H p ≠ some (.tup vs) := fun {p vs} m e => by
    obtain ⟨_, _, o, y, z⟩ := A.own p m
    exact z vs (Option.some.inj (y.symm.trans e))
  cases b with
  | true =>
    simp only [if_true] at k
    exact ⟨fun p vs h => k p _ (fun z => z.elim (fun m => own m h) fun ⟨c, z⟩ => A.tupW z h rfl) h, fun p o n h => k p o (fun z => n (z.elim .inr fun ⟨c, z⟩ => .inl (A.pool p c z).2.2)) h⟩
  | false =>
    have k : Ex fr.pl H H' := k
    exact ⟨fun p vs h => k.keep p _ (fun a c z => A.tupW z h) h, fun p o n h => k.keep p o (fun a c z y => n (.inl (by rw [y]; exact (A.pool a c z).2.2))) h⟩
theorem its_seq {b : Bool} {fr : Fr} {O : List (Option Addr)} {σ : St} {ρ : Rho} {H : Hp} {J : It} {vs : List V} {ds : List PyData} {Gd : Hp → Prop} (A : At fr O σ ρ H) (w : Walk J vs.length Gd (YAt vs)) (hG : ∀ H2, (if b = true then Kept fr O H H2 else Ex fr.pl H H2) → Gd H2) (h : Dats (Wd fr O) H vs ds) : Its b fr O H J ds := by
  refine ⟨Gd, YAt vs, h.length ▸ w, hG, fun i Ha x Hb W hi k hW y => ?_⟩
  obtain ⟨rfl, hv⟩ := y
  obtain ⟨d, hd, hx⟩ := h.getV hv
  obtain ⟨h1, h2⟩ := A.via k
  exact ⟨Same.refl _, d, hd, hx.to hW h1 h2⟩
theorem its_tup {b : Bool} {fr : Fr} {O : List (Option Addr)} {σ : St} {ρ : Rho} {H : Hp} {p : Addr} {vs : List V} {ds : List PyData} (A : At fr O σ ρ H) (h1 : H p = some (.tup vs)) (h2 : Dats (Wd fr O) H vs ds) : Its b fr O H (Itt X.K p) ds :=
  its_seq A walk_tup (fun H2 k => SqT.of ((A.via k).1 p vs h1)) h2
theorem its_lst {b : Bool} {fr : Fr} {O : List (Option Addr)} {σ : St} {ρ : Rho} {H : Hp} {p : Addr} {vs : List V} {ds : List PyData} (A : At fr O σ ρ H) (h1 : H p = some (.lst vs)) (h2 : Dats (Wd fr O) H vs ds) (hn : ¬ fr.U p) (hb : b = true → ¬ Wd fr O p) : Its b fr O H (Itl X.K p) ds := by
  refine its_seq A walk_list (fun H2 k => ?_) h2
  cases b with
  | true => exact SqL.of ((A.via k).2 p _ (hb rfl) h1)
  | false =>
    have k : Ex fr.pl H H2 := k
    exact SqL.of (k.keep p _ (fun a c z y => hn (by rw [y]; exact (A.pool a c z).2.2)) h1)
theorem Its.weak {fr : Fr} {O : List (Option Addr)} {σ : St} {ρ : Rho} {H : Hp} {J : It} {ds : List PyData} (A : At fr O σ ρ H) (h : Its true fr O H J ds) : Its false fr O H J ds := by
  obtain ⟨Gd, Y, w, hG, hY⟩ := h.ex
  have c : ∀ H2, (if false = true then Kept fr O H H2 else Ex fr.pl H H2) → Kept fr O H H2 := fun H2 k b o n h => (show Ex fr.pl H H2 from k).keep b o (fun a c z y => n (.inr ⟨c, by rw [y]; exact z⟩)) h
  exact ⟨Gd, Y, w, fun H2 k => hG H2 (c H2 k), fun i Ha x Hb W hi k => hY i Ha x Hb W hi (c Ha k)⟩
theorem I.weak (h : I X true tg iter f) : I X false tg iter f :=
  ⟨pi_imp h.pi fun σ H R ⟨fr, O, ρ, A, q⟩ => ⟨fr, O, ρ, A, h.mo ρ _ _ (fun ds k J H1 e1 it => k J H1 e1 (it.weak (A.ex e1))) q⟩, h.mo⟩
/-- a list or a tuple, whichever it is -/
def tiSeq (K : PySem.W.Frag) (tl : TE) : TI := fun σ H R => tl σ H fun x H1 => ∃ a, x = .ref a ∧ ((∃ xs, SqL K H1 a xs ∧ R (Itl K a) H1) ∨ ∃ xs, SqT K H1 a xs ∧ R (Itt K a) H1)
theorem pi_seq {l : Expr} {tl : TE} (hl : PE X l tl) : PI X tg l (tiSeq X.K tl) := by
  refine ⟨fun pins s σ H R i h => thn (hl.run pins s σ H _ i h) fun v s1 ⟨x, H1, I1, r1, a, ex, q⟩ => ?_⟩
  subst ex
  cases r1
  have fp : ∀ b ∈ [s1.heap.objs.size], FpOk X pins H1 b := fun b hb => by
    rw [List.mem_singleton.mp hb]
    exact I1.fpOk (Nat.le_refl _) (I1.hok.fresh (Nat.le_refl _))
  rcases q with ⟨xs, hq, q⟩ | ⟨xs, hq, q⟩
  · obtain ⟨its, rv, p, hz⟩ := I1.list hq
    exact wpAny_pyIter_list p.isList ⟨_, _, _, _, H1, rfl, I1.kept (t' := s1.toks) fun _ _ => Heap.get?_push_of_some _, turn_list a _, ⟨_, Heap.get?_push_size _ rfl, rfl, rfl⟩, fp, q⟩
  · obtain ⟨its, rv, p, hz⟩ := I1.tuple hq
    exact wpAny_pyIter_tuple (show s1.heap.IsTuple a its.toArray from p) ⟨_, _, _, _, H1, rfl, I1.kept (t' := s1.toks) fun _ _ => Heap.get?_push_of_some _, turn_tuple a _, ⟨_, Heap.get?_push_size _ rfl, rfl, rfl⟩, fp, q⟩
theorem mono_iSeq (h : ∀ ρ, Mono (fe ρ)) (ρ : Rho) : Mono (iSeq fe ρ) := mono_bnd (h ρ) mono_items
theorem i_seq (h : E X true e fe) : I X true tg e (iSeq fe) := by
  refine ⟨pi_imp (pi_seq h.pe) fun σ H R ⟨fr, O, ρ, A, q⟩ => ?_, mono_iSeq h.mo⟩
  refine ⟨fr, O, ρ, A, h.mo ρ _ _ (fun d k v H1 e1 g1 => ?_) q⟩
  have A1 := A.ex e1
  have g1 : Dat (Wd fr O) H1 v d := g1
  cases g1 with
  | tup a b => exact ⟨_, rfl, .inr ⟨_, SqT.of a, k _ H1 e1 (its_tup A1 a b)⟩⟩
  | lst n a b => exact ⟨_, rfl, .inl ⟨_, SqL.of a, k _ H1 e1 (its_lst A1 a b (fun u => n (.inl u)) fun _ => n)⟩⟩
  | non => exact False.elim k
  | bl _ => exact False.elim k
  | int _ => exact False.elim k
  | str _ => exact False.elim k
  | dic _ _ _ => exact False.elim k
  | dit _ _ _ => exact False.elim k
theorem i_seqO (h : E X false e fe) : I X false tg e (iSeq fe) := by
  refine ⟨pi_imp (pi_seq h.pe) fun σ H R ⟨fr, O, ρ, A, q⟩ => ?_, mono_iSeq h.mo⟩
  refine ⟨fr, O, ρ, A, h.mo ρ _ _ (fun d k v H1 e1 g1 => ?_) q⟩
  have A1 := A.ex e1
  have g1 : TopD fr.U (Wd fr O) H1 v d := g1
  cases d with
  | tuple ds =>
    obtain ⟨p, vs, rfl, a, b⟩ := g1.tup
    exact ⟨_, rfl, .inr ⟨_, SqT.of a, k _ H1 e1 (its_tup A1 a b)⟩⟩
  | list ds =>
    cases g1 with
    | of g1 => cases g1 with | lst n a b => exact ⟨_, rfl, .inl ⟨_, SqL.of a, k _ H1 e1 (its_lst A1 a b (fun u => n (.inl u)) fun z => by cases z)⟩⟩
    | lst n a b => exact ⟨_, rfl, .inl ⟨_, SqL.of a, k _ H1 e1 (its_lst A1 a b n fun z => by cases z)⟩⟩
  | none => exact False.elim k
  | bool _ => exact False.elim k
  | int _ => exact False.elim k
  | str _ => exact False.elim k
  | dict _ => exact False.elim k
/-- range(..) -/
def upto (lo : Int) (n : Nat) : List PyData := (List.range n).map fun (i : Nat) => PyData.int (lo + i)
theorem its_range {b : Bool} {fr : Fr} {O : List (Option Addr)} {H : Hp} {lo : Int} {n : Nat} : Its b fr O H (Itr lo n) (upto lo n) := by
  have hl : (upto lo n).length = n := by simp [upto]
  refine ⟨fun _ => True, YFn fun i => .int (lo + i), hl.symm ▸ walk_range, fun _ _ => trivial, fun i Ha x Hb W hi k hW y => ?_⟩
  obtain ⟨rfl, rfl⟩ := y
  exact ⟨Same.refl _, .int (lo + i), by rw [hl] at hi; simp [upto, hi], .int _⟩
def rng1 : List PyData → Wp (List PyData)
  | [.int j] => gd (-(2 ^ 62) ≤ j ∧ j < 2 ^ 62) (upto 0 j.toNat)
  | _ => bad
def rng2 : List PyData → Wp (List PyData)
  | [.int i, .int j] => gd (-(2 ^ 62) ≤ i ∧ i < 2 ^ 62 ∧ -(2 ^ 62) ≤ j ∧ j < 2 ^ 62) (upto i (j - i).toNat)
  | _ => bad
theorem mono_rng1 (ds : List PyData) : Mono (rng1 ds) := by
  unfold rng1
  split <;> first | exact mono_gd _ | exact mono_bad
theorem mono_rng2 (ds : List PyData) : Mono (rng2 ds) := by
  unfold rng2
  split <;> first | exact mono_gd _ | exact mono_bad
def iCall (o : List PyData → Wp (List PyData)) (k : Rho → Wp (List PyData)) : Rho → Wp (List PyData) := fun ρ => bnd (k ρ) o
theorem i_range1 {b : Bool} {a : Expr} {ka : Rho → Wp (List PyData)} {p : Pos} (hm : X.mg "range" = none) (ha : A X true [a] ka) (hg : Gl X "range" := by rfl) (hs : starEach [a] X.env = [(false, eval a X.env)] := by rfl) : I X b tg (.Call (.Name "range" p) [a] [] pos) (iCall rng1 ka) := by
  refine ⟨pi_imp (pi_range1 hg hm ha.pa hs) fun σ H R ⟨fr, O, ρ, A, q⟩ => ?_, fun ρ => mono_bnd (ha.mo ρ) mono_rng1⟩
  refine ⟨fr, O, ρ, A, ha.mo ρ _ _ (fun ds k vs H1 e1 g1 => ?_) q⟩
  unfold rng1 at k
  split at k
  · cases g1 with
    | cons h r =>
      cases r
      cases (show Dat _ _ _ _ from h)
      exact ⟨_, rfl, k.1.1, k.1.2, k.2 _ H1 e1 its_range⟩
  · exact False.elim k
theorem i_range2 {b : Bool} {a c : Expr} {ka : Rho → Wp (List PyData)} {p : Pos} (hm : X.mg "range" = none) (ha : A X true [a, c] ka) (hg : Gl X "range" := by rfl) (hs : starEach [a, c] X.env = [(false, eval a X.env), (false, eval c X.env)] := by rfl) (hs2 : starEach [c] X.env = [(false, eval c X.env)] := by rfl) : I X b tg (.Call (.Name "range" p) [a, c] [] pos) (iCall rng2 ka) := by
  refine ⟨pi_imp (pi_range2 hg hm ha.pa hs hs2) fun σ H R ⟨fr, O, ρ, A, q⟩ => ?_, fun ρ => mono_bnd (ha.mo ρ) mono_rng2⟩
  refine ⟨fr, O, ρ, A, ha.mo ρ _ _ (fun ds k vs H1 e1 g1 => ?_) q⟩
  unfold rng2 at k
  split at k
  · cases g1 with
    | cons h r =>
      cases r with
      | cons h2 r =>
        cases r
        cases (show Dat _ _ _ _ from h)
        cases (show Dat _ _ _ _ from h2)
        exact ⟨_, _, rfl, k.1, k.2 _ H1 e1 its_range⟩
  · exact False.elim k
end
end Lq
namespace Lq
open PySem L2
/-! ### new lists; comprehensions -/
def teF (f : Rho → Wp (List PyData)) : TE := fun σ H Q => ∃ fr O ρ, At fr O σ ρ H ∧ f ρ fun ds => ∀ p vs H', H p = none → Ex fr.pl H H' → H' p = some (.lst vs) → Dats (fun b => Wd fr O b ∨ b = p) H' vs ds → Q (.ref p) H'
/-- an expression that gives a new list -/
structure EF (X : Cx) (e : Expr) (f : Rho → Wp (List PyData)) : Prop where
  pe : PE X e (teF f)
  mo : ∀ ρ, Mono (f ρ)
def eL (f : Rho → Wp (List PyData)) : Rho → Wp PyData := fun ρ => bnd (f ρ) fun ds => ret (.list ds)
section
variable {X : Cx} {e : Expr} {f : Rho → Wp (List PyData)}
theorem tef_of (mo : ∀ ρ, Mono (f ρ)) {σ : St} {H : Hp} {Q : VK} (q : teOf true (eL f) σ H Q) : teF f σ H Q := by
  obtain ⟨fr, O, ρ, A, q⟩ := q
  refine ⟨fr, O, ρ, A, mo ρ _ _ (fun ds k p vs H1 n e1 h1 h2 => k _ H1 e1 ?_) q⟩
  exact Dat.lst (fun w => A.wd w n) h1 (h2.less fun p _ w => .inl w)
theorem EF.toE {g : Bool} (h : EF X e f) : E X g e (eL f) := E.tr ⟨pe_imp h.pe fun σ H Q q => tef_of h.mo q, fun ρ => mono_bnd (h.mo ρ) fun _ => mono_ret _⟩
def lLst (k : Rho → Wp (List PyData)) : Rho → Wp (List PyData) := fun ρ => bnd (k ρ) fun ds => gd (ds.length ≤ sizeLine) ds
theorem f_lst {es : List Expr} {pos : Pos} {k : Rho → Wp (List PyData)} (h : A X true es k) : EF X (.List es pos) (lLst k) := by
  refine ⟨pe_imp (pe_lst h.pa) fun σ H Q ⟨fr, O, ρ, A, q⟩ => ?_, fun ρ => mono_bnd (h.mo ρ) fun _ => mono_gd _⟩
  refine ⟨fr, O, ρ, A, h.mo ρ _ _ (fun ds k1 vs H1 e1 g1 => ?_) q⟩
  have A1 := A.ex e1
  refine ⟨by rw [g1.dats.length]; exact k1.1, fun p hp => k1.2 p vs _ ?_ (e1.trans (Ex.new A1 hp)) upd_same ?_⟩
  · cases z : H p with
    | none => rfl
    | some o => exact absurd hp (e1.there p (by rw [z]; exact Option.some_ne_none _))
  · exact g1.dats.to (fun q n h z => z.elim n fun e => h (by rw [e]; exact hp)) (fun q vs h => by rw [upd_ne (ne_of_none h hp)]; exact h) fun q o _ h => by rw [upd_ne (ne_of_none h hp)]; exact h
end
/-! the slots of a block -/
def wipeR : Rho → List Nat → Rho
  | ρ, [] => ρ
  | ρ, v :: vs => (wipeR ρ vs).set v .un
def isOwn : Option Sl → Bool
  | some (.lst _) => true
  | some (.dic _) => true
  | some (.dit _) => true
  | _ => false
def noOwn (ρ : Rho) (vs : List Nat) : Bool := vs.all fun i => !isOwn ρ[i]?
theorem wipe_get (σ : St) (i : Nat) : ∀ vs : List Nat, (wipe σ vs)[i]? = if i ∈ vs then (if i < σ.length then some none else none) else σ[i]?
  | [] => by simp [wipe]
  | v :: vs => by
    unfold wipe
    rw [List.getElem?_set]
    by_cases e : v = i
    · subst e
      rw [if_pos rfl, if_pos List.mem_cons_self, wipe_length]
    · rw [if_neg e, wipe_get σ i vs]
      have h : (i ∈ v :: vs) ↔ i ∈ vs := by simp [Ne.symm e]
      simp only [h]
theorem wipe_agree {ws vs : List Nat} {O O' : List (Option Addr)} {σ σ' : St} (a : Agree ws O O' (wipe σ vs) σ') (h : ∀ w ∈ ws, w ∈ vs) : wipe σ' vs = wipe σ vs := by
  have l := a.len
  rw [wipe_length] at l
  refine List.ext_getElem? fun i => ?_
  rw [wipe_get, wipe_get, l]
  by_cases m : i ∈ vs
  · rw [if_pos m, if_pos m]
  · rw [if_neg m, if_neg m, a.eq i (fun w => m (h i w)), wipe_get, if_neg m]
theorem slot_none {W : Addr → Prop} {pl : Pl} {H : Hp} {o : Option Addr} {x : Option V} {s : Sl} (h : SlotAt W pl H o x s) (n : isOwn (some s) = false) : o = none := by
  cases h <;> first | rfl | cases n
theorem Slots.wipe {W : Addr → Prop} {pl : Pl} {H : Hp} {O : List (Option Addr)} {σ : St} {ρ : Rho} (h : Slots W pl H O σ ρ) : ∀ vs : List Nat, noOwn ρ vs = true → Slots W pl H O (L2.wipe σ vs) (wipeR ρ vs)
  | [], _ => h
  | v :: vs, n => by
    obtain ⟨n1, n2⟩ := Bool.and_eq_true_iff.mp (show (!isOwn ρ[v]? && noOwn ρ vs) = true from n)
    have r := (Slots.wipe h vs n2).set (.un none) v
    have e : O.set v none = O := by
      refine List.ext_getElem? fun i => ?_
      rw [List.getElem?_set]
      split
      · subst v
        split
        · rename_i hl
          have hl' : i < ρ.length := by rw [← h.len.1]; exact hl
          obtain ⟨o, x, h1, h2, h3⟩ := h.get (List.getElem?_eq_getElem hl')
          rw [List.getElem?_eq_getElem hl'] at n1
          rw [h1, slot_none h3 (by simpa using n1)]
        · rename_i hl
          rw [List.getElem?_eq_none (by omega)]
      · rfl
    rw [e] at r
    exact r
theorem own_out {W : Addr → Prop} {pl : Pl} {H : Hp} {O : List (Option Addr)} {σ : St} {ρ : Rho} {vs : List Nat} (h : Slots W pl H O σ ρ) (n : noOwn ρ vs = true) {j : Nat} {p : Addr} (e : O[j]? = some (some p)) : j ∉ vs := fun m => by
  have n1 := List.all_eq_true.mp n j m
  have hl : j < ρ.length := by rw [← h.len.1]; exact (List.getElem?_eq_some_iff.mp e).1
  obtain ⟨o, x, h1, h2, h3⟩ := h.get (List.getElem?_eq_getElem hl)
  rw [List.getElem?_eq_getElem hl] at n1
  rw [e] at h1
  rw [slot_none h3 (by simpa using n1)] at h1
  cases h1
structure TTs (X : Cx) (ifs : List Expr) (t : Rho → Wp Bool) : Prop where
  pt : PTs X ifs (ttOf t)
  mo : ∀ ρ, Mono (t ρ)
def tAll : Rho → Wp Bool := fun _ => ret true
theorem ts_nil {X : Cx} : TTs X [] tAll := ⟨⟨fun pins s σ H Q I ⟨fr, O, ρ, A, q⟩ => pts_nil.run pins s σ H Q I (q H A.refl)⟩, fun _ => mono_ret _⟩
theorem ts_one {X : Cx} {c : Expr} {t : Rho → Wp Bool} (h : T X c t) : TTs X [c] t := ⟨pts_one h.pt, h.mo⟩
def wLc (k : PyData → Rho → Wp Rho) (t : Rho → Wp Bool) (f : Rho → Wp PyData) : List PyData → Rho → Wp (List PyData)
  | [], _ => ret []
  | d :: ds, ρ => bnd (k d ρ) fun ρ1 => bnd (t ρ1) fun b => if b = true then bnd (f ρ1) fun y => bnd (wLc k t f ds ρ) fun ys => ret (y :: ys) else wLc k t f ds ρ
theorem mono_wLc {k : PyData → Rho → Wp Rho} {t : Rho → Wp Bool} {f : Rho → Wp PyData} (hk : ∀ d ρ, Mono (k d ρ)) (ht : ∀ ρ, Mono (t ρ)) (hf : ∀ ρ, Mono (f ρ)) : ∀ ds ρ, Mono (wLc k t f ds ρ)
  | [], _ => mono_ret _
  | _ :: ds, _ => mono_bnd (hk _ _) fun _ => mono_bnd (ht _) fun _ => ite_mono (mono_bnd (hf _) fun _ => mono_bnd (mono_wLc hk ht hf ds _) fun _ => mono_ret _) (mono_wLc hk ht hf ds _)
/-- [f for k in fi if t], vs: the block's own slots -/
def fLc (fi : Rho → Wp (List PyData)) (k : PyData → Rho → Wp Rho) (t : Rho → Wp Bool) (f : Rho → Wp PyData) (vs : List Nat) : Rho → Wp (List PyData) :=
  fun ρ => bnd (fi ρ) fun ds Q => (ds.length ≤ sizeLine ∧ noOwn ρ vs = true) ∧ wLc k t f ds (wipeR ρ vs) Q
theorem pool_up {H : Hp} {a c D : Addr} {o : HO} (h : Cf.PoolAt H a c) (h1 : D ≠ a) (h2 : D ≠ c) : Cf.PoolAt (upd H D o) a c := by
  obtain ⟨ns, i, v, k, s, e1, e2, e3, e4⟩ := h
  exact ⟨ns, i, v, k, s, by rw [upd_ne h1.symm]; exact e1, by rw [upd_ne h2.symm]; exact e2, e3, e4⟩
theorem pool_two {H : Hp} {a c : Addr} (h : Cf.PoolAt H a c) : H a ≠ none ∧ H c ≠ none := by
  obtain ⟨ns, i, v, k, s, e1, e2, e3, e4⟩ := h
  exact ⟨by rw [e1]; exact Option.some_ne_none _, by rw [e2]; exact Option.some_ne_none _⟩
theorem lc_imp {fi : Rho → Wp (List PyData)} {k : PyData → Rho → Wp Rho} {t : Rho → Wp Bool} {f : Rho → Wp PyData} {vs ws : List Nat} (mi : ∀ ρ, Mono (fi ρ)) (mk : ∀ d ρ, Mono (k d ρ)) (mt : ∀ ρ, Mono (t ρ)) (mf : ∀ ρ, Mono (f ρ)) (hws : ∀ w ∈ ws, w ∈ vs) {σ : St} {H : Hp} {Q : VK}
    (q : teF (fLc fi k t f vs) σ H Q) : tLc (tiOf false fi) (tgOf ws k) (ttOf t) (teOf true f) vs σ H Q := by
  obtain ⟨fr, O, ρ, A, q⟩ := q
  refine ⟨fr, O, ρ, A, mi ρ _ _ (fun ds q J H1 e1 it => ?_) q⟩
  have A1 := A.ex e1
  obtain ⟨⟨hz, hno⟩, q⟩ := q
  intro D nD
  obtain ⟨Gd, Y, w, hG, hY⟩ := it.ex
  have nD0 : H D = none := by
    cases z : H D with
    | none => rfl
    | some o => exact absurd nD (e1.there D (by rw [z]; exact Option.some_ne_none _))
  have Dpool : ∀ a c, fr.pl = some (a, c) → D ≠ a ∧ D ≠ c := fun a c e => by
    obtain ⟨h1, h2⟩ := pool_two (A1.pool a c e).1
    exact ⟨fun z => h1 (by rw [← z]; exact nD), fun z => h2 (by rw [← z]; exact nD)⟩
  refine lc_it w (fun i H' => ∃ acc ys, H' D = some (.lst acc) ∧ acc.length ≤ i ∧ Dats (fun b => Wd fr O b ∨ b = D) H' acc ys ∧ Ex fr.pl H1 H' ∧
      wLc k t f (ds.drop i) (wipeR ρ vs) fun zs => ∀ p us H', H p = none → Ex fr.pl H H' → H' p = some (.lst us) → Dats (fun b => Wd fr O b ∨ b = p) H' us (ys ++ zs) → Q (.ref p) H')
    ⟨[], [], upd_same, Nat.le_refl _, .nil, Ex.new A1 nD, q⟩ (fun i H' _ p => ?_) (fun i x H' Hb hi p y => ?_) (fun H' p => ?_)
  · obtain ⟨acc, ys, p1, p2, p3, p4, p5⟩ := p
    exact hG H' p4
  · obtain ⟨acc, ys, p1, p2, p3, p4, p5⟩ := p
    let fr2 : Fr := ⟨fun b => fr.U b ∨ b = D, fun b => some b ∈ O ∨ ∃ c, fr.pl = some (b, c), fr.pl, Hb⟩
    have hW : ∀ q, ¬ Wd fr O q → H1 q ≠ none → ¬ Wd fr2 O q := fun q n h z => by
      rcases z with (z | z) | z
      · exact n (.inl z)
      · exact h (by rw [z]; exact nD)
      · exact n (.inr z)
    obtain ⟨sm, d, hd, hx⟩ := hY i H' x Hb (Wd fr2 O) hi p4 hW y
    have A2 := A1.ex p4
    have A3 := A2.ex (A2.same sm)
    have pb : Hb D = some (.lst acc) := sm _ _ p1
    have e14 : Ex fr.pl H1 Hb := p4.trans (A2.same sm)
    obtain ⟨v1, v2⟩ := A1.via (b := false) (H' := Hb) e14
    have B : At fr2 O (L2.wipe σ vs) (wipeR ρ vs) Hb := by
      refine ⟨Slots.wipe (A1.sl.to hW v1 v2 fun p o m h => e14.keep p o (fun a c z => ((A1.own p m).2.1 a c z).1) h) vs hno, fun _ _ _ h => h, fun a c e => ⟨e14.pool a c e, .inr ⟨c, e⟩, .inl (A1.pool a c e).2.2⟩, fun p m => ?_, A1.nd, fun b u => ?_, fun _ h => h⟩
      · refine ⟨⟨fun u => u.elim (A1.own p m).1.1 fun e => ?_, .inl (.inl m)⟩, (A3.own p m).2⟩
        exact A1.wd (.inr m) (by rw [e]; exact nD)
      · rcases u with u | u
        · exact e14.there b (A1.wd (.inl u))
        · show Hb b ≠ none
          rw [u, pb]; exact Option.some_ne_none _
    have e : ds.drop i = d :: ds.drop (i + 1) := by
      obtain ⟨h1, h2⟩ := List.getElem?_eq_some_iff.mp hd
      rw [List.drop_eq_getElem_cons hi, h2]
    rw [e] at p5
    refine ⟨fr2, O, _, d, B, hx, mk _ _ _ _ (fun ρ1 k1 σ1 O1 ag B1 => ?_) p5⟩
    refine ⟨wipe_agree ag hws, fr2, O1, ρ1, B1, mt _ _ _ (fun b k2 H3 e3 => ?_) k1⟩
    have B2 := B1.ex e3
    have kD : ∀ {Ha Hb' : Hp}, Ex fr.pl Ha Hb' → Ha D = some (.lst acc) → Hb' D = some (.lst acc) := fun ex h => ex.keep D _ (fun a c z => (Dpool a c z).1) h
    have WD : ∀ a c, fr.pl = some (a, c) → (Wd fr O a ∨ a = D) := fun a c z => .inl (.inl (A1.pool a c z).2.2)
    have q3 : H3 D = some (.lst acc) := kD e3 pb
    have d3 : Dats (fun b => Wd fr O b ∨ b = D) H3 acc ys := Dats.ex e3 (fun a c z => ⟨WD a c z, e14.pool a c z⟩) (p3.same sm)
    have e13 : Ex fr.pl H1 H3 := e14.trans e3
    have hlt : acc.length < sizeLine := by omega
    cases b with
    | true =>
      have k2 : bnd (f ρ1) _ _ := k2
      refine iteT ⟨fr2, O1, ρ1, B2, mf _ _ _ (fun yd k3 v H4 e4 g4 => ?_) k2⟩
      have q4 : H4 D = some (.lst acc) := kD e4 q3
      have d4 : Dats (fun b => Wd fr O b ∨ b = D) H4 acc ys := Dats.ex e4 (fun a c z => ⟨WD a c z, e13.pool a c z⟩) d3
      have e14' : Ex fr.pl H1 H4 := e13.trans e4
      have dv : Dat (fun b => Wd fr O b ∨ b = D) H4 v yd := (show Dat (Wd fr2 O1) H4 v yd from g4).to (fun q n _ z => by
        rcases z with (z | z) | z
        · exact n (.inl (.inl z))
        · obtain ⟨j, hj⟩ := List.mem_iff_getElem?.mp z
          have m := own_out A1.sl hno hj
          exact n (.inr (List.mem_of_getElem? ((ag.oeq j fun w => m (hws j w)).trans hj)))
        · exact n (.inl (.inr z))) (fun _ _ => id) fun _ _ _ => id
      have move : ∀ {us : List V} {zs : List PyData} {o : HO}, Dats (fun b => Wd fr O b ∨ b = D) H4 us zs → Dats (fun b => Wd fr O b ∨ b = D) (upd H4 D o) us zs := fun h =>
        h.to (fun _ n _ => n) (fun q vs h => by rw [upd_ne (ne_of h q4 (by intro z; cases z))]; exact h) fun q o n h => by rw [upd_ne (fun z => n (.inr z))]; exact h
      refine ⟨acc, q4, hlt, acc ++ [v], ys ++ [yd], upd_same, by rw [List.length_append]; exact Nat.succ_le_succ p2, move (d4.snoc dv), ?_, ?_⟩
      · refine ⟨fun b o n h => ?_, fun a c z => pool_up (e14'.pool a c z) (Dpool a c z).1 (Dpool a c z).2, fun b h => ?_⟩
        · rw [upd_ne (ne_of_none h nD)]; exact e14'.keep b o n h
        · by_cases z : b = D
          · rw [z, upd_same]; exact Option.some_ne_none _
          · rw [upd_ne z]; exact e14'.there b h
      · refine mono_wLc mk mt mf _ _ _ _ (fun zs h => ?_) k3
        rw [List.append_assoc]
        exact h
    | false =>
      have k2 : wLc k t f (ds.drop (i + 1)) (wipeR ρ vs) _ := k2
      exact iteF ⟨acc, ys, q3, by omega, d3, e13, k2⟩
  · obtain ⟨acc, ys, p1, p2, p3, p4, p5⟩ := p
    rw [List.drop_length] at p5
    have p5 := (show ∀ p us H', _ from p5) D acc H' nD0 (e1.trans p4) p1
    rw [List.append_nil] at p5
    exact p5 p3
section
variable {X : Cx} {elt tg iter : Expr} {ifs : List Expr} {scope : Scope} {own : List (Str × Nat)} {pos : Pos} {fi : Rho → Wp (List PyData)} {k : PyData → Rho → Wp Rho} {t : Rho → Wp Bool} {f : Rho → Wp PyData} {ws : List Nat}
theorem mono_fLc {vs : List Nat} (mi : ∀ ρ, Mono (fi ρ)) (mk : ∀ d ρ, Mono (k d ρ)) (mt : ∀ ρ, Mono (t ρ)) (mf : ∀ ρ, Mono (f ρ)) (ρ : Rho) : Mono (fLc fi k t f vs ρ) := mono_bnd (mi ρ) fun _ _ _ h q => ⟨q.1, mono_wLc mk mt mf _ _ _ _ h q.2⟩
theorem f_lc (hc : X.calm = true) (hN : X.N.Nodup) (hi : I X false tg iter fi) (ok : BlkOk X.N X.env.scope scope own) (hg : ∀ (s : Shared) (H : Hp) (C : Addr) (cl : List (Str × Addr)) (fp : List Addr), G (X.blk s H scope (compEnvC scope cl C X.env) fp) ws tg k)
    (ht : ∀ (s : Shared) (H : Hp) (C : Addr) (cl : List (Str × Addr)) (fp : List Addr), TTs (X.blk s H scope (compEnvC scope cl C X.env) fp) ifs t) (he : ∀ (s : Shared) (H : Hp) (C : Addr) (cl : List (Str × Addr)) (fp : List Addr), E (X.blk s H scope (compEnvC scope cl C X.env) fp) true elt f)
    (hws : ∀ w ∈ ws, w ∈ own.map (·.2) := by decide) (hs : ∀ x, foldedSetIterable iter X.env x = pure x := by intro _; rfl) : EF X (.ListComp elt [⟨tg, iter, ifs, 0⟩] scope pos) (fLc fi k t f (own.map (·.2))) := by
  have mk := (hg X.s_0 X.H_0 0 [] []).mo
  have mt := (ht X.s_0 X.H_0 0 [] []).mo
  have mf := (he X.s_0 X.H_0 0 [] []).mo
  exact ⟨pe_imp (pe_lc hc hN hi.pi ok (fun s H C cl fp => (hg s H C cl fp).pg) (fun s H C cl fp => (ht s H C cl fp).pt) (fun s H C cl fp => (he s H C cl fp).pe) hs) fun σ H Q q => lc_imp hi.mo mk mt mf hws q, mono_fLc hi.mo mk mt mf⟩
/-- name = [..] on one line, as data -/
theorem s_setLc {i : Nat} {y : Str} {py spos : Pos} (hc : X.calm = true) (hN : X.N.Nodup) (hi : I X false tg iter fi) (ok : BlkOk X.N X.env.scope scope own) (hg : ∀ (s : Shared) (H : Hp) (C : Addr) (cl : List (Str × Addr)) (fp : List Addr), G (X.blk s H scope (compEnvC scope cl C X.env) fp) ws tg k)
    (ht : ∀ (s : Shared) (H : Hp) (C : Addr) (cl : List (Str × Addr)) (fp : List Addr), TTs (X.blk s H scope (compEnvC scope cl C X.env) fp) ifs t) (he : ∀ (s : Shared) (H : Hp) (C : Addr) (cl : List (Str × Addr)) (fp : List Addr), E (X.blk s H scope (compEnvC scope cl C X.env) fp) true elt f)
    (hy : X.N[i]? = some y := by rfl) (hyl : X.env.scope.names.lookup y = some .local := by rfl) (hsw : swapsWith (.ListComp elt [⟨tg, iter, ifs, 0⟩] scope pos) (some (.Name y py)) spos.line X.env = pure true := by exact sw_true rfl rfl rfl (by decide +kernel))
    (hws : ∀ w ∈ ws, w ∈ own.map (·.2) := by decide) (hs : ∀ x, foldedSetIterable iter X.env x = pure x := by intro _; rfl) : S X (.Assign [.Name y py] (.ListComp elt [⟨tg, iter, ifs, 0⟩] scope pos) spos) (sSet (gN i) (eL (fLc fi k t f (own.map (·.2))))) := by
  have mk := (hg X.s_0 X.H_0 0 [] []).mo
  have mt := (ht X.s_0 X.H_0 0 [] []).mo
  have mf := (he X.s_0 X.H_0 0 [] []).mo
  have m := mono_fLc (vs := own.map (·.2)) hi.mo mk mt mf
  refine ⟨ps_imp (ps_setLc (i := i) hc hN hy hyl hsw hi.pi ok (fun s H C cl fp => (hg s H C cl fp).pg) (fun s H C cl fp => (ht s H C cl fp).pt) (fun s H C cl fp => (he s H C cl fp).pe) hs) fun D σ H ⟨fr, O, ρ, A, q⟩ => ?_, fun ρ => mono_bnd (mono_bnd (m ρ) fun _ => mono_ret _) fun _ => mono_bnd (mono_ret _) fun _ => mono_ret _⟩
  refine lc_imp hi.mo mk mt mf hws (tef_of m ⟨fr, O, ρ, A, ?_⟩)
  exact mono_bnd (m ρ) (fun _ => mono_ret _) _ _ (fun d k1 v H1 e1 g1 => k1 _ _ H1 ((A.ex e1).setVal i g1)) q
end
end Lq
namespace Lq
open PySem L2
/-! ### a def by its body -/
def endQ (Q : PyData → Prop) : Out → Prop
  | .rt d => Q d
  | .nx _ => Q .none
  | _ => False
def runQ (N : Nat) (body : Rho → Wp Out) : List PyData → Wp PyData := fun ds Q => body (ds.map Sl.val ++ List.replicate (N - ds.length) .un) (endQ Q)
def runQP (N : Nat) (body : Rho → Wp Out) : List PyData → Wp PyData := fun ds Q => body (.pool :: (ds.map Sl.val ++ List.replicate (N - (ds.length + 1)) .un)) (endQ Q)
theorem mono_runQ {N : Nat} {body : Rho → Wp Out} (h : ∀ ρ, Mono (body ρ)) (ds : List PyData) : Mono (runQ N body ds) := fun P P' i q => h _ _ _ (fun o k => match o, k with
  | .rt d, k => i d k
  | .nx _, k => i _ k
  | .bk _, k => k
  | .ct _, k => k) q
theorem mono_runQP {N : Nat} {body : Rho → Wp Out} (h : ∀ ρ, Mono (body ρ)) (ds : List PyData) : Mono (runQP N body ds) := fun P P' i q => h _ _ _ (fun o k => match o, k with
  | .rt d, k => i d k
  | .nx _, k => i _ k
  | .bk _, k => k
  | .ct _, k => k) q
theorem slots_un {W : Addr → Prop} {pl : Pl} {H : Hp} : ∀ n : Nat, Slots W pl H (List.replicate n none) (List.replicate n none) (List.replicate n .un)
  | 0 => .nil
  | n + 1 => .cons (.un _) (slots_un n)
theorem slots_val {W : Addr → Prop} {pl : Pl} {H : Hp} : ∀ {vs : List V} {ds : List PyData} (n : Nat), Dats W H vs ds → Slots W pl H (List.replicate (ds.length + n) none) (vs.map some ++ List.replicate n none) (ds.map Sl.val ++ List.replicate n .un)
  | _, _, n, .nil => by rw [List.length_nil, Nat.zero_add]; exact slots_un n
  | _, _, n, .cons (ds := ds) h r => by
    rw [List.length_cons, Nat.add_right_comm]
    exact .cons (.val h) (slots_val n r)
theorem noO {n : Nat} {p : Addr} : some p ∉ List.replicate n (none : Option Addr) := fun h => by cases List.eq_of_mem_replicate h
theorem noO2 {n i : Nat} {p : Addr} (h : (List.replicate n (none : Option Addr))[i]? = some (some p)) : False := noO (List.mem_of_getElem? h)
section
variable {P : Program} {w : World} {K : PySem.W.Frag} {mg : Str → Option Value} {base : Heap}
theorem fn_q {x qual : Str} {st : Stmt} {f : Addr} {fd : FuncData} {N ps : List Str} {k n : Nat} {body : Rho → Wp Out} (F : Fun K x qual st f fd) (Sc : FnScope N ps (defScope st)) (hn : ps.length = n)
    (hb : ∀ (cdv : Value) (A : Around) (outer : List Env) (s : Shared) (H : Hp) (E : XK), Room k (A.deeper (PyProof.Rows.envOfC qual (defScope st) s.heap.objs.size f cdv)) → SS (cxOf CX0 P w K mg base N qual (defScope st) f cdv A outer s H E).nox (defBody st) body) :
    FnOk P w K mg base CX0 (k + 1) f fd ps (spQ n (runQ N.length body)) := by
  refine F.ok Sc (fun vs H Q E h => ?_) (fun cdv A outer s H vs Q E hr h => ⟨_, (hb cdv A outer s H E hr).ps, ?_⟩)
  · obtain ⟨ds, U, h1, _, h2, _⟩ := h
    rw [h2.length, h1, hn]
  obtain ⟨ds, U, h1, hU, h2, R, hm, hi⟩ := h
  have l := h2.length
  refine ⟨⟨U, fun _ => False, none, H⟩, List.replicate (ds.length + (N.length - ds.length)) none, ds.map Sl.val ++ List.replicate (N.length - ds.length) .un, ⟨?_, fun _ _ _ h => h, fun a c e => (by cases e), fun p m => absurd m noO, fun i j p h => absurd h noO2, hU, fun _ h => h⟩, ?_⟩
  · have s := slots_val (W := Wd ⟨U, fun _ => False, none, H⟩ (List.replicate (ds.length + (N.length - ds.length)) none)) (pl := none) (N.length - ds.length) (h2.less fun p _ z => z.elim id fun m => absurd m noO)
    unfold L2.start
    rw [l]
    exact s
  · refine (hb cdv A outer s H E hr).mo _ _ _ (fun o k => ?_) hm
    match o, k with
    | .rt d, k => exact fun v H' F => hi _ k v H' (fun b o h => F.keep b o (fun z => z) h) F.dat
    | .nx _, k => exact fun σ' O' H' A => hi _ k _ H' (fun b o h => A.keep b o (fun z => z) h) .non
theorem fn_qp {x qual : Str} {st : Stmt} {f : Addr} {fd : FuncData} {N ps : List Str} {k n : Nat} {body : Rho → Wp Out} (F : Fun K x qual st f fd) (Sc : FnScope N ps (defScope st)) (hn : ps.length = n + 1)
    (hb : ∀ (cdv : Value) (A : Around) (outer : List Env) (s : Shared) (H : Hp) (E : XK), Room k (A.deeper (PyProof.Rows.envOfC qual (defScope st) s.heap.objs.size f cdv)) → SS (cxOf CX0 P w K mg base N qual (defScope st) f cdv A outer s H E).nox (defBody st) body) :
    FnOk P w K mg base CX0 (k + 1) f fd ps (spQP n (runQP N.length body)) := by
  refine F.ok Sc (fun vs H Q E h => ?_) (fun cdv A outer s H vs Q E hr h => ⟨_, (hb cdv A outer s H E hr).ps, ?_⟩)
  · obtain ⟨ds, U, a, c, us, rfl, h1, _, _, _, h2, _⟩ := h
    rw [List.length_cons, h2.length, h1, hn]
  obtain ⟨ds, U, a, c, us, rfl, h1, hp, ha, hU, h2, R, hm, hi⟩ := h
  have l := h2.length
  refine ⟨⟨U, fun b => b = a, some (a, c), H⟩, List.replicate (ds.length + (N.length - (ds.length + 1)) + 1) none, .pool :: (ds.map Sl.val ++ List.replicate (N.length - (ds.length + 1)) .un), ⟨?_, fun _ _ _ h => h, fun a' c' e => (by cases e; exact ⟨hp, rfl, ha⟩), fun p m => absurd m noO, fun i j p h => absurd h noO2, hU, fun _ h => h⟩, ?_⟩
  · have s := slots_val (W := Wd ⟨U, fun b => b = a, some (a, c), H⟩ (List.replicate (ds.length + (N.length - (ds.length + 1)) + 1) none)) (pl := some (a, c)) (N.length - (ds.length + 1)) (h2.less fun p _ z => z.elim id fun m => absurd m noO)
    unfold L2.start
    rw [List.length_cons, l]
    exact Slots.cons (.pool rfl) s
  · have exo : ∀ H', (∀ b o, ¬ b = a → H b = some o → H' b = some o) → Cf.PoolAt H' a c → (∀ b, H b ≠ none → H' b ≠ none) → Ex (some (a, c)) H H' := fun H' h1 h2 h3 => ⟨fun b o n h => h1 b o (n a c rfl) h, fun a' c' e => (by cases e; exact h2), h3⟩
    refine (hb cdv A outer s H E hr).mo _ _ _ (fun o k => ?_) hm
    match o, k with
    | .rt d, k => exact fun v H' F => hi _ k v H' (exo H' F.keep (F.pool a c rfl) F.st) F.dat
    | .nx _, k => exact fun σ' O' H' A => hi _ k _ H' (exo H' A.keep (A.pool a c rfl).1 A.st) .non
end
/-! ### calls with the pool -/
def slP : Option Sl → Wp Unit
  | some .pool => ret ()
  | _ => bad
theorem mono_slP : ∀ o, Mono (slP o)
  | some .pool => mono_ret _
  | none | some .un | some (.lst _) | some (.dic _) | some (.dit _) | some (.val _) => mono_bad
def eFnP (i : Nat) (m : List PyData → Wp PyData) (k : Rho → Wp (List PyData)) : Rho → Wp PyData := fun ρ => bnd (slP ρ[i]?) fun _ => bnd (k ρ) fun ds => up (m ds)
section
variable {X : Cx} {x y : Str} {p q pos : Pos} {es : List Expr} {ka : Rho → Wp (List PyData)}
theorem e_callP {g : Bool} (i : Nat) {n j : Nat} {ps : List Str} {m : List PyData → Wp PyData} (C : Cf.At X.prog X.w X.K X.mg X.base x j ps (spQP n m)) (hr : Room j X.A)
    (ha : A X true es ka) (hn : es.length = n := by rfl) (hN : X.N[i]? = some y := by rfl) (hv : Vis X.env.scope y := by first | exact Or.inl rfl | exact Or.inr (Or.inl rfl) | exact Or.inr (Or.inr rfl)) (hg : Gl X x := by rfl) (hd : (y == ("__debug__" : Str)) = false := by decide) (hcd : (y == ("__classdict__" : Str)) = false := by decide) (hdb : (x == ("__debug__" : Str)) = false := by decide)
    (he : starEach (.Name y q :: es) X.env = (false, eval (.Name y q) X.env) :: starEach es X.env := by rfl) (hpl : (backTo pos (starEach es X.env)).any (·.1) = false := by rfl) : E X g (.Call (.Name x p) (.Name y q :: es) [] pos) (eFnP i m ka) := by
  obtain ⟨fa, fd, F, hb, hk, hm⟩ := C.ex
  refine E.tr ⟨pe_imp (pe_call (dvs := []) (E := E0) F hr hg hm hk hb .nil pass0 (pa_cons (pe_var hN hv hd hcd) ha.pa he) hdb he hpl) fun σ H Q ⟨fr, O, ρ, A, q⟩ => ?_, fun ρ => mono_bnd (mono_slP _) fun _ => mono_bnd (ha.mo ρ) fun _ => mono_up _⟩
  unfold eFnP at q
  cases h : ρ[i]? with
  | none => rw [h] at q; exact False.elim q
  | some s =>
    rw [h] at q
    obtain ⟨o, x, h1, h2, h3⟩ := A.sl.get h
    cases h3 with
    | val _ => exact False.elim q
    | un => exact False.elim q
    | lst _ _ => exact False.elim q
    | dic _ _ => exact False.elim q
    | dit _ _ => exact False.elim q
    | @pool a c hpl =>
      have q : bnd (ka ρ) (fun ds => up (m ds)) _ := q
      refine ⟨_, h2, fr, O, ρ, A, ha.mo ρ _ _ (fun ds k1 vs H1 e1 g1 => ?_) (ha.len ρ _ q)⟩
      have A1 := A.ex e1
      obtain ⟨hp, _, hu⟩ := A1.pool a c hpl
      refine ⟨ds, Wd fr O, a, c, vs, by rw [List.append_nil], k1.1.trans hn, hp, .inl hu, fun b w => A1.wd w, g1.dats, mono_up _ _ _ (fun r k3 v H3 e3 g3 => k3 v H3 (e1.trans ?_) g3) k1.2⟩
      rw [hpl]
      exact e3
end
/-! ### lists of the def's own -/
def slL : Option Sl → Wp (List PyData)
  | some (.lst ds) => ret ds
  | _ => bad
theorem mono_slL : ∀ o, Mono (slL o)
  | some (.lst _) => mono_ret _
  | none | some .un | some .pool | some (.dic _) | some (.dit _) | some (.val _) => mono_bad
theorem At.list {fr : Fr} {O : List (Option Addr)} {σ : St} {ρ : Rho} {H : Hp} (A : At fr O σ ρ H) {i : Nat} {P : List PyData → Prop} (q : slL ρ[i]? P) : ∃ p vs ds, ρ[i]? = some (.lst ds) ∧ O[i]? = some (some p) ∧ σ[i]? = some (some (.ref p)) ∧ H p = some (.lst vs) ∧ Dats (Wd fr O) H vs ds ∧ P ds := by
  cases h : ρ[i]? with
  | none => rw [h] at q; exact False.elim q
  | some s =>
    rw [h] at q
    obtain ⟨o, x, h1, h2, h3⟩ := A.sl.get h
    cases h3 with
    | val _ => exact False.elim q
    | un => exact False.elim q
    | pool _ => exact False.elim q
    | dic _ _ => exact False.elim q
    | dit _ _ => exact False.elim q
    | lst a b => exact ⟨_, _, _, rfl, h1, h2, a, b, q⟩
theorem Slots.wr {W : Addr → Prop} {pl : Pl} {H : Hp} {p : Addr} {o' : HO} {s' : Sl} {x : Option V} (hp : W p) (ht : ∀ vs, H p ≠ some (.tup vs)) (hs : SlotAt W pl (upd H p o') (some p) x s') :
    ∀ {O : List (Option Addr)} {σ : St} {ρ : Rho} {i : Nat}, Slots W pl H O σ ρ → (∀ j, O[j]? = some (some p) → j = i) → O[i]? = some (some p) → σ[i]? = some x → Slots W pl (upd H p o') O σ (ρ.set i s')
  | _, _, _, _, .nil, _, e, _ => by cases e
  | _, _, _, 0, .cons (O := O) h r, u, e, f => by
    cases e
    cases f
    exact .cons hs (r.to (fun _ n _ => n) (fun q vs h => by rw [upd_ne (fun z => ht vs (by rw [← z]; exact h))]; exact h) (fun q o n h => by rw [upd_ne (fun z => n (by rw [z]; exact hp))]; exact h) fun q o m h => by
      refine (upd_ne fun z => ?_).trans h
      obtain ⟨j, hj⟩ := List.mem_iff_getElem?.mp m
      have := u (j + 1) (by rw [z] at hj; exact hj)
      omega)
  | _, _, _, i + 1, .cons (o := o) h r, u, e, f => by
    refine .cons ?_ (Slots.wr hp ht hs r (fun j hj => by have := u (j + 1) hj; omega) e f)
    have ne : ∀ q, o = some q → q ≠ p := fun q z y => by
      subst z
      have := u 0 (by rw [y]; rfl)
      omega
    have t1 : ∀ q vs, H q = some (.tup vs) → upd H p o' q = some (.tup vs) := fun q vs h => by rw [upd_ne (fun z => ht vs (by rw [← z]; exact h))]; exact h
    have t2 : ∀ q o, ¬ W q → H q = some o → upd H p o' q = some o := fun q o n h => by rw [upd_ne (fun z => n (by rw [z]; exact hp))]; exact h
    cases h with
    | un => exact .un _
    | val h => exact .val (h.to (fun _ n _ => n) t1 t2)
    | lst h k => exact .lst (by rw [upd_ne (ne _ rfl)]; exact h) (k.to (fun _ n _ => n) t1 t2)
    | dic h k => exact .dic (by rw [upd_ne (ne _ rfl)]; exact h) (k.to (fun _ n _ => n) t1 t2)
    | dit h k => exact .dit (by rw [upd_ne (ne _ rfl)]; exact h) (k.to (fun _ n _ => n) t1 t2)
    | pool h => exact .pool h
section
variable {fr : Fr} {O : List (Option Addr)} {σ : St} {ρ : Rho} {H H' : Hp}
/-- the own thing of slot i is written -/
theorem At.write (A : At fr O σ ρ H) {i : Nat} {p : Addr} {o' : HO} {s' : Sl} {x : Option V} (ho : O[i]? = some (some p)) (hx : σ[i]? = some x) (hn : ∀ vs, o' ≠ .tup vs) (hs : SlotAt (Wd fr O) fr.pl (upd H p o') (some p) x s') : At fr O σ (ρ.set i s') (upd H p o') := by
  have m := List.mem_of_getElem? ho
  obtain ⟨⟨a1, a2⟩, a3, o, a4, a5⟩ := A.own p m
  refine ⟨A.sl.wr (.inr m) (fun vs e => a5 vs (Option.some.inj (a4.symm.trans e))) hs (fun j hj => A.nd j i p hj ho) ho hx, fun b u n h => ?_, fun a c e => ⟨pool_up (A.pool a c e).1 (a3 a c e).1 (a3 a c e).2, (A.pool a c e).2⟩, fun q mq => ?_, A.nd, A.up, fun b h => ?_⟩
  · rw [upd_ne fun z => ?_]
    · exact A.keep b u n h
    · subst z
      rcases a2 with z | z
      · exact n z
      · rw [h] at z; cases z
  · obtain ⟨b1, b2, b3⟩ := A.own q mq
    refine ⟨b1, b2, ?_⟩
    by_cases z : q = p
    · exact ⟨o', by rw [z, upd_same], hn⟩
    · rw [upd_ne z]; exact b3
  · by_cases z : b = p
    · rw [z, upd_same]; exact Option.some_ne_none _
    · rw [upd_ne z]; exact A.st b h
/-- slot i takes a new list -/
theorem At.setNew (A : At fr O σ ρ H) (i : Nat) {p : Addr} {vs : List V} {ds : List PyData} (n : H p = none) (e : Ex fr.pl H H') (h1 : H' p = some (.lst vs)) (h2 : Dats (fun b => Wd fr O b ∨ b = p) H' vs ds) : At fr (O.set i (some p)) (σ.set i (some (.ref p))) (ρ.set i (.lst ds)) H' := by
  have A1 := A.ex e
  have sub : ∀ q, some q ∈ O.set i (some p) → some q ∈ O ∨ q = p := fun q m => (List.mem_or_eq_of_mem_set m).imp id fun z => Option.some.inj z
  have hw : ∀ q, Wd fr (O.set i (some p)) q → Wd fr O q ∨ q = p := fun q z => z.elim (fun z => .inl (.inl z)) fun m => (sub q m).imp .inr id
  have pn : some p ∉ O := fun m => A.wd (.inr m) n
  refine ⟨Slots.set (.lst h1 (h2.less fun q _ z => hw q z)) i (A.sl.to (fun q m hq z => (hw q z).elim m fun z => hq (by rw [z]; exact n)) (A.via (b := false) e).1 (A.via (b := false) e).2 fun q o m h => e.keep q o (fun a c z => ((A.own q m).2.1 a c z).1) h), A1.keep, A1.pool, fun q m => ?_, fun j k q hj hk => ?_, A.up, A1.st⟩
  · rcases sub q m with m | rfl
    · exact A1.own q m
    · refine ⟨⟨fun u => A.wd (.inl u) n, .inr ?_⟩, fun a c z => ?_, _, h1, by intro vs z; cases z⟩
      · cases z : fr.H0 q with
        | none => rfl
        | some o => exact absurd n (A.st q (by rw [z]; exact Option.some_ne_none _))
      · obtain ⟨g1, g2⟩ := pool_two (A.pool a c z).1
        exact ⟨fun z => g1 (by rw [← z]; exact n), fun z => g2 (by rw [← z]; exact n)⟩
  · rw [List.getElem?_set] at hj hk
    split at hj <;> split at hk
    · subst_vars; rfl
    · split at hj
      · cases hj
        exact absurd (List.mem_of_getElem? hk) pn
      · cases hj
    · split at hk
      · cases hk
        exact absurd (List.mem_of_getElem? hj) pn
      · cases hk
    · exact A.nd j k q hj hk
end
section
variable {X : Cx} {x : Str} {px pos spos apos : Pos} {e : Expr} {i : Nat}
def sNew (i : Nat) (f : Rho → Wp (List PyData)) : Rho → Wp Out := fun ρ => bnd (f ρ) fun ds => ret (.nx (ρ.set i (.lst ds)))
/-- name = a new list, the def's own -/
theorem s_new (i : Nat) {f : Rho → Wp (List PyData)} (h : EF X e f) (hN : X.N.Nodup) (hi : X.N[i]? = some x := by rfl) (hx : Loc X.env.scope x := by first | exact Or.inl rfl | exact Or.inr rfl) (hs : swapsWith e (some (.Name x px)) pos.line X.env = pure false := by rfl) (hf : X.fn x = true ∨ X.env.scope.names.lookup x = some .local := by first | exact .inl rfl | exact .inr rfl) :
    S X (.Assign [.Name x px] e pos) (sNew i f) := by
  refine ⟨ps_imp (ps_set (i := i) hN hi hx h.pe hs hf) fun D σ H ⟨fr, O, ρ, A, q⟩ => ?_, fun ρ => mono_bnd (h.mo ρ) fun _ => mono_ret _⟩
  exact ⟨fr, O, ρ, A, h.mo ρ _ _ (fun ds k p vs H1 n e1 h1 h2 => k _ _ H1 (A.setNew i n e1 h1 h2)) q⟩
def sApp (i : Nat) (f : Rho → Wp PyData) : Rho → Wp Out := fun ρ => bnd (slL ρ[i]?) fun ds => bnd (f ρ) fun d => gd (ds.length < sizeLine) (.nx (ρ.set i (.lst (ds ++ [d]))))
/-- name.append(e) -/
theorem s_append (i : Nat) {f : Rho → Wp PyData} (h : E X true e f) (hN : X.N[i]? = some x := by rfl) (hv : Vis X.env.scope x := by first | exact Or.inl rfl | exact Or.inr (Or.inl rfl) | exact Or.inr (Or.inr rfl)) (hd : (x == ("__debug__" : Str)) = false := by decide) (hcd : (x == ("__classdict__" : Str)) = false := by decide)
    (hbase : attributeBase (.Name x px) "append" X.env (eval (.Name x px) X.env) = eval (.Name x px) X.env := by rfl)
    (hfew : ((backTo pos (starEach [e] X.env)).all (fun x => !x.1) && (backToKw pos (keywordEach [] X.env)).all (fun x => x.1.isSome) && decide (([e] : List Expr).length + ([] : List Keyword).length + (if ([] : List Keyword).isEmpty then 0 else 1) < 30)) = true := by rfl)
    (hline : (apos.endLine == pos.line) = true := by rfl) (hs : starEach [e] X.env = (false, eval e X.env) :: starEach [] X.env := by rfl) (hpl : (backTo pos (starEach [] X.env)).any (·.1) = false := by rfl)
    (hsw : swapsWith (.Call (.Attribute (.Name x px) "append" apos) [e] [] pos) none spos.line X.env = pure false := by rfl) : S X (.Expr (.Call (.Attribute (.Name x px) "append" apos) [e] [] pos) spos) (sApp i f) := by
  refine ⟨ps_imp (ps_expr (pe_bm PySem.F.plainAttrs_list PySem.F.slot_list_append PySem.F.type_list_append mt_append (pe_var hN hv hd hcd) (pa_cons h.pe pa_nil hs) hbase hfew hline hs hpl) hsw) fun D σ H ⟨fr, O, ρ, A, q⟩ => ?_, fun ρ => mono_bnd (mono_slL _) fun _ => mono_bnd (h.mo ρ) fun _ => mono_gd _⟩
  obtain ⟨p, vs, ds, h1, h2, h3, h4, h5, q⟩ := A.list q
  refine ⟨_, h3, .inl ⟨rfl, _, SqL.of h4⟩, fr, O, ρ, A, h.mo ρ _ _ (fun d k v H1 e1 g1 => ?_) q⟩
  have A1 := A.ex e1
  obtain ⟨p', vs', ds', f1, f2, f3, f4, f5, _⟩ := A1.list (i := i) (P := fun _ => True) (by rw [h1]; trivial)
  cases h1.symm.trans f1
  cases h3.symm.trans f3
  refine ⟨p, vs', v, rfl, rfl, f4, by rw [f5.length]; exact k.1, k.2 _ _ _ (A1.write f2 f3 (by intro vs z; cases z) (.lst upd_same ?_))⟩
  have w : Wd fr O p := .inr (List.mem_of_getElem? f2)
  exact (f5.snoc (show Dat (Wd fr O) H1 v d from g1)).to (fun _ n _ => n) (fun q vs h => by rw [upd_ne (ne_of h f4 (by intro z; cases z))]; exact h) fun q o n h => by rw [upd_ne (fun z => n (by rw [z]; exact w))]; exact h
end
end Lq
namespace Lq
open PySem L2
/-! ### the operators -/
section
variable {U W : Addr → Prop} {H : Hp} {x y : V} {d e : PyData}
theorem dat_new {H : Hp} {p : Addr} {o : HO} (n : H p = none) : Same H (upd H p o) := Cf.same_new n o
end
def addQ : PyData → PyData → Wp PyData
  | .int i, .int j => ret (.int (i + j))
  | .str x, .str y => gd (x.length + y.length ≤ sizeLine) (.str (x ++ y))
  | .tuple a, .tuple b => gd (a.length + b.length ≤ sizeLine) (.tuple (a ++ b))
  | .list a, .list b => gd (a.length + b.length ≤ sizeLine) (.list (a ++ b))
  | _, _ => bad
theorem mono_addQ (d e : PyData) : Mono (addQ d e) := by
  unfold addQ
  split <;> first | exact mono_ret _ | exact mono_gd _ | exact mono_bad
def subQ : PyData → PyData → Wp PyData
  | .int i, .int j => ret (.int (i - j))
  | _, _ => bad
def mulQ : PyData → PyData → Wp PyData
  | .int i, .int j => gd (CMul i j) (.int (i * j))
  | _, _ => bad
def modQ : PyData → PyData → Wp PyData
  | .int i, .int j => gd (0 < j) (.int (i % j))
  | _, _ => bad
def fdivQ : PyData → PyData → Wp PyData
  | .int i, .int j => gd (CDiv i j) (.int (i / j))
  | _, _ => bad
def ltQ : PyData → PyData → Wp PyData
  | .int i, .int j => ret (.bool (decide (i < j)))
  | .str x, .str y => ret (.bool (decide (x.cps.toList < y.cps.toList)))
  | _, _ => bad
def leQ : PyData → PyData → Wp PyData
  | .int i, .int j => ret (.bool (decide (i ≤ j)))
  | .str x, .str y => ret (.bool (!decide (y.cps.toList < x.cps.toList)))
  | _, _ => bad
def gtQ : PyData → PyData → Wp PyData
  | .int i, .int j => ret (.bool (decide (j < i)))
  | _, _ => bad
def geQ : PyData → PyData → Wp PyData
  | .int i, .int j => ret (.bool (decide (j ≤ i)))
  | _, _ => bad
def isNone : PyData → Bool
  | .none => true
  | _ => false
def isQ : PyData → PyData → Wp PyData
  | d, .none => ret (.bool (isNone d))
  | _, _ => bad
def isNotQ : PyData → PyData → Wp PyData
  | d, .none => ret (.bool (!isNone d))
  | _, _ => bad
section
variable {X : Cx}
theorem q_add : OpQ X (binaryOp .Add) addQ := by
  refine ⟨⟨_, (op_add.or op_add_str).or (op_catA.or op_cat), fun {fr O σ ρ H x y d e Q} A hx hy q => ?_⟩, mono_addQ⟩
  unfold addQ at q
  split at q
  · cases hx.int
    cases hy.int
    exact .inl (.inl ⟨_, _, rfl, rfl, q _ H (Same.refl H) (.int _)⟩)
  · cases hx.str
    cases hy.str
    exact .inl (.inr ⟨_, _, rfl, rfl, q.1, q.2 _ H (Same.refl H) (.str _)⟩)
  · obtain ⟨p, vs, rfl, a, b⟩ := hx.tup
    obtain ⟨p2, vs2, rfl, a2, b2⟩ := hy.tup
    refine .inr (.inl ⟨p, p2, vs, vs2, rfl, rfl, SqT.of a, SqT.of a2, by rw [b.length, b2.length]; exact q.1, fun z => ?_, fun _ z => ?_, fun _ _ r n => ?_⟩)
    · subst z
      cases b
      exact q.2 _ H (Same.refl H) (.tup a2 b2)
    · subst z
      cases b2
      exact q.2 _ H (Same.refl H) (by rw [List.append_nil]; exact .tup a b)
    · exact q.2 _ _ (dat_new n) (.tup upd_same ((b.append b2).same (dat_new n)))
  · obtain ⟨p, vs, rfl, a, b⟩ := hx.list
    obtain ⟨p2, vs2, rfl, a2, b2⟩ := hy.list
    refine .inr (.inr ⟨p, p2, vs, vs2, rfl, rfl, a, a2, by rw [b.length, b2.length]; exact q.1, fun r n => ?_⟩)
    exact q.2 _ _ (dat_new n) (.lst (wd_new A n) upd_same ((b.append b2).same (dat_new n)))
  · exact q.elim
/-- two ints -/
theorem q_ii {f : Value → Value → Sem Value} {C : Int → Int → Prop} {g : Int → Int → V} {h : Int → Int → PyData} {o : PyData → PyData → Wp PyData} (op : OpR X f (rI C g)) (ho : ∀ d e P, o d e P → ∃ i j, d = .int i ∧ e = .int j ∧ C i j ∧ P (h i j)) (mo : ∀ d e, Mono (o d e))
    (hg : ∀ (W : Addr → Prop) (H : Hp) (i j : Int), Dat W H (g i j) (h i j)) : OpQ X f o := by
  refine ⟨⟨_, op, fun {fr O σ ρ H x y d e Q} A hx hy q => ?_⟩, mo⟩
  obtain ⟨i, j, rfl, rfl, c, k⟩ := ho d e _ q
  cases hx.int
  cases hy.int
  exact ⟨_, _, rfl, rfl, c, k _ H (Same.refl H) (hg _ _ _ _)⟩
theorem q_ii0 {f : Value → Value → Sem Value} {g : Int → Int → V} {h : Int → Int → PyData} {o : PyData → PyData → Wp PyData} (op : OpR X f (rI0 g)) (ho : ∀ d e P, o d e P → ∃ i j, d = .int i ∧ e = .int j ∧ P (h i j)) (mo : ∀ d e, Mono (o d e))
    (hg : ∀ (W : Addr → Prop) (H : Hp) (i j : Int), Dat W H (g i j) (h i j)) : OpQ X f o := by
  refine ⟨⟨_, op, fun {fr O σ ρ H x y d e Q} A hx hy q => ?_⟩, mo⟩
  obtain ⟨i, j, rfl, rfl, k⟩ := ho d e _ q
  cases hx.int
  cases hy.int
  exact ⟨_, _, rfl, rfl, k _ H (Same.refl H) (hg _ _ _ _)⟩
theorem q_sub : OpQ X (binaryOp .Sub) subQ := q_ii0 op_sub (h := fun i j => .int (i - j)) (fun d e P q => by
  unfold subQ at q
  split at q
  · exact ⟨_, _, rfl, rfl, q⟩
  · exact q.elim) (fun d e => by
  unfold subQ
  split
  · exact mono_ret _
  · exact mono_bad) fun _ _ _ _ => .int _
theorem q_mul : OpQ X (binaryOp .Mult) mulQ := q_ii op_mul (h := fun i j => .int (i * j)) (fun d e P q => by
  unfold mulQ at q
  split at q
  · exact ⟨_, _, rfl, rfl, q⟩
  · exact q.elim) (fun d e => by
  unfold mulQ
  split
  · exact mono_gd _
  · exact mono_bad) fun _ _ _ _ => .int _
theorem q_mod : OpQ X (binaryOp .Mod) modQ := q_ii op_mod (h := fun i j => .int (i % j)) (fun d e P q => by
  unfold modQ at q
  split at q
  · exact ⟨_, _, rfl, rfl, q⟩
  · exact q.elim) (fun d e => by
  unfold modQ
  split
  · exact mono_gd _
  · exact mono_bad) fun _ _ _ _ => .int _
theorem q_fdiv : OpQ X (binaryOp .FloorDiv) fdivQ := q_ii op_fdiv (h := fun i j => .int (i / j)) (fun d e P q => by
  unfold fdivQ at q
  split at q
  · exact ⟨_, _, rfl, rfl, q⟩
  · exact q.elim) (fun d e => by
  unfold fdivQ
  split
  · exact mono_gd _
  · exact mono_bad) fun _ _ _ _ => .int _
theorem q_gt : OpQ X (compareOp .Gt) gtQ := q_ii0 op_gt (h := fun i j => .bool (decide (j < i))) (fun d e P q => by
  unfold gtQ at q
  split at q
  · exact ⟨_, _, rfl, rfl, q⟩
  · exact q.elim) (fun d e => by
  unfold gtQ
  split
  · exact mono_ret _
  · exact mono_bad) fun _ _ _ _ => .bl _
theorem q_ge : OpQ X (compareOp .GtE) geQ := q_ii0 op_ge (h := fun i j => .bool (decide (j ≤ i))) (fun d e P q => by
  unfold geQ at q
  split at q
  · exact ⟨_, _, rfl, rfl, q⟩
  · exact q.elim) (fun d e => by
  unfold geQ
  split
  · exact mono_ret _
  · exact mono_bad) fun _ _ _ _ => .bl _
theorem q_lt : OpQ X (compareOp .Lt) ltQ := by
  refine ⟨⟨_, op_lt.or op_lt_str, fun {fr O σ ρ H x y d e Q} A hx hy q => ?_⟩, fun d e => ?_⟩
  · unfold ltQ at q
    split at q
    · cases hx.int
      cases hy.int
      exact .inl ⟨_, _, rfl, rfl, q _ H (Same.refl H) (.bl _)⟩
    · cases hx.str
      cases hy.str
      exact .inr ⟨_, _, rfl, rfl, q _ H (Same.refl H) (.bl _)⟩
    · exact q.elim
  · unfold ltQ
    split <;> first | exact mono_ret _ | exact mono_bad
theorem q_le : OpQ X (compareOp .LtE) leQ := by
  refine ⟨⟨_, op_le.or op_le_str, fun {fr O σ ρ H x y d e Q} A hx hy q => ?_⟩, fun d e => ?_⟩
  · unfold leQ at q
    split at q
    · cases hx.int
      cases hy.int
      exact .inl ⟨_, _, rfl, rfl, q _ H (Same.refl H) (.bl _)⟩
    · cases hx.str
      cases hy.str
      exact .inr ⟨_, _, rfl, rfl, q _ H (Same.refl H) (.bl _)⟩
    · exact q.elim
  · unfold leQ
    split <;> first | exact mono_ret _ | exact mono_bad
theorem none_iff {U W : Addr → Prop} {H : Hp} {v : V} {d : PyData} (h : TopD U W H v d) : decide (v = .non) = isNone d := by
  cases h with
  | of h => cases h <;> rfl
  | lst _ _ _ => rfl
  | dic _ _ _ => rfl
  | dit _ _ _ => rfl
theorem q_is : OpQ X (compareOp .Is) isQ := by
  refine ⟨⟨_, op_isN, fun {fr O σ ρ H x y d e Q} A hx hy q => ?_⟩, fun d e => ?_⟩
  · unfold isQ at q
    split at q
    · cases hy.none
      exact ⟨rfl, by rw [none_iff hx]; exact q _ H (Same.refl H) (.bl _)⟩
    · exact q.elim
  · unfold isQ
    split
    · exact mono_ret _
    · exact mono_bad
theorem q_isNot : OpQ X (compareOp .IsNot) isNotQ := by
  refine ⟨⟨_, op_notN, fun {fr O σ ρ H x y d e Q} A hx hy q => ?_⟩, fun d e => ?_⟩
  · unfold isNotQ at q
    split at q
    · cases hy.none
      exact ⟨rfl, by rw [none_iff hx]; exact q _ H (Same.refl H) (.bl _)⟩
    · exact q.elim
  · unfold isNotQ
    split
    · exact mono_ret _
    · exact mono_bad
end
/-! == of data -/
mutual
theorem dat_dp {K : PySem.W.Frag} {U : Addr → Prop} {H : Hp} : ∀ {v : V} {d : PyData}, Dat U H v d → d.canLay0 = true → Dp K H v d
  | _, _, .non, _ => .non
  | _, _, .bl b, _ => .bl b
  | _, _, .int i, _ => .int i
  | _, _, .str x, _ => .str x
  | _, _, .tup h r, s => .tup (SqT.of h) (dats_dp r (by simpa [PyData.canLay0] using s))
  | _, _, .lst _ h r, s => .lst (SqL.of h) (dats_dp r (by simpa [PyData.canLay0] using s))
  | _, _, .dic _ _ _, s => by simp [PyData.canLay0] at s
  | _, _, .dit _ _ _, s => by simp [PyData.canLay0] at s
theorem dats_dp {K : PySem.W.Frag} {U : Addr → Prop} {H : Hp} : ∀ {vs : List V} {ds : List PyData}, Dats U H vs ds → PyData.canLayAll0 ds = true → DpAll K H vs ds
  | _, _, .nil, _ => .nil
  | _, _, .cons h r, s => by
    simp [PyData.canLayAll0] at s
    exact .cons (dat_dp h s.1) (dats_dp r s.2)
end
theorem TopD.dp {K : PySem.W.Frag} {U W : Addr → Prop} {H : Hp} {v : V} {d : PyData} (h : TopD U W H v d) (s : d.canLay0 = true) : Dp K H v d := by
  cases h with
  | of h => exact dat_dp h s
  | lst _ a b => exact .lst (SqL.of a) (dats_dp b (by simpa [PyData.canLay0] using s))
  | dic _ _ _ => simp [PyData.canLay0] at s
  | dit _ _ _ => simp [PyData.canLay0] at s
/-- two flat ones: what == says -/
def eqS : PyData → PyData → Option Bool
  | .int i, .int j => some (decide (i = j))
  | .str x, .str y => some (decide (x = y))
  | .bool a, .bool b => some (decide (a = b))
  | .int _, .str _ => some false
  | .str _, .int _ => some false
  | .none, .none => some true
  | .none, .int _ => some false
  | .int _, .none => some false
  | .none, .str _ => some false
  | .str _, .none => some false
  | _, _ => none
def eqQ (d e : PyData) : Wp PyData := match eqS d e with
  | some b => ret (.bool b)
  | none => gd (SeqAt.shaped d = true ∧ SeqAt.shaped e = true) (.bool (PyData.eqv d e))
def neQ (d e : PyData) : Wp PyData := match eqS d e with
  | some b => ret (.bool (!b))
  | none => gd (SeqAt.shaped d = true ∧ SeqAt.shaped e = true) (.bool (!PyData.eqv d e))
section
variable {X : Cx}
theorem eqS_ok {U W : Addr → Prop} {H : Hp} {x y : V} {d e : PyData} {b : Bool} (hx : TopD U W H x d) (hy : TopD U W H y e) (h : eqS d e = some b) : scal x y = true ∧ decide (x = y) = b := by
  unfold eqS at h
  split at h
  · cases hx.int; cases hy.int; cases h; exact ⟨rfl, by simp⟩
  · cases hx.str; cases hy.str; cases h; exact ⟨rfl, by simp⟩
  · cases hx.bool; cases hy.bool; cases h; exact ⟨rfl, by simp⟩
  · cases hx.int; cases hy.str; cases h; exact ⟨rfl, by simp⟩
  · cases hx.str; cases hy.int; cases h; exact ⟨rfl, by simp⟩
  · cases hx.none; cases hy.none; cases h; exact ⟨rfl, by simp⟩
  · cases hx.none; cases hy.int; cases h; exact ⟨rfl, by simp⟩
  · cases hx.int; cases hy.none; cases h; exact ⟨rfl, by simp⟩
  · cases hx.none; cases hy.str; cases h; exact ⟨rfl, by simp⟩
  · cases hx.str; cases hy.none; cases h; exact ⟨rfl, by simp⟩
  · cases h
theorem q_eq (hu : X.A.units + 64 < cLine) : OpQ X (compareOp .Eq) eqQ := by
  refine ⟨⟨_, op_eq.or (op_eqD hu), fun {fr O σ ρ H x y d e Q} A hx hy q => ?_⟩, fun d e => ?_⟩
  · unfold eqQ at q
    cases h : eqS d e with
    | some b =>
      rw [h] at q
      obtain ⟨h1, h2⟩ := eqS_ok hx hy h
      exact .inl ⟨h1, by rw [h2]; exact q _ H (Same.refl H) (.bl _)⟩
    | none =>
      rw [h] at q
      obtain ⟨⟨s1, s2⟩, q⟩ := q
      exact .inr ⟨d, e, hx.dp (SeqAt.canLay_of_shaped s1), hy.dp (SeqAt.canLay_of_shaped s2), s1, s2, q _ H (Same.refl H) (.bl _)⟩
  · unfold eqQ
    split
    · exact mono_ret _
    · exact mono_gd _
theorem q_ne (hu : X.A.units + 64 < cLine) : OpQ X (compareOp .NotEq) neQ := by
  refine ⟨⟨_, op_ne.or (op_neD hu), fun {fr O σ ρ H x y d e Q} A hx hy q => ?_⟩, fun d e => ?_⟩
  · unfold neQ at q
    cases h : eqS d e with
    | some b =>
      rw [h] at q
      obtain ⟨h1, h2⟩ := eqS_ok hx hy h
      exact .inl ⟨h1, by rw [h2]; exact q _ H (Same.refl H) (.bl _)⟩
    | none =>
      rw [h] at q
      obtain ⟨⟨s1, s2⟩, q⟩ := q
      exact .inr ⟨d, e, hx.dp (SeqAt.canLay_of_shaped s1), hy.dp (SeqAt.canLay_of_shaped s2), s1, s2, q _ H (Same.refl H) (.bl _)⟩
  · unfold neQ
    split
    · exact mono_ret _
    · exact mono_gd _
end
/-! in -/
def flatD : PyData → Bool
  | .none | .bool _ | .int _ | .str _ => true
  | _ => false
/-- == of flat data -/
def eqF : PyData → PyData → Bool
  | .none, .none => true
  | .bool a, .bool b => a == b
  | .bool a, .int b => (if a then 1 else 0) == b
  | .int a, .bool b => a == (if b then 1 else 0)
  | .int a, .int b => a == b
  | .str a, .str b => a == b
  | _, _ => false
def inF (x : PyData) (ds : List PyData) : Bool := ds.any fun y => eqF y x
def inS (neg : Bool) (z : Str) : List Nat → Wp PyData
  | [c] => ret (.bool (if neg then !decide (c ∈ z.cps.toList) else decide (c ∈ z.cps.toList)))
  | _ => bad
theorem mono_inS (neg : Bool) (z : Str) : ∀ l, Mono (inS neg z l)
  | [] => mono_bad
  | [_] => mono_ret _
  | _ :: _ :: _ => mono_bad
theorem inS_ok {neg : Bool} {z : Str} {P : PyData → Prop} : ∀ {l : List Nat}, inS neg z l P → ∃ c, l = [c] ∧ P (.bool (if neg then !decide (c ∈ z.cps.toList) else decide (c ∈ z.cps.toList)))
  | [], h => h.elim
  | [c], h => ⟨c, rfl, h⟩
  | _ :: _ :: _, h => h.elim
def inQ (neg : Bool) : PyData → PyData → Wp PyData
  | .str x, .str z => inS neg z x.cps.toList
  | x, .tuple ds => gd (flatD x = true ∧ ds.all flatD = true) (.bool (if neg then !inF x ds else inF x ds))
  | x, .list ds => if (flatD x && ds.all flatD) = true then ret (.bool (if neg then !inF x ds else inF x ds))
      else gd (SeqAt.shaped x = true ∧ SeqAt.shaped (.list ds) = true) (.bool (if neg then !ds.any (fun z => PyData.eqv z x) else ds.any fun z => PyData.eqv z x))
  | _, _ => bad
theorem mono_inQ (neg : Bool) (d e : PyData) : Mono (inQ neg d e) := by
  unfold inQ
  split
  · exact mono_inS _ _ _
  · exact mono_gd _
  · exact ite_mono (mono_ret _) (mono_gd _)
  · exact mono_bad
section
variable {X : Cx}
theorem flat_of {W : Addr → Prop} {H : Hp} {v : V} {d : PyData} (h : Dat W H v d) (f : flatD d = true) : flatV v = true ∧ ∀ {u : V} {e : PyData}, Dat W H u e → flatD e = true → eqV u v = eqF e d := by
  cases h with
  | non => exact ⟨rfl, fun h f => by cases h <;> first | rfl | cases f⟩
  | bl b => exact ⟨rfl, fun h f => by cases h <;> first | rfl | cases f⟩
  | int i => exact ⟨rfl, fun h f => by cases h <;> first | rfl | cases f⟩
  | str x => exact ⟨rfl, fun h f => by cases h <;> first | rfl | cases f⟩
  | tup _ _ => cases f
  | lst _ _ _ => cases f
  | dic _ _ _ => cases f
  | dit _ _ _ => cases f
theorem flats_of {W : Addr → Prop} {H : Hp} {v : V} {d : PyData} (h : Dat W H v d) (f : flatD d = true) : ∀ {vs : List V} {ds : List PyData}, Dats W H vs ds → ds.all flatD = true → vs.all flatV = true ∧ inV v vs = inF d ds
  | _, _, .nil, _ => ⟨rfl, rfl⟩
  | _, _, .cons (v := u) (d := e) (vs := vs) (ds := ds) a r, g => by
    rw [List.all_cons, Bool.and_eq_true_iff] at g
    obtain ⟨h1, h2⟩ := flats_of h f r g.2
    refine ⟨by rw [List.all_cons, (flat_of a g.1).1, h1]; rfl, ?_⟩
    show (eqV u v || inV v vs) = (eqF e d || inF d ds)
    rw [(flat_of h f).2 a g.1, h2]
theorem TopD.flat {U W : Addr → Prop} {H : Hp} {v : V} {d : PyData} (h : TopD U W H v d) (f : flatD d = true) : Dat W H v d := by
  cases h with
  | of h => exact h
  | lst _ _ _ => cases f
  | dic _ _ _ => cases f
  | dit _ _ _ => cases f
theorem sign_of {x : Str} {c : Nat} (h : x.cps.toList = [c]) : x = ⟨#[c]⟩ := by
  cases x with
  | mk a =>
    congr
    exact Array.toList_inj.mp h
theorem q_in (hu : X.A.units + 65 < cLine) : OpQ X (compareOp .In) (inQ false) := by
  refine ⟨⟨_, op_in_sign.or (op_in_seq.or (op_inD hu)), fun {fr O σ ρ H x y d e Q} A hx hy q => ?_⟩, mono_inQ false⟩
  unfold inQ at q
  split at q
  · obtain ⟨c, h, k⟩ := inS_ok q
    cases hx.str
    cases hy.str
    exact .inl ⟨_, _, by rw [sign_of h], rfl, k _ H (Same.refl H) (.bl _)⟩
  · obtain ⟨⟨f1, f2⟩, q⟩ := q
    obtain ⟨p, vs, rfl, a, b⟩ := hy.tup
    have g := hx.flat f1
    obtain ⟨h1, h2⟩ := flats_of g f1 b f2
    exact .inr (.inl ⟨p, vs, rfl, .inr (SqT.of a), (flat_of g f1).1, h1, by rw [h2]; exact q _ H (Same.refl H) (.bl _)⟩)
  · obtain ⟨p, vs, rfl, a, b⟩ := hy.list
    split at q
    · rename_i f
      obtain ⟨f1, f2⟩ := Bool.and_eq_true_iff.mp f
      have g := hx.flat f1
      obtain ⟨h1, h2⟩ := flats_of g f1 b f2
      exact .inr (.inl ⟨p, vs, rfl, .inl (SqL.of a), (flat_of g f1).1, h1, by rw [h2]; exact q _ H (Same.refl H) (.bl _)⟩)
    · obtain ⟨⟨f1, f2⟩, q⟩ := q
      exact .inr (.inr ⟨_, _, hx.dp (SeqAt.canLay_of_shaped f1), hy.dp (SeqAt.canLay_of_shaped f2), f1, f2, q _ H (Same.refl H) (.bl _)⟩)
  · exact q.elim
theorem q_notIn (hu : X.A.units + 65 < cLine) : OpQ X (compareOp .NotIn) (inQ true) := by
  refine ⟨⟨_, op_notIn_sign.or (op_notIn_seq.or (op_notInD hu)), fun {fr O σ ρ H x y d e Q} A hx hy q => ?_⟩, mono_inQ true⟩
  unfold inQ at q
  split at q
  · obtain ⟨c, h, k⟩ := inS_ok q
    cases hx.str
    cases hy.str
    exact .inl ⟨_, _, by rw [sign_of h], rfl, k _ H (Same.refl H) (.bl _)⟩
  · obtain ⟨⟨f1, f2⟩, q⟩ := q
    obtain ⟨p, vs, rfl, a, b⟩ := hy.tup
    have g := hx.flat f1
    obtain ⟨h1, h2⟩ := flats_of g f1 b f2
    exact .inr (.inl ⟨p, vs, rfl, .inr (SqT.of a), (flat_of g f1).1, h1, by rw [h2]; exact q _ H (Same.refl H) (.bl _)⟩)
  · obtain ⟨p, vs, rfl, a, b⟩ := hy.list
    split at q
    · rename_i f
      obtain ⟨f1, f2⟩ := Bool.and_eq_true_iff.mp f
      have g := hx.flat f1
      obtain ⟨h1, h2⟩ := flats_of g f1 b f2
      exact .inr (.inl ⟨p, vs, rfl, .inl (SqL.of a), (flat_of g f1).1, h1, by rw [h2]; exact q _ H (Same.refl H) (.bl _)⟩)
    · obtain ⟨⟨f1, f2⟩, q⟩ := q
      exact .inr (.inr ⟨_, _, hx.dp (SeqAt.canLay_of_shaped f1), hy.dp (SeqAt.canLay_of_shaped f2), f1, f2, q _ H (Same.refl H) (.bl _)⟩)
  · exact q.elim
end
end Lq
namespace Lq
open PySem L2
/-! ### built-in calls, subscripts, slices -/
section
variable {X : Cx}
theorem topd_of {fr : Fr} {O : List (Option Addr)} {H : Hp} {v : V} {d : PyData} (h : Gd false fr O H v d) : TopD fr.U (Wd fr O) H v d := h
def lenQ : List PyData → Wp PyData
  | [.list ds] => ret (.int (ds.length : Int))
  | [.tuple ds] => ret (.int (ds.length : Int))
  | [.str x] => gd (x.length ≤ sizeLine) (.int (x.length : Int))
  | [.dict ((.none, _) :: es)] => ret (.int (es.length : Int))
  | [.dict es] => ret (.int (es.length : Int))
  | _ => bad
theorem datK_len {W : Addr → Prop} {H : Hp} : ∀ {kvs : List (Key × V)} {es : List (PyData × PyData)}, DatK W H kvs es → kvs.length = es.length
  | _, _, .nil => rfl
  | _, _, .cons _ r => congrArg (· + 1) (datK_len r)
theorem datT_len {W : Addr → Prop} {H : Hp} : ∀ {kvs : List (List Key × V)} {es : List (PyData × PyData)}, DatT W H kvs es → kvs.length = es.length
  | _, _, .nil => rfl
  | _, _, .cons _ r => congrArg (· + 1) (datT_len r)
theorem datK_none {W : Addr → Prop} {H : Hp} {kvs : List (Key × V)} {x : PyData} {es : List (PyData × PyData)} (h : DatK W H kvs ((.none, x) :: es)) : False := by
  generalize e : (PyData.none, x) :: es = fs at h
  cases h with
  | nil => cases e
  | @cons k _ _ _ _ _ _ => cases k <;> cases e
theorem q_len : CallQ X (.builtin "len") lenQ := by
  refine ⟨⟨_, call_len_seq.or (call_len_str.or (call_lenD.or call_len_dT)), fun {fr O σ ρ H vs ds Q} A h q => ?_⟩, fun ds => ?_⟩
  · unfold lenQ at q
    split at q
    · cases h with | cons h r => cases r; obtain ⟨p, vs, rfl, a, b⟩ := (topd_of h).list; exact .inl ⟨p, vs, rfl, .inl (SqL.of a), by rw [b.length]; exact q _ H (Same.refl H) (.int _)⟩
    · cases h with | cons h r => cases r; obtain ⟨p, vs, rfl, a, b⟩ := (topd_of h).tup; exact .inl ⟨p, vs, rfl, .inr (SqT.of a), by rw [b.length]; exact q _ H (Same.refl H) (.int _)⟩
    · cases h with | cons h r => cases r; cases (topd_of h).str; exact .inr (.inl ⟨_, rfl, q.1, q.2 _ H (Same.refl H) (.int _)⟩)
    · cases h with
      | cons h r =>
        cases r
        obtain ⟨p, rfl, hh⟩ := (topd_of h).dict
        rcases hh with ⟨kvs, a, b⟩ | ⟨kvs, fs, e, a, b⟩
        · exact (datK_none b).elim
        · cases e
          exact .inr (.inr (.inr ⟨p, kvs, rfl, a, by rw [datT_len b]; exact q _ H (Same.refl H) (.int _)⟩))
    · rename_i es hes
      cases h with
      | cons h r =>
        cases r
        obtain ⟨p, rfl, hh⟩ := (topd_of h).dict
        rcases hh with ⟨kvs, a, b⟩ | ⟨kvs, fs, e, a, b⟩
        · exact .inr (.inr (.inl ⟨p, kvs, rfl, a, by rw [datK_len b]; exact q _ H (Same.refl H) (.int _)⟩))
        · exact (hes _ _ (by rw [e])).elim
    · exact q.elim
  · unfold lenQ
    split <;> first | exact mono_ret _ | exact mono_gd _ | exact mono_bad
def listQ : List PyData → Wp PyData
  | [.list ds] => ret (.list ds)
  | [.tuple ds] => ret (.list ds)
  | [.dict ((.none, _) :: es)] => ret (.list (es.map (·.1)))
  | [.dict es] => ret (.list (es.map (·.1)))
  | _ => bad
def tupleQ : List PyData → Wp PyData
  | [.list ds] => ret (.tuple ds)
  | [.tuple ds] => ret (.tuple ds)
  | _ => bad
theorem datK_keys {W W' : Addr → Prop} {H H' : Hp} : ∀ {kvs : List (Key × V)} {es : List (PyData × PyData)}, DatK W H kvs es → Dats W' H' (kvs.map fun kv => kV kv.1) (es.map (·.1))
  | _, _, .nil => .nil
  | _, _, .cons (k := .inl i) _ r => .cons (.int i) (datK_keys r)
  | _, _, .cons (k := .inr x) _ r => .cons (.str x) (datK_keys r)
theorem dats_kV {W : Addr → Prop} {H : Hp} : ∀ (ks : List Key), Dats W H (ks.map kV) (ks.map kD)
  | [] => .nil
  | .inl i :: r => .cons (.int i) (dats_kV r)
  | .inr x :: r => .cons (.str x) (dats_kV r)
theorem datT_keys {W W' : Addr → Prop} {H H' : Hp} (e : Same H H') : ∀ {kvs : List (List Key × V)} {es : List (PyData × PyData)} {bs : List Addr}, DatT W H kvs es → IsKeys H kvs bs → Dats W' H' (bs.map V.ref) (es.map (·.1))
  | _, _, _, .nil, .nil => .nil
  | _, _, _, .cons (k := k) _ r, .cons h t => .cons (.tup (e _ _ h) (dats_kV k)) (datT_keys e r t)
theorem q_list (hc : X.calm = true) : CallQ X (.type "list") listQ := by
  refine ⟨⟨_, call_list_of.or ((call_list_dK hc).or (call_list_dT hc)), fun {fr O σ ρ H vs ds Q} A h q => ?_⟩, fun ds => ?_⟩
  · unfold listQ at q
    split at q
    · cases h with | cons h r => cases r; obtain ⟨p, vs, rfl, a, b⟩ := (topd_of h).list; exact .inl ⟨p, vs, rfl, .inl (SqL.of a), fun l n => q _ _ (dat_new n) (.lst (wd_new A n) upd_same (b.same (dat_new n)))⟩
    · cases h with | cons h r => cases r; obtain ⟨p, vs, rfl, a, b⟩ := (topd_of h).tup; exact .inl ⟨p, vs, rfl, .inr (SqT.of a), fun l n => q _ _ (dat_new n) (.lst (wd_new A n) upd_same (b.same (dat_new n)))⟩
    · cases h with
      | cons h r =>
        cases r
        obtain ⟨p, rfl, hh⟩ := (topd_of h).dict
        rcases hh with ⟨kvs, a, b⟩ | ⟨kvs, fs, e, a, b⟩
        · exact (datK_none b).elim
        · cases e
          exact .inr (.inr ⟨p, kvs, rfl, .inl a, fun l bs n k => q _ _ (dat_new n) (.lst (wd_new A n) upd_same (datT_keys (dat_new n) b k))⟩)
    · rename_i es hes
      cases h with
      | cons h r =>
        cases r
        obtain ⟨p, rfl, hh⟩ := (topd_of h).dict
        rcases hh with ⟨kvs, a, b⟩ | ⟨kvs, fs, e, a, b⟩
        · exact .inr (.inl ⟨p, kvs, rfl, a, fun l n => q _ _ (dat_new n) (.lst (wd_new A n) upd_same (datK_keys b))⟩)
        · exact (hes _ _ (by rw [e])).elim
    · exact q.elim
  · unfold listQ
    split <;> first | exact mono_ret _ | exact mono_bad
theorem q_tuple : CallQ X (.type "tuple") tupleQ := by
  refine ⟨⟨_, call_tuple_of, fun {fr O σ ρ H vs ds Q} A h q => ?_⟩, fun ds => ?_⟩
  · unfold tupleQ at q
    split at q
    · cases h with | cons h r => cases r; obtain ⟨p, vs, rfl, a, b⟩ := (topd_of h).list; exact ⟨p, vs, rfl, .inl ⟨SqL.of a, fun l n => q _ _ (dat_new n) (.tup upd_same (b.same (dat_new n)))⟩⟩
    · cases h with | cons h r => cases r; obtain ⟨p, vs, rfl, a, b⟩ := (topd_of h).tup; exact ⟨p, vs, rfl, .inr ⟨SqT.of a, q _ H (Same.refl H) (.tup a b)⟩⟩
    · exact q.elim
  · unfold tupleQ
    split <;> first | exact mono_ret _ | exact mono_bad
/-- the whole numbers of a list -/
def intsOf : List PyData → Option (List Int)
  | [] => some []
  | .int i :: ds => (intsOf ds).map (i :: ·)
  | _ :: _ => none
theorem intsOf_ok {W : Addr → Prop} {H : Hp} : ∀ {vs : List V} {ds : List PyData} {ns : List Int}, Dats W H vs ds → intsOf ds = some ns → vs = ns.map V.int
  | _, _, _, .nil, e => by cases e; rfl
  | _, _, ns, .cons (d := d) (ds := ds) h r, e => by
    cases d with
    | int i =>
      have e : (intsOf ds).map (i :: ·) = some ns := e
      obtain ⟨ms, h1, rfl⟩ := Option.map_eq_some_iff.mp e
      cases h
      rw [intsOf_ok r h1]
      rfl
    | none => cases e
    | bool _ => cases e
    | str _ => cases e
    | list _ => cases e
    | tuple _ => cases e
    | dict _ => cases e
def intsW (ds : List PyData) : Wp (List Int) := match intsOf ds with
  | some ns => ret ns
  | none => bad
theorem mono_intsW (ds : List PyData) : Mono (intsW ds) := by
  unfold intsW
  split
  · exact mono_ret _
  · exact mono_bad
theorem intsW_ok {ds : List PyData} {P : List Int → Prop} (h : intsW ds P) : ∃ ns, intsOf ds = some ns ∧ P ns := by
  unfold intsW at h
  cases e : intsOf ds with
  | some ns => rw [e] at h; exact ⟨ns, rfl, h⟩
  | none => rw [e] at h; exact False.elim h
def sumQ : List PyData → Wp PyData
  | [.list ds] => bnd (intsW ds) fun ns => ret (.int ns.sum)
  | _ => bad
def maxQ : List PyData → Wp PyData
  | [.list ds] => bnd (intsW ds) fun ns Q => 0 < ns.length ∧ ∀ m, m ∈ ns → (∀ y, y ∈ ns → y ≤ m) → Q (.int m)
  | [.int i, .int j] => ret (.int (if j > i then j else i))
  | _ => bad
def minQ : List PyData → Wp PyData
  | [.list ds] => bnd (intsW ds) fun ns Q => 0 < ns.length ∧ ∀ m, m ∈ ns → (∀ y, y ∈ ns → m ≤ y) → Q (.int m)
  | [.int i, .int j] => ret (.int (if j < i then j else i))
  | _ => bad
theorem mono_maxQ (ds : List PyData) : Mono (maxQ ds) := by
  unfold maxQ
  split
  · exact mono_bnd (mono_intsW _) fun ns P P' h q => ⟨q.1, fun m m1 m2 => h _ (q.2 m m1 m2)⟩
  · exact mono_ret _
  · exact mono_bad
theorem mono_minQ (ds : List PyData) : Mono (minQ ds) := by
  unfold minQ
  split
  · exact mono_bnd (mono_intsW _) fun ns P P' h q => ⟨q.1, fun m m1 m2 => h _ (q.2 m m1 m2)⟩
  · exact mono_ret _
  · exact mono_bad
theorem q_sum (hc : X.calm = true) : CallQ X (.builtin "sum") sumQ := by
  refine ⟨⟨_, cr_sum hc, fun {fr O σ ρ H vs ds Q} A h q => ?_⟩, fun ds => ?_⟩
  · unfold sumQ at q
    split at q
    · cases h with
      | cons h r =>
        cases r
        obtain ⟨p, vs, rfl, a, b⟩ := (topd_of h).list
        obtain ⟨ns, e, q⟩ := intsW_ok q
        exact ⟨p, ns, rfl, by rw [← intsOf_ok b e]; exact SqL.of a, q _ H (Same.refl H) (.int _)⟩
    · exact q.elim
  · unfold sumQ
    split
    · exact mono_bnd (mono_intsW _) fun _ => mono_ret _
    · exact mono_bad
theorem q_max (hc : X.calm = true) : CallQ X (.builtin "max") maxQ := by
  refine ⟨⟨_, (cr_max hc).or (call_max2 hc), fun {fr O σ ρ H vs ds Q} A h q => ?_⟩, mono_maxQ⟩
  unfold maxQ at q
  split at q
  · cases h with
    | cons h r =>
      cases r
      obtain ⟨p, vs, rfl, a, b⟩ := (topd_of h).list
      obtain ⟨ns, e, q1, q2⟩ := intsW_ok q
      exact .inl ⟨p, ns, rfl, by rw [← intsOf_ok b e]; exact SqL.of a, q1, fun m m1 m2 => q2 m m1 m2 _ H (Same.refl H) (.int _)⟩
  · cases h with
    | cons h r => cases r with
      | cons h2 r => cases r; cases (topd_of h).int; cases (topd_of h2).int; exact .inr ⟨_, _, rfl, q _ H (Same.refl H) (.int _)⟩
  · exact q.elim
theorem q_min (hc : X.calm = true) : CallQ X (.builtin "min") minQ := by
  refine ⟨⟨_, (cr_min hc).or (call_min2 hc), fun {fr O σ ρ H vs ds Q} A h q => ?_⟩, mono_minQ⟩
  unfold minQ at q
  split at q
  · cases h with
    | cons h r =>
      cases r
      obtain ⟨p, vs, rfl, a, b⟩ := (topd_of h).list
      obtain ⟨ns, e, q1, q2⟩ := intsW_ok q
      exact .inl ⟨p, ns, rfl, by rw [← intsOf_ok b e]; exact SqL.of a, q1, fun m m1 m2 => q2 m m1 m2 _ H (Same.refl H) (.int _)⟩
  · cases h with
    | cons h r => cases r with
      | cons h2 r => cases r; cases (topd_of h).int; cases (topd_of h2).int; exact .inr ⟨_, _, rfl, q _ H (Same.refl H) (.int _)⟩
  · exact q.elim
def intQ : List PyData → Wp PyData
  | [.int i] => ret (.int i)
  | [.bool b] => ret (.int (if b then 1 else 0))
  | _ => bad
def strQ : List PyData → Wp PyData
  | [.int i] => gd (i.natAbs.log2 < 1920) (.str (toString i))
  | _ => bad
theorem q_int : CallQ X (.type "int") intQ := by
  refine ⟨⟨_, call_int1, fun {fr O σ ρ H vs ds Q} A h q => ?_⟩, fun ds => ?_⟩
  · unfold intQ at q
    split at q
    · cases h with | cons h r => cases r; cases (topd_of h).int; exact .inl ⟨_, rfl, q _ H (Same.refl H) (.int _)⟩
    · cases h with | cons h r => cases r; cases (topd_of h).bool; exact .inr ⟨_, rfl, q _ H (Same.refl H) (.int _)⟩
    · exact q.elim
  · unfold intQ
    split <;> first | exact mono_ret _ | exact mono_bad
theorem q_str : CallQ X (.type "str") strQ := by
  refine ⟨⟨_, call_str_int, fun {fr O σ ρ H vs ds Q} A h q => ?_⟩, fun ds => ?_⟩
  · unfold strQ at q
    split at q
    · cases h with | cons h r => cases r; cases (topd_of h).int; exact ⟨_, rfl, q.1, q.2 _ H (Same.refl H) (.str _)⟩
    · exact q.elim
  · unfold strQ
    split <;> first | exact mono_gd _ | exact mono_bad
/-! x[i] -/
def atW {α : Type} (o : Option α) : Wp α := match o with
  | some a => ret a
  | none => bad
theorem mono_atW {α : Type} (o : Option α) : Mono (atW o) := by
  unfold atW
  split
  · exact mono_ret _
  · exact mono_bad
theorem atW_ok {α : Type} {o : Option α} {P : α → Prop} (h : atW o P) : ∃ a, o = some a ∧ P a := by
  cases o with
  | some a => exact ⟨a, rfl, h⟩
  | none => exact False.elim h
def ixQ : PyData → PyData → Wp PyData
  | .tuple ds, .int i => atW (atI ds i)
  | .list ds, .int i => atW (atI ds i)
  | .str x, .int i => bnd (atW (atI x.cps.toList i)) fun c => gd (x.length ≤ sizeLine) (.str ⟨#[c]⟩)
  | _, _ => bad
theorem dats_at {W : Addr → Prop} {H : Hp} {vs : List V} {ds : List PyData} {i : Int} {d : PyData} (h : Dats W H vs ds) (e : atI ds i = some d) : ∃ v, atI vs i = some v ∧ Dat W H v d := by
  unfold atI at e ⊢
  rw [h.length]
  cases z : ixN ds.length i with
  | none => rw [z] at e; cases e
  | some j =>
    rw [z] at e
    exact h.get e
theorem q_ix : IxQ X ixQ := by
  refine ⟨⟨_, ix_seq, fun {fr O σ ρ H x y d e Q} A hx hy q => ?_⟩, fun d e => ?_⟩
  · unfold ixQ at q
    split at q
    · obtain ⟨p, vs, rfl, a, b⟩ := hx.tup
      cases hy.int
      obtain ⟨d, e, q⟩ := atW_ok q
      obtain ⟨v, h1, h2⟩ := dats_at b e
      exact .inr (.inl ⟨p, vs, _, v, rfl, rfl, SqT.of a, h1, q v H (Same.refl H) h2⟩)
    · obtain ⟨p, vs, rfl, a, b⟩ := hx.list
      cases hy.int
      obtain ⟨d, e, q⟩ := atW_ok q
      obtain ⟨v, h1, h2⟩ := dats_at b e
      exact .inl ⟨p, vs, _, v, rfl, rfl, SqL.of a, h1, q v H (Same.refl H) h2⟩
    · cases hx.str
      cases hy.int
      obtain ⟨c, e, q1, q2⟩ := atW_ok q
      exact .inr (.inr ⟨_, _, c, rfl, rfl, q1, e, q2 _ H (Same.refl H) (.str _)⟩)
    · exact q.elim
  · unfold ixQ
    split
    · exact mono_atW _
    · exact mono_atW _
    · exact mono_bnd (mono_atW _) fun _ => mono_gd _
    · exact mono_bad
/-! x[lo:hi] -/
structure Part (X : Cx) (e : Option Expr) (f : Rho → Wp (Option Int)) : Prop where
  po : PO X e fun σ H Q => ∃ fr O ρ, At fr O σ ρ H ∧ f ρ fun o => ∀ H', Ex fr.pl H H' → Q o H'
  mo : ∀ ρ, Mono (f ρ)
def noPart : Rho → Wp (Option Int) := fun _ => ret none
def intOf : PyData → Wp (Option Int)
  | .int i => ret (some i)
  | _ => bad
theorem mono_intOf (d : PyData) : Mono (intOf d) := by
  unfold intOf
  split
  · exact mono_ret _
  · exact mono_bad
def aPart (f : Rho → Wp PyData) : Rho → Wp (Option Int) := fun ρ => bnd (f ρ) intOf
theorem p_none : Part X none noPart := ⟨⟨fun pins s σ H Q I ⟨fr, O, ρ, A, q⟩ => po_none.run pins s σ H Q I (q H A.refl)⟩, fun _ => mono_ret _⟩
theorem p_some {e : Expr} {f : Rho → Wp PyData} (h : E X false e f) : Part X (some e) (aPart f) := by
  refine ⟨⟨fun pins s σ H Q I ⟨fr, O, ρ, A, q⟩ => (po_some h.pe).run pins s σ H Q I ⟨fr, O, ρ, A, h.mo ρ _ _ (fun d k v H1 e1 g1 => ?_) q⟩⟩, fun ρ => mono_bnd (h.mo ρ) mono_intOf⟩
  unfold intOf at k
  split at k
  · cases (topd_of g1).int
    exact ⟨_, rfl, k H1 e1⟩
  · exact False.elim k
def cutD (ds : List PyData) (lo hi : Option Int) : List PyData := (ds.drop (HT.sIx ds.length 0 lo)).take (HT.sIx ds.length ds.length hi - HT.sIx ds.length 0 lo)
theorem Dats.cut {W : Addr → Prop} {H : Hp} {vs : List V} {ds : List PyData} (h : Dats W H vs ds) (lo hi : Option Int) : Dats W H (cutV vs lo hi) (cutD ds lo hi) := by
  unfold cutV cutD
  rw [h.length]
  exact (h.drop _).take _
def slQ (d : PyData) (lo hi : Option Int) : Wp PyData := match d with
  | .tuple ds => ret (.tuple (cutD ds lo hi))
  | .list ds => ret (.list (cutD ds lo hi))
  | .str x => gd (x.length ≤ sizeLine) (.str (cutS x lo hi))
  | _ => bad
theorem mono_slQ (d : PyData) (lo hi : Option Int) : Mono (slQ d lo hi) := by
  unfold slQ
  split <;> first | exact mono_ret _ | exact mono_gd _ | exact mono_bad
def eSl (f : Rho → Wp PyData) (l h : Rho → Wp (Option Int)) : Rho → Wp PyData := fun ρ => bnd (f ρ) fun d => bnd (l ρ) fun lo => bnd (h ρ) fun hi => slQ d lo hi
theorem whole_cut {ds : List PyData} {lo hi : Option Int} (h : HT.sIx ds.length 0 lo = 0 ∧ HT.sIx ds.length ds.length hi = ds.length) : cutD ds lo hi = ds := by
  unfold cutD
  rw [h.1, h.2]
  simp
theorem e_sl {g : Bool} {a : Expr} {lo hi : Option Expr} {p2 pos : Pos} {f : Rho → Wp PyData} {l h : Rho → Wp (Option Int)} (ha : E X false a f) (hl : Part X lo l) (hh : Part X hi h) : E X g (.Subscript a (.Slice lo hi none p2) pos) (eSl f l h) := by
  refine E.tr ⟨pe_imp (pe_slice (sl_tupA.or (sl_list.or sl_str)) ha.pe hl.po hh.po) fun σ H Q ⟨fr, O, ρ, A, q⟩ => ?_, fun ρ => mono_bnd (ha.mo ρ) fun _ => mono_bnd (hl.mo ρ) fun _ => mono_bnd (hh.mo ρ) fun _ => mono_slQ _ _ _⟩
  refine ⟨fr, O, ρ, A, ha.mo ρ _ _ (fun d k1 v H1 e1 g1 => ?_) q⟩
  have A1 := A.ex e1
  refine ⟨fr, O, ρ, A1, hl.mo ρ _ _ (fun lo k2 H2 e2 => ?_) k1⟩
  have A2 := A1.ex e2
  refine ⟨fr, O, ρ, A2, hh.mo ρ _ _ (fun hi k3 H3 e3 => ?_) k2⟩
  have A3 := A2.ex e3
  have g3 : TopD fr.U (Wd fr O) H3 v d := A2.gd (g := false) e3 (A1.gd (g := false) e2 g1)
  have e13 := (e1.trans e2).trans e3
  unfold slQ at k3
  split at k3
  · obtain ⟨p, vs, rfl, a, b⟩ := g3.tup
    refine .inl ⟨p, vs, rfl, SqT.of a, fun w => ?_, fun _ r n => ?_⟩
    · rw [b.length] at w
      have k := k3 (.ref p) H3 e13
      rw [whole_cut w] at k
      exact k (.tup a b)
    · exact k3 _ _ (e13.trans (A3.same (dat_new n))) (.tup upd_same ((b.cut lo hi).same (dat_new n)))
  · obtain ⟨p, vs, rfl, a, b⟩ := g3.list
    exact .inr (.inl ⟨p, vs, rfl, SqL.of a, fun r n => k3 _ _ (e13.trans (A3.same (dat_new n))) (.lst (wd_new A3 n) upd_same ((b.cut lo hi).same (dat_new n)))⟩)
  · cases g3.str
    exact .inr (.inr ⟨_, rfl, k3.1, k3.2 _ H3 e13 (.str _)⟩)
  · exact False.elim k3
/-! isinstance(x, T), type(x) is T -/
def tyD : PyData → String
  | .none => "NoneType"
  | .bool _ => "bool"
  | .int _ => "int"
  | .str _ => "str"
  | .list _ => "list"
  | .tuple _ => "tuple"
  | .dict _ => "dict"
theorem ty_of {U W : Addr → Prop} {H : Hp} {v : V} {d : PyData} (h : TopD U W H v d) (n : tyD d ≠ "dict") : Cf.TyN H v (tyD d) := by
  cases h with
  | of h => cases h with
    | non => rfl
    | bl _ => rfl
    | int _ => rfl
    | str _ => rfl
    | tup a _ => exact .inr (.inl ⟨rfl, _, a⟩)
    | lst _ a _ => exact .inl ⟨rfl, _, a⟩
    | dic _ _ _ => exact (n rfl).elim
    | dit _ _ _ => exact (n rfl).elim
  | lst _ a _ => exact .inl ⟨rfl, _, a⟩
  | dic _ _ _ => exact (n rfl).elim
  | dit _ _ _ => exact (n rfl).elim
/-- what isinstance says -/
def isiD (d : PyData) (T : String) : Option Bool := if tyD d = "dict" then none else kitB (tyD d) T
def eIsi (T : String) (f : Rho → Wp PyData) : Rho → Wp PyData := fun ρ => bnd (f ρ) fun d => bnd (atW (isiD d T)) fun b => ret (.bool b)
theorem e_isi {g : Bool} {T : Str} {T' : String} {e : Expr} {f : Rho → Wp PyData} {p p2 pos : Pos} (h : E X false e f) (h1 : X.mg "isinstance" = none) (h2 : X.mg T = none) (hT : bootBuiltins T = some (.type T') := by decide +kernel) (hg1 : Gl X "isinstance" := by rfl) (hg2 : Gl X T := by rfl) (hn : T ≠ "__name__" := by decide) (hd : (T == ("__debug__" : Str)) = false := by decide)
    (hs : starEach [e, .Name T p2] X.env = (false, eval e X.env) :: starEach [.Name T p2] X.env := by rfl) (hpl : (backTo pos (starEach [.Name T p2] X.env)).any (·.1) = false := by rfl) : E X g (.Call (.Name "isinstance" p) [e, .Name T p2] [] pos) (eIsi T' f) := by
  refine E.tr ⟨pe_imp (pe_callB call_isi hg1 h1 (by decide +kernel) (pa_cons h.pe (pa_cons (pe_bltn (v := .ty T') hg2 h2 hT rfl hn hd) pa_nil) hs) (by decide) (by decide) hs hpl) fun σ H Q ⟨fr, O, ρ, A, q⟩ => ?_, fun ρ => mono_bnd (h.mo ρ) fun _ => mono_bnd (mono_atW _) fun _ => mono_ret _⟩
  refine ⟨fr, O, ρ, A, h.mo ρ _ _ (fun d k v H1 e1 g1 => ?_) q⟩
  obtain ⟨b, hb, k⟩ := atW_ok k
  unfold isiD at hb
  split at hb
  · cases hb
  · rename_i n
    exact ⟨_, _, _, _, b, rfl, .ty _, Cf.tyx (ty_of g1 n), kit_ty hb, k _ H1 e1 (.bl b)⟩
/-- type(x) for the kinds of data -/
def rTy (K : PySem.W.Frag) : List V → Hp → VK → Prop := fun xs H Q => ∃ (x : V) (T : String), xs = [x] ∧ Cf.TyN H x T ∧ Q (.ty T) H
theorem call_ty : CallR X (.type "type") (rTy X.K) := by
  intro pins s σ H xs us Q I r h
  obtain ⟨x, T, rfl, t, q⟩ := h
  obtain ⟨u, rfl, rx⟩ := vals1 r
  have go : ∀ {S : String}, s.TypeIs u S → (Value.type S == Value.type "builtin_function_or_method") = false → T = S → wpAny (model X.prog X.w) X.A (call (.type "type") [u]) (EP X pins σ Q) X.xe s := fun h1 h2 e => by
    subst e
    exact PySem.call_type_of h1 h2 ⟨.ty T, H, I, rfl, q⟩
  cases x with
  | non => cases rx; exact go (show typeOf Value.none = pure (.type "NoneType") from rfl) (by decide +kernel) t
  | bl b => cases rx; exact go (show typeOf (Value.bool b) = pure (.type "bool") from rfl) (by decide +kernel) t
  | int i => obtain ⟨k, rfl⟩ := rx; exact go (typeIs_int s i k) (by decide +kernel) t
  | str z => obtain ⟨k, rfl⟩ := rx; exact go (typeIs_str s z k) (by decide +kernel) t
  | ref p =>
    cases rx
    rcases t with ⟨e, xs, h⟩ | ⟨e, xs, h⟩ | ⟨e, kvs, h⟩
    · obtain ⟨its, rv, p, _⟩ := I.list (.inl (.inl h))
      exact go p.isList.typeIs (by decide +kernel) e
    · obtain ⟨its, rv, p, _⟩ := I.tuple (.inl (.inl h))
      exact go p.typeIs (by decide +kernel) e
    · exact go (isD_at I (.inl ⟨kvs, .of h⟩)).1 (by decide +kernel) e
  | byt _ => exact (show False from t).elim
  | flt _ => exact (show False from t).elim
  | ty _ => exact (show False from t).elim
def tyQ (neg : Bool) (T : String) (d : PyData) : Wp PyData := gd (tyD d ≠ "dict") (.bool (if neg then !decide (tyD d = T) else decide (tyD d = T)))
def eTy (neg : Bool) (T : String) (f : Rho → Wp PyData) : Rho → Wp PyData := fun ρ => bnd (f ρ) (tyQ neg T)
section
variable {Z : Str} {T' : String} {e : Expr} {f : Rho → Wp PyData} {p p2 pos pos2 : Pos}
theorem ty_imp (mo : ∀ ρ, Mono (f ρ)) {σ : St} {H : Hp} {Q : VK} (q : teOf true (eTy false T' f) σ H Q) : tOp (fun x y H Q => ∃ m n, x = .ty m ∧ y = .ty n ∧ Q (.bl (decide (m = n))) H) (tCB (rTy X.K) (tCons (teOf false f) tNil)) (tC (.ty T')) σ H Q := by
  obtain ⟨fr, O, ρ, A, q⟩ := q
  refine ⟨fr, O, ρ, A, mo ρ _ _ (fun d k v H1 e1 g1 => ?_) q⟩
  exact ⟨v, tyD d, rfl, ty_of g1 k.1, _, _, rfl, rfl, k.2 _ H1 e1 (.bl _)⟩
theorem ty_impN (mo : ∀ ρ, Mono (f ρ)) {σ : St} {H : Hp} {Q : VK} (q : teOf true (eTy true T' f) σ H Q) : tOp (fun x y H Q => ∃ m n, x = .ty m ∧ y = .ty n ∧ Q (.bl (!decide (m = n))) H) (tCB (rTy X.K) (tCons (teOf false f) tNil)) (tC (.ty T')) σ H Q := by
  obtain ⟨fr, O, ρ, A, q⟩ := q
  refine ⟨fr, O, ρ, A, mo ρ _ _ (fun d k v H1 e1 g1 => ?_) q⟩
  exact ⟨v, tyD d, rfl, ty_of g1 k.1, _, _, rfl, rfl, k.2 _ H1 e1 (.bl _)⟩
theorem mono_eTy {neg : Bool} (mo : ∀ ρ, Mono (f ρ)) (ρ : Rho) : Mono (eTy neg T' f ρ) := mono_bnd (mo ρ) fun _ => mono_gd _
theorem t_ty (h : E X false e f) (h1 : X.mg "type" = none) (h2 : X.mg Z = none) (hT : bootBuiltins Z = some (.type T') := by decide +kernel) (hg1 : Gl X "type" := by rfl) (hg2 : Gl X Z := by rfl) (hn : Z ≠ "__name__" := by decide) (hd : (Z == ("__debug__" : Str)) = false := by decide)
    (hs : starEach [e] X.env = (false, eval e X.env) :: starEach [] X.env := by rfl) (hpl : (backTo pos2 (starEach [] X.env)).any (·.1) = false := by rfl) : T X (.Compare (.Call (.Name "type" p) [e] [] pos2) [.Is] [.Name Z p2] pos) (tT (eTy false T' f)) :=
  ⟨pt_imp (pt_cmpR op_isTy (pe_callTy call_ty hg1 h1 (by decide +kernel) (pa_cons h.pe pa_nil hs) (by decide) (by decide) hs hpl) (pe_bltn (v := .ty T') hg2 h2 hT rfl hn hd) (nomark _)) fun σ H Q q => tt_of (mono_eTy h.mo) (fun σ H Q q => ty_imp h.mo q) q, mono_tT (mono_eTy h.mo)⟩
theorem t_tyN (h : E X false e f) (h1 : X.mg "type" = none) (h2 : X.mg Z = none) (hT : bootBuiltins Z = some (.type T') := by decide +kernel) (hg1 : Gl X "type" := by rfl) (hg2 : Gl X Z := by rfl) (hn : Z ≠ "__name__" := by decide) (hd : (Z == ("__debug__" : Str)) = false := by decide)
    (hs : starEach [e] X.env = (false, eval e X.env) :: starEach [] X.env := by rfl) (hpl : (backTo pos2 (starEach [] X.env)).any (·.1) = false := by rfl) : T X (.Compare (.Call (.Name "type" p) [e] [] pos2) [.IsNot] [.Name Z p2] pos) (tT (eTy true T' f)) :=
  ⟨pt_imp (pt_cmpR op_isNotTy (pe_callTy call_ty hg1 h1 (by decide +kernel) (pa_cons h.pe pa_nil hs) (by decide) (by decide) hs hpl) (pe_bltn (v := .ty T') hg2 h2 hT rfl hn hd) (nomark _)) fun σ H Q q => tt_of (mono_eTy h.mo) (fun σ H Q q => ty_impN h.mo q) q, mono_tT (mono_eTy h.mo)⟩
theorem e_ty {g : Bool} (h : E X false e f) (h1 : X.mg "type" = none) (h2 : X.mg Z = none) (hT : bootBuiltins Z = some (.type T') := by decide +kernel) (hg1 : Gl X "type" := by rfl) (hg2 : Gl X Z := by rfl) (hn : Z ≠ "__name__" := by decide) (hd : (Z == ("__debug__" : Str)) = false := by decide)
    (hs : starEach [e] X.env = (false, eval e X.env) :: starEach [] X.env := by rfl) (hpl : (backTo pos2 (starEach [] X.env)).any (·.1) = false := by rfl) : E X g (.Compare (.Call (.Name "type" p) [e] [] pos2) [.Is] [.Name Z p2] pos) (eTy false T' f) :=
  E.tr ⟨pe_imp (pe_cmpR op_isTy (pe_callTy call_ty hg1 h1 (by decide +kernel) (pa_cons h.pe pa_nil hs) (by decide) (by decide) hs hpl) (pe_bltn (v := .ty T') hg2 h2 hT rfl hn hd) (nomark _)) fun σ H Q q => ty_imp h.mo q, mono_eTy h.mo⟩
end
end
end Lq
namespace Lq
open PySem L2
/-! ### dicts -/
mutual
/-- two keys are the same -/
def keqb : PyData → PyData → Bool
  | .int i, .int j => decide (i = j)
  | .str x, .str y => decide (x = y)
  | .tuple a, .tuple b => keqbs a b
  | _, _ => false
def keqbs : List PyData → List PyData → Bool
  | [], [] => true
  | a :: as, b :: bs => keqb a b && keqbs as bs
  | _, _ => false
end
def lookP (es : List (PyData × PyData)) (k : PyData) : Option PyData := (es.find? fun e => keqb e.1 k).map (·.2)
def putP (es : List (PyData × PyData)) (k d : PyData) : List (PyData × PyData) := if (es.any fun e => keqb e.1 k) = true then es.map (fun e => if keqb e.1 k = true then (e.1, d) else e) else es ++ [(k, d)]
theorem keqb_k (a b : Key) : keqb (kD a) (kD b) = decide (a = b) := by
  cases a <;> cases b <;> simp [kD, keqb]
theorem keqb_t : ∀ a b : List Key, keqbs (a.map kD) (b.map kD) = decide (a = b)
  | [], [] => by simp [keqbs]
  | [], _ :: _ => by simp [keqbs]
  | _ :: _, [] => by simp [keqbs]
  | a :: as, b :: bs => by simp [keqbs, keqb_k, keqb_t as bs]
theorem keqb_tt (a b : List Key) : keqb (.tuple (a.map kD)) (.tuple (b.map kD)) = decide (a = b) := by
  rw [← keqb_t]
  simp [keqb]
section
variable {W : Addr → Prop} {H : Hp}
theorem look_k {kvs : List (Key × V)} {es : List (PyData × PyData)} (h : DatK W H kvs es) (k : Key) : (valV kvs k = none ∧ lookP es (kD k) = none) ∨ ∃ v d, valV kvs k = some v ∧ lookP es (kD k) = some d ∧ Dat W H v d := by
  match h with
  | .nil => exact .inl ⟨rfl, rfl⟩
  | .cons (k := a) (v := v) (d := d) (vs := vs) (ds := ds) h r =>
    by_cases e : a = k
    · subst e
      exact .inr ⟨v, d, by simp [valV], by simp [lookP, keqb_k], h⟩
    · have ih := look_k r k
      have e1 : valV ((a, v) :: vs) k = valV vs k := by simp [valV, e]
      have e2 : lookP ((kD a, d) :: ds) (kD k) = lookP ds (kD k) := by simp [lookP, keqb_k, e]
      rw [e1, e2]
      exact ih
theorem look_t {kvs : List (List Key × V)} {es : List (PyData × PyData)} (h : DatT W H kvs es) (k : List Key) : (valV kvs k = none ∧ lookP es (.tuple (k.map kD)) = none) ∨ ∃ v d, valV kvs k = some v ∧ lookP es (.tuple (k.map kD)) = some d ∧ Dat W H v d := by
  match h with
  | .nil => exact .inl ⟨rfl, rfl⟩
  | .cons (k := a) (v := v) (d := d) (vs := vs) (ds := ds) h r =>
    by_cases e : a = k
    · subst e
      exact .inr ⟨v, d, by simp [valV], by simp [lookP, keqb_tt], h⟩
    · have ih := look_t r k
      have e1 : valV ((a, v) :: vs) k = valV vs k := by simp [valV, e]
      have e2 : lookP ((PyData.tuple (a.map kD), d) :: ds) (.tuple (k.map kD)) = lookP ds (.tuple (k.map kD)) := by simp [lookP, keqb_tt, e]
      rw [e1, e2]
      exact ih
theorem any_k (k : Key) : ∀ {kvs : List (Key × V)} {es : List (PyData × PyData)}, DatK W H kvs es → (kvs.any fun kv => decide (kv.1 = k)) = es.any fun e => keqb e.1 (kD k)
  | _, _, .nil => rfl
  | _, _, .cons (k := a) h r => by rw [List.any_cons, List.any_cons, any_k k r, keqb_k]
theorem map_k {k : Key} {v : V} {d : PyData} (hd : Dat W H v d) : ∀ {kvs : List (Key × V)} {es : List (PyData × PyData)}, DatK W H kvs es → DatK W H (kvs.map fun kv => if kv.1 = k then (kv.1, v) else kv) (es.map fun e => if keqb e.1 (kD k) = true then (e.1, d) else e)
  | _, _, .nil => .nil
  | _, _, .cons (k := a) (v := u) (d := e) h r => by
    rw [List.map_cons, List.map_cons, keqb_k]
    by_cases z : a = k
    · rw [if_pos z, if_pos (by simp [z])]
      exact .cons hd (map_k hd r)
    · rw [if_neg z, if_neg (by simp [z])]
      exact .cons h (map_k hd r)
theorem snoc_k {k : Key} {v : V} {d : PyData} (hd : Dat W H v d) : ∀ {kvs : List (Key × V)} {es : List (PyData × PyData)}, DatK W H kvs es → DatK W H (kvs ++ [(k, v)]) (es ++ [(kD k, d)])
  | _, _, .nil => .cons hd .nil
  | _, _, .cons h r => .cons h (snoc_k hd r)
theorem put_k {kvs : List (Key × V)} {es : List (PyData × PyData)} {k : Key} {v : V} {d : PyData} (h : DatK W H kvs es) (hd : Dat W H v d) : DatK W H (putK kvs k v) (putP es (kD k) d) := by
  unfold putK putP
  rw [any_k k h]
  split
  · exact map_k hd h
  · exact snoc_k hd h
theorem any_t (k : List Key) : ∀ {kvs : List (List Key × V)} {es : List (PyData × PyData)}, DatT W H kvs es → (kvs.any fun kv => decide (kv.1 = k)) = es.any fun e => keqb e.1 (.tuple (k.map kD))
  | _, _, .nil => rfl
  | _, _, .cons (k := a) h r => by rw [List.any_cons, List.any_cons, any_t k r, keqb_tt]
theorem map_t {k : List Key} {v : V} {d : PyData} (hd : Dat W H v d) : ∀ {kvs : List (List Key × V)} {es : List (PyData × PyData)}, DatT W H kvs es → DatT W H (kvs.map fun kv => if kv.1 = k then (kv.1, v) else kv) (es.map fun e => if keqb e.1 (.tuple (k.map kD)) = true then (e.1, d) else e)
  | _, _, .nil => .nil
  | _, _, .cons (k := a) (v := u) (d := e) h r => by
    rw [List.map_cons, List.map_cons, keqb_tt]
    by_cases z : a = k
    · rw [if_pos z, if_pos (by simp [z])]
      exact .cons hd (map_t hd r)
    · rw [if_neg z, if_neg (by simp [z])]
      exact .cons h (map_t hd r)
theorem snoc_t {k : List Key} {v : V} {d : PyData} (hd : Dat W H v d) : ∀ {kvs : List (List Key × V)} {es : List (PyData × PyData)}, DatT W H kvs es → DatT W H (kvs ++ [(k, v)]) (es ++ [(.tuple (k.map kD), d)])
  | _, _, .nil => .cons hd .nil
  | _, _, .cons h r => .cons h (snoc_t hd r)
theorem put_t {kvs : List (List Key × V)} {es : List (PyData × PyData)} {k : List Key} {v : V} {d : PyData} (h : DatT W H kvs es) (hd : Dat W H v d) : DatT W H (putK kvs k v) (putP es (.tuple (k.map kD)) d) := by
  unfold putK putP
  rw [any_t k h]
  split
  · exact map_t hd h
  · exact snoc_t hd h
end
/-- a key that is an int or a text -/
def keyP : PyData → Option Key
  | .int i => some (.inl i)
  | .str x => some (.inr x)
  | _ => none
def keysP : List PyData → Option (List Key)
  | [] => some []
  | d :: ds => match keyP d, keysP ds with
    | some k, some ks => some (k :: ks)
    | _, _ => none
theorem keyP_ok {d : PyData} {k : Key} (h : keyP d = some k) : d = kD k := by
  cases d <;> cases h <;> rfl
theorem keysP_ok : ∀ {ds : List PyData} {ks : List Key}, keysP ds = some ks → ds = ks.map kD
  | [], ks, h => by cases h; rfl
  | d :: ds, ks, h => by
    unfold keysP at h
    split at h
    · rename_i a b
      cases h
      rw [keyP_ok a, keysP_ok b]
      rfl
    · cases h
theorem key_at {U W : Addr → Prop} {H : Hp} {v : V} {k : Key} (h : TopD U W H v (kD k)) : v = kV k := by
  cases k with
  | inl i => exact h.int
  | inr x => exact h.str
theorem keys_at {W : Addr → Prop} {H : Hp} : ∀ {ks : List Key} {vs : List V}, Dats W H vs (ks.map kD) → vs = ks.map kV
  | [], _, h => by cases h; rfl
  | k :: ks, _, h => by
    cases h with
    | cons h r => rw [keys_at r, key_at (U := W) (W := W) (.of h)]; rfl
/-- its keys are tuples -/
def marked : List (PyData × PyData) → Bool
  | (.none, _) :: _ => true
  | _ => false
def dgT (es : List (PyData × PyData)) : PyData → Wp (Option PyData)
  | .tuple ks => gd (keysP ks ≠ none) (lookP es (.tuple ks))
  | _ => bad
theorem mono_dgT (es : List (PyData × PyData)) : ∀ d, Mono (dgT es d)
  | .tuple _ => mono_gd _
  | .none | .bool _ | .int _ | .str _ | .list _ | .dict _ => mono_bad
/-- what a dict holds at a key -/
def dgetW : PyData → PyData → Wp (Option PyData)
  | .dict es, k => if marked es = true then dgT es.tail k else gd (keyP k ≠ none) (lookP es k)
  | _, _ => bad
theorem mono_dgetW (d k : PyData) : Mono (dgetW d k) := by
  unfold dgetW
  split
  · exact ite_mono (mono_dgT _ _) (mono_gd _)
  · exact mono_bad
theorem dgT_ok {es : List (PyData × PyData)} {d : PyData} {P : Option PyData → Prop} (q : dgT es d P) : ∃ ks, d = .tuple ks ∧ keysP ks ≠ none ∧ P (lookP es d) := by
  cases d with
  | tuple ks => exact ⟨ks, rfl, q⟩
  | none => exact False.elim q
  | bool _ => exact False.elim q
  | int _ => exact False.elim q
  | str _ => exact False.elim q
  | list _ => exact False.elim q
  | dict _ => exact False.elim q
theorem datK_marked {W : Addr → Prop} {H : Hp} {kvs : List (Key × V)} {es : List (PyData × PyData)} (h : DatK W H kvs es) : marked es = false := by
  cases h with
  | nil => rfl
  | @cons k _ _ _ _ _ _ => cases k <;> rfl
theorem dget_ok {U W : Addr → Prop} {H : Hp} {x y : V} {d k : PyData} {P : Option PyData → Prop} (hx : TopD U W H x d) (hy : TopD U W H y k) (q : dgetW d k P) : ∃ a o, x = .ref a ∧ DGet H a y o ∧ ((o = none ∧ P none) ∨ ∃ v e, o = some v ∧ Dat W H v e ∧ P (some e)) := by
  cases d with
  | dict es =>
    obtain ⟨p, rfl, hh⟩ := hx.dict
    rcases hh with ⟨kvs, a, b⟩ | ⟨kvs, fs, rfl, a, b⟩
    · have q : (if marked es = true then dgT es.tail k else gd (keyP k ≠ none) (lookP es k)) P := q
      rw [datK_marked b, if_neg Bool.false_ne_true] at q
      obtain ⟨q1, q2⟩ := q
      cases z : keyP k with
      | none => exact absurd z q1
      | some j =>
        have e := keyP_ok z
        subst e
        rw [key_at hy]
        refine ⟨p, _, rfl, DGet.k a, ?_⟩
        rcases look_k b j with ⟨h1, h2⟩ | ⟨v, e, h1, h2, h3⟩
        · rw [h2] at q2
          exact .inl ⟨h1, q2⟩
        · rw [h2] at q2
          exact .inr ⟨v, e, h1, h3, q2⟩
    · have q : dgT fs k P := q
      obtain ⟨ks, rfl, q1, q2⟩ := dgT_ok q
      cases z : keysP ks with
      | none => exact absurd z q1
      | some j =>
        have e := keysP_ok z
        subst e
        obtain ⟨p2, vs, rfl, a2, b2⟩ := hy.tup
        rw [keys_at b2] at a2
        refine ⟨p, _, rfl, DGet.t a a2, ?_⟩
        rcases look_t b j with ⟨h1, h2⟩ | ⟨v, e, h1, h2, h3⟩
        · rw [h2] at q2
          exact .inl ⟨h1, q2⟩
        · rw [h2] at q2
          exact .inr ⟨v, e, h1, h3, q2⟩
  | none => exact False.elim q
  | bool _ => exact False.elim q
  | int _ => exact False.elim q
  | str _ => exact False.elim q
  | list _ => exact False.elim q
  | tuple _ => exact False.elim q
theorem isD_of {U W : Addr → Prop} {H : Hp} {x : V} {d : PyData} (hx : TopD U W H x d) (h : tyD d = "dict") : ∃ a, x = .ref a ∧ IsD H a := by
  cases d with
  | dict es =>
    obtain ⟨p, rfl, hh⟩ := hx.dict
    rcases hh with ⟨kvs, a, _⟩ | ⟨kvs, fs, _, a, _⟩
    · exact ⟨p, rfl, .inl ⟨kvs, .of a⟩⟩
    · exact ⟨p, rfl, .inr ⟨kvs, .of a⟩⟩
  | none => simp [tyD] at h
  | bool _ => simp [tyD] at h
  | int _ => simp [tyD] at h
  | str _ => simp [tyD] at h
  | list _ => simp [tyD] at h
  | tuple _ => simp [tyD] at h
section
variable {X : Cx} {o i e c : Expr} {fo fi fe : Rho → Wp PyData} {pos apos cpos : Pos}
/-- d.get(k) -/
def eGet1 (fo fi : Rho → Wp PyData) : Rho → Wp PyData := fun ρ => bnd (fo ρ) fun d => bnd (gd (tyD d = "dict") ()) fun _ => bnd (fi ρ) fun k => bnd (dgetW d k) fun r => ret (r.getD .none)
theorem e_get1 {g : Bool} (hu : X.A.units + 1 < cLine) (ho : E X false o fo) (hi : E X false i fi) (m : M1 X o "get" apos i cpos := by exact ⟨rfl, rfl, rfl, rfl⟩) : E X g (.Call (.Attribute o "get" apos) [i] [] cpos) (eGet1 fo fi) := by
  refine E.tr ⟨pe_imp (pe_dget1 hu ho.pe hi.pe m) fun σ H Q ⟨fr, O, ρ, A, q⟩ => ?_, fun ρ => mono_bnd (ho.mo ρ) fun _ => mono_bnd (mono_gd _) fun _ => mono_bnd (hi.mo ρ) fun _ => mono_bnd (mono_dgetW _ _) fun _ => mono_ret _⟩
  refine ⟨fr, O, ρ, A, ho.mo ρ _ _ (fun d k1 x H1 e1 g1 => ?_) q⟩
  have A1 := A.ex e1
  obtain ⟨a, rfl, isd⟩ := isD_of (topd_of g1) k1.1
  refine ⟨a, rfl, isd, fr, O, ρ, A1, hi.mo ρ _ _ (fun k k2 y H2 e2 g2 => ?_) k1.2⟩
  obtain ⟨a', r, e, g, k3⟩ := dget_ok (A1.gd (g := false) e2 g1) (topd_of g2) k2
  cases e
  refine ⟨r, g, ?_⟩
  rcases k3 with ⟨rfl, k3⟩ | ⟨v, e, rfl, hv, k3⟩
  · exact k3 _ H2 (e1.trans e2) .non
  · exact k3 _ H2 (e1.trans e2) hv
/-- d.get(k, x) -/
def eGet2 (fo fi fe : Rho → Wp PyData) : Rho → Wp PyData := fun ρ => bnd (fo ρ) fun d => bnd (gd (tyD d = "dict") ()) fun _ => bnd (fi ρ) fun k => bnd (fe ρ) fun x => bnd (dgetW d k) fun r => ret (r.getD x)
theorem e_get2 {g : Bool} (hu : X.A.units + 1 < cLine) (ho : E X false o fo) (hi : E X false i fi) (he : E X true e fe) (m : M2 X o "get" apos i e cpos := by exact ⟨rfl, rfl, rfl, rfl⟩) : E X g (.Call (.Attribute o "get" apos) [i, e] [] cpos) (eGet2 fo fi fe) := by
  refine E.tr ⟨pe_imp (pe_dget2 hu ho.pe hi.pe he.pe m) fun σ H Q ⟨fr, O, ρ, A, q⟩ => ?_, fun ρ => mono_bnd (ho.mo ρ) fun _ => mono_bnd (mono_gd _) fun _ => mono_bnd (hi.mo ρ) fun _ => mono_bnd (he.mo ρ) fun _ => mono_bnd (mono_dgetW _ _) fun _ => mono_ret _⟩
  refine ⟨fr, O, ρ, A, ho.mo ρ _ _ (fun d k1 x H1 e1 g1 => ?_) q⟩
  have A1 := A.ex e1
  obtain ⟨a, rfl, isd⟩ := isD_of (topd_of g1) k1.1
  refine ⟨a, rfl, isd, fr, O, ρ, A1, hi.mo ρ _ _ (fun k k2 y H2 e2 g2 => ?_) k1.2⟩
  have A2 := A1.ex e2
  refine ⟨fr, O, ρ, A2, he.mo ρ _ _ (fun x k3 z H3 e3 g3 => ?_) k2⟩
  obtain ⟨a', r, e, g, k4⟩ := dget_ok (A2.gd (g := false) e3 (A1.gd (g := false) e2 g1)) (A2.gd (g := false) e3 g2) k3
  cases e
  refine ⟨r, g, ?_⟩
  rcases k4 with ⟨rfl, k4⟩ | ⟨v, e, rfl, hv, k4⟩
  · exact k4 _ H3 ((e1.trans e2).trans e3) g3
  · exact k4 _ H3 ((e1.trans e2).trans e3) hv
/-- d[k] -/
def eDget (fo fi : Rho → Wp PyData) : Rho → Wp PyData := fun ρ => bnd (fo ρ) fun d => bnd (fi ρ) fun k => bnd (dgetW d k) atW
theorem e_dget {g : Bool} (hu : X.A.units + 1 < cLine) (ho : E X false o fo) (hi : E X false i fi) (hs : NoSl i := by exact fun _ _ => rfl) : E X g (.Subscript o i pos) (eDget fo fi) := by
  refine E.tr ⟨pe_imp (pe_dget hu ho.pe hi.pe hs) fun σ H Q ⟨fr, O, ρ, A, q⟩ => ?_, fun ρ => mono_bnd (ho.mo ρ) fun _ => mono_bnd (hi.mo ρ) fun _ => mono_bnd (mono_dgetW _ _) fun _ => mono_atW _⟩
  refine ⟨fr, O, ρ, A, ho.mo ρ _ _ (fun d k1 x H1 e1 g1 => ?_) q⟩
  have A1 := A.ex e1
  refine ⟨fr, O, ρ, A1, hi.mo ρ _ _ (fun k k2 y H2 e2 g2 => ?_) k1⟩
  obtain ⟨a, r, rfl, g, k3⟩ := dget_ok (A1.gd (g := false) e2 g1) (topd_of g2) k2
  rcases k3 with ⟨rfl, k3⟩ | ⟨v, e, rfl, hv, k3⟩
  · exact False.elim k3
  · exact ⟨a, v, rfl, g, k3 _ H2 (e1.trans e2) hv⟩
/-- k in d -/
def eDin (neg : Bool) (fi fo : Rho → Wp PyData) : Rho → Wp PyData := fun ρ => bnd (fi ρ) fun k => bnd (fo ρ) fun d => bnd (dgetW d k) fun r => ret (.bool (if neg then !r.isSome else r.isSome))
theorem din_imp {neg : Bool} (mi : ∀ ρ, Mono (fi ρ)) (mo : ∀ ρ, Mono (fo ρ)) {σ : St} {H : Hp} {Q : VK} (q : teOf true (eDin neg fi fo) σ H Q) :
    teOf false fi σ H fun y H1 => teOf false fo σ H1 fun x H2 => ∃ a o, x = .ref a ∧ DGet H2 a y o ∧ Q (.bl (if neg then !o.isSome else o.isSome)) H2 := by
  obtain ⟨fr, O, ρ, A, q⟩ := q
  refine ⟨fr, O, ρ, A, mi ρ _ _ (fun k k1 y H1 e1 g1 => ?_) q⟩
  have A1 := A.ex e1
  refine ⟨fr, O, ρ, A1, mo ρ _ _ (fun d k2 x H2 e2 g2 => ?_) k1⟩
  obtain ⟨a, r, rfl, g, k3⟩ := dget_ok (topd_of g2) (A1.gd (g := false) e2 g1) k2
  refine ⟨a, r, rfl, g, ?_⟩
  rcases k3 with ⟨rfl, k3⟩ | ⟨v, e, rfl, hv, k3⟩
  · exact k3 _ H2 (e1.trans e2) (.bl _)
  · exact k3 _ H2 (e1.trans e2) (.bl _)
theorem mono_eDin {neg : Bool} (mi : ∀ ρ, Mono (fi ρ)) (mo : ∀ ρ, Mono (fo ρ)) (ρ : Rho) : Mono (eDin neg fi fo ρ) := mono_bnd (mi ρ) fun _ => mono_bnd (mo ρ) fun _ => mono_bnd (mono_dgetW _ _) fun _ => mono_ret _
theorem tB_of {t : TE} {f : Rho → Wp PyData} (mo : ∀ ρ, Mono (f ρ)) (h : ∀ σ H Q, teOf true f σ H Q → t σ H Q) {σ : St} {H : Hp} {Q : Bool → Hp → Prop} (q : ttOf (tT f) σ H Q) : tB t σ H Q := tt_of mo h q
theorem t_din (hu : X.A.units + 1 < cLine) (hi : E X false i fi) (ho : E X false o fo) (hb : behindInMarks .In o = false := by first | rfl | with_unfolding_all rfl) : T X (.Compare i [.In] [o] pos) (tT (eDin false fi fo)) :=
  ⟨pt_imp (pt_cmp (pc_din hu hi.pe ho.pe) hb) fun σ H Q q => tB_of (mono_eDin hi.mo ho.mo) (fun σ H Q q => din_imp hi.mo ho.mo q) q, mono_tT (mono_eDin hi.mo ho.mo)⟩
theorem t_dnotin (hu : X.A.units + 1 < cLine) (hi : E X false i fi) (ho : E X false o fo) (hb : behindInMarks .NotIn o = false := by first | rfl | with_unfolding_all rfl) : T X (.Compare i [.NotIn] [o] pos) (tT (eDin true fi fo)) :=
  ⟨pt_imp (pt_cmp (pc_dnotin hu hi.pe ho.pe) hb) fun σ H Q q => tB_of (mono_eDin hi.mo ho.mo) (fun σ H Q q => din_imp hi.mo ho.mo q) q, mono_tT (mono_eDin hi.mo ho.mo)⟩
theorem e_din {g : Bool} (hu : X.A.units + 1 < cLine) (hi : E X false i fi) (ho : E X false o fo) (hb : behindInMarks .In o = false := by first | rfl | with_unfolding_all rfl) : E X g (.Compare i [.In] [o] pos) (eDin false fi fo) :=
  E.tr ⟨pe_imp (pe_cmp (pc_din hu hi.pe ho.pe) hb) fun σ H Q q => din_imp hi.mo ho.mo q, mono_eDin hi.mo ho.mo⟩
end
/-! dicts of the def's own -/
def slD : Option Sl → Wp (List (PyData × PyData))
  | some (.dic es) => ret es
  | _ => bad
theorem mono_slD : ∀ o, Mono (slD o)
  | some (.dic _) => mono_ret _
  | none | some .un | some .pool | some (.lst _) | some (.dit _) | some (.val _) => mono_bad
def slDT : Option Sl → Wp (List (PyData × PyData))
  | some (.dit es) => ret es
  | _ => bad
theorem mono_slDT : ∀ o, Mono (slDT o)
  | some (.dit _) => mono_ret _
  | none | some .un | some .pool | some (.lst _) | some (.dic _) | some (.val _) => mono_bad
theorem At.dicO {fr : Fr} {O : List (Option Addr)} {σ : St} {ρ : Rho} {H : Hp} (A : At fr O σ ρ H) {i : Nat} {P : List (PyData × PyData) → Prop} (q : slD ρ[i]? P) : ∃ p vs es, ρ[i]? = some (.dic es) ∧ O[i]? = some (some p) ∧ σ[i]? = some (some (.ref p)) ∧ H p = some (.dK vs) ∧ DatK (Wd fr O) H vs es ∧ P es := by
  cases h : ρ[i]? with
  | none => rw [h] at q; exact False.elim q
  | some s =>
    rw [h] at q
    obtain ⟨o, x, h1, h2, h3⟩ := A.sl.get h
    cases h3 with
    | val _ => exact False.elim q
    | un => exact False.elim q
    | pool _ => exact False.elim q
    | lst _ _ => exact False.elim q
    | dit _ _ => exact False.elim q
    | dic a b => exact ⟨_, _, _, rfl, h1, h2, a, b, q⟩
theorem At.ditO {fr : Fr} {O : List (Option Addr)} {σ : St} {ρ : Rho} {H : Hp} (A : At fr O σ ρ H) {i : Nat} {P : List (PyData × PyData) → Prop} (q : slDT ρ[i]? P) : ∃ p vs es, ρ[i]? = some (.dit es) ∧ O[i]? = some (some p) ∧ σ[i]? = some (some (.ref p)) ∧ H p = some (.dT vs) ∧ DatT (Wd fr O) H vs es ∧ P es := by
  cases h : ρ[i]? with
  | none => rw [h] at q; exact False.elim q
  | some s =>
    rw [h] at q
    obtain ⟨o, x, h1, h2, h3⟩ := A.sl.get h
    cases h3 with
    | val _ => exact False.elim q
    | un => exact False.elim q
    | pool _ => exact False.elim q
    | lst _ _ => exact False.elim q
    | dic _ _ => exact False.elim q
    | dit a b => exact ⟨_, _, _, rfl, h1, h2, a, b, q⟩
section
variable {fr : Fr} {O : List (Option Addr)} {σ : St} {ρ : Rho} {H H' : Hp}
/-- slot i takes a new thing of its own -/
theorem At.setOwn (A : At fr O σ ρ H) (i : Nat) {p : Addr} {s : Sl} (n : H p = none) (e : Ex fr.pl H H') (h2 : SlotAt (fun b => Wd fr O b ∨ b = p) fr.pl H' (some p) (some (.ref p)) s) : At fr (O.set i (some p)) (σ.set i (some (.ref p))) (ρ.set i s) H' := by
  have A1 := A.ex e
  have sub : ∀ q, some q ∈ O.set i (some p) → some q ∈ O ∨ q = p := fun q m => (List.mem_or_eq_of_mem_set m).imp id fun z => Option.some.inj z
  have hw : ∀ q, Wd fr (O.set i (some p)) q → Wd fr O q ∨ q = p := fun q z => z.elim (fun z => .inl (.inl z)) fun m => (sub q m).imp .inr id
  have pn : some p ∉ O := fun m => A.wd (.inr m) n
  have hw' : ∀ q, ¬ (Wd fr O q ∨ q = p) → H' q ≠ none → ¬ Wd fr (O.set i (some p)) q := fun q m _ z => m (hw q z)
  have s2 : SlotAt (Wd fr (O.set i (some p))) fr.pl H' (some p) (some (.ref p)) s := by
    cases h2 with
    | lst a b => exact .lst a (b.to hw' (fun _ _ => id) fun _ _ _ => id)
    | dic a b => exact .dic a (b.to hw' (fun _ _ => id) fun _ _ _ => id)
    | dit a b => exact .dit a (b.to hw' (fun _ _ => id) fun _ _ _ => id)
  have s3 : ∃ o, H' p = some o ∧ ∀ vs, o ≠ .tup vs := by
    cases h2 with
    | lst a b => exact ⟨_, a, by intro vs z; cases z⟩
    | dic a b => exact ⟨_, a, by intro vs z; cases z⟩
    | dit a b => exact ⟨_, a, by intro vs z; cases z⟩
  refine ⟨Slots.set s2 i (A.sl.to (fun q m hq z => (hw q z).elim m fun z => hq (by rw [z]; exact n)) (A.via (b := false) e).1 (A.via (b := false) e).2 fun q o m h => e.keep q o (fun a c z => ((A.own q m).2.1 a c z).1) h), A1.keep, A1.pool, fun q m => ?_, fun j k q hj hk => ?_, A.up, A1.st⟩
  · rcases sub q m with m | rfl
    · exact A1.own q m
    · refine ⟨⟨fun u => A.wd (.inl u) n, .inr ?_⟩, fun a c z => ?_, s3⟩
      · cases z : fr.H0 q with
        | none => rfl
        | some o => exact absurd n (A.st q (by rw [z]; exact Option.some_ne_none _))
      · obtain ⟨g1, g2⟩ := pool_two (A.pool a c z).1
        exact ⟨fun z => g1 (by rw [← z]; exact n), fun z => g2 (by rw [← z]; exact n)⟩
  · rw [List.getElem?_set] at hj hk
    split at hj <;> split at hk
    · subst_vars; rfl
    · split at hj
      · cases hj
        exact absurd (List.mem_of_getElem? hk) pn
      · cases hj
    · split at hk
      · cases hk
        exact absurd (List.mem_of_getElem? hj) pn
      · cases hk
    · exact A.nd j k q hj hk
end
section
variable {X : Cx} {x : Str} {px pos spos apos : Pos} {e k : Expr} {fe fk : Rho → Wp PyData} {i : Nat}
def sDnew (i : Nat) : Rho → Wp Out := fun ρ => ret (.nx (ρ.set i (.dic [])))
def sDnewT (i : Nat) : Rho → Wp Out := fun ρ => ret (.nx (ρ.set i (.dit [])))
theorem s_dnew (i : Nat) (hN : X.N.Nodup) (hi : X.N[i]? = some x := by rfl) (hx : Loc X.env.scope x := by first | exact Or.inl rfl | exact Or.inr rfl) (hs : swapsWith (.Dict [] [] spos) (some (.Name x px)) pos.line X.env = pure false := by rfl) (hf : X.fn x = true ∨ X.env.scope.names.lookup x = some .local := by first | exact .inl rfl | exact .inr rfl) :
    S X (.Assign [.Name x px] (.Dict [] [] spos) pos) (sDnew i) := by
  refine ⟨ps_imp (ps_set (i := i) hN hi hx pe_dnewK hs hf) fun D σ H ⟨fr, O, ρ, A, q⟩ => ?_, fun ρ => mono_ret _⟩
  exact fun p n => q _ _ _ (A.setOwn i n (Ex.new A n) (.dic upd_same .nil))
theorem s_dnewT (i : Nat) (hN : X.N.Nodup) (hi : X.N[i]? = some x := by rfl) (hx : Loc X.env.scope x := by first | exact Or.inl rfl | exact Or.inr rfl) (hs : swapsWith (.Dict [] [] spos) (some (.Name x px)) pos.line X.env = pure false := by rfl) (hf : X.fn x = true ∨ X.env.scope.names.lookup x = some .local := by first | exact .inl rfl | exact .inr rfl) :
    S X (.Assign [.Name x px] (.Dict [] [] spos) pos) (sDnewT i) := by
  refine ⟨ps_imp (ps_set (i := i) hN hi hx pe_dnewT hs hf) fun D σ H ⟨fr, O, ρ, A, q⟩ => ?_, fun ρ => mono_ret _⟩
  exact fun p n => q _ _ _ (A.setOwn i n (Ex.new A n) (.dit upd_same .nil))
/-- name[k] = e, a dict of the def's own -/
def sPut (i : Nat) (fk fe : Rho → Wp PyData) : Rho → Wp Out := fun ρ => bnd (fe ρ) fun z => bnd (slD ρ[i]?) fun es => bnd (fk ρ) fun y => gd (es.length < sizeLine ∧ keyP y ≠ none) (.nx (ρ.set i (.dic (putP es y z))))
theorem s_put (i : Nat) (hu : X.A.units + 1 < cLine) (he : E X true e fe) (hk : E X true k fk) (hN : X.N[i]? = some x := by rfl) (hv : Vis X.env.scope x := by first | exact Or.inl rfl | exact Or.inr (Or.inl rfl) | exact Or.inr (Or.inr rfl)) (hd : (x == ("__debug__" : Str)) = false := by decide) (hcd : (x == ("__classdict__" : Str)) = false := by decide)
    (hs : swapsWith e (some (.Subscript (.Name x px) k apos)) pos.line X.env = pure false := by rfl) : S X (.Assign [.Subscript (.Name x px) k apos] e pos) (sPut i fk fe) := by
  refine ⟨ps_imp (ps_dput hu (pe_var hN hv hd hcd) hk.pe he.pe hs) fun D σ H ⟨fr, O, ρ, A, q⟩ => ?_, fun ρ => mono_bnd (he.mo ρ) fun _ => mono_bnd (mono_slD _) fun _ => mono_bnd (hk.mo ρ) fun _ => mono_gd _⟩
  refine ⟨fr, O, ρ, A, he.mo ρ _ _ (fun z k1 v H1 e1 g1 => ?_) q⟩
  have A1 := A.ex e1
  obtain ⟨p, vs, es, h1, h2, h3, h4, h5, k1⟩ := A1.dicO k1
  refine ⟨_, h3, fr, O, ρ, A1, hk.mo ρ _ _ (fun y k2 u H2 e2 g2 => ?_) k1⟩
  have A2 := A1.ex e2
  obtain ⟨p', vs', es', f1, f2, f3, f4, f5, _⟩ := A2.dicO (i := i) (P := fun _ => True) (by rw [h1]; trivial)
  cases h1.symm.trans f1
  cases h3.symm.trans f3
  obtain ⟨⟨k3, k4⟩, k5⟩ := k2
  cases zz : keyP y with
  | none => exact absurd zz k4
  | some j =>
    have ey := keyP_ok zz
    subst ey
    rw [key_at (U := fun _ => False) (W := Wd fr O) (.of (show Dat (Wd fr O) H2 u (kD j) from g2))]
    have gv : Dat (Wd fr O) H2 v z := A1.gd (g := true) e2 g1
    refine ⟨p, _, rfl, DPut.k f4 (by rw [datK_len f5]; exact k3), k5 _ _ _ (A2.write f2 f3 (by intro vs z; cases z) (.dic upd_same ?_))⟩
    have w : Wd fr O p := .inr (List.mem_of_getElem? f2)
    exact (put_k f5 gv).to (fun _ n _ => n) (fun q vs h => by rw [upd_ne (ne_of h f4 (by intro z; cases z))]; exact h) fun q o n h => by rw [upd_ne (fun z => n (by rw [z]; exact w))]; exact h
/-- .. whose keys are tuples -/
def sPutT (i : Nat) (fk fe : Rho → Wp PyData) : Rho → Wp Out := fun ρ => bnd (fe ρ) fun z => bnd (slDT ρ[i]?) fun es => bnd (fk ρ) fun y Q => ∃ ks, y = .tuple ks ∧ es.length < sizeLine ∧ keysP ks ≠ none ∧ Q (.nx (ρ.set i (.dit (putP es y z))))
theorem s_putT (i : Nat) (hu : X.A.units + 1 < cLine) (he : E X true e fe) (hk : E X true k fk) (hN : X.N[i]? = some x := by rfl) (hv : Vis X.env.scope x := by first | exact Or.inl rfl | exact Or.inr (Or.inl rfl) | exact Or.inr (Or.inr rfl)) (hd : (x == ("__debug__" : Str)) = false := by decide) (hcd : (x == ("__classdict__" : Str)) = false := by decide)
    (hs : swapsWith e (some (.Subscript (.Name x px) k apos)) pos.line X.env = pure false := by rfl) : S X (.Assign [.Subscript (.Name x px) k apos] e pos) (sPutT i fk fe) := by
  refine ⟨ps_imp (ps_dput hu (pe_var hN hv hd hcd) hk.pe he.pe hs) fun D σ H ⟨fr, O, ρ, A, q⟩ => ?_, fun ρ => mono_bnd (he.mo ρ) fun _ => mono_bnd (mono_slDT _) fun _ => mono_bnd (hk.mo ρ) fun _ P P' h ⟨ks, a, b, c, d⟩ => ⟨ks, a, b, c, h _ d⟩⟩
  refine ⟨fr, O, ρ, A, he.mo ρ _ _ (fun z k1 v H1 e1 g1 => ?_) q⟩
  have A1 := A.ex e1
  obtain ⟨p, vs, es, h1, h2, h3, h4, h5, k1⟩ := A1.ditO k1
  refine ⟨_, h3, fr, O, ρ, A1, hk.mo ρ _ _ (fun y k2 u H2 e2 g2 => ?_) k1⟩
  have A2 := A1.ex e2
  obtain ⟨p', vs', es', f1, f2, f3, f4, f5, _⟩ := A2.ditO (i := i) (P := fun _ => True) (by rw [h1]; trivial)
  cases h1.symm.trans f1
  cases h3.symm.trans f3
  obtain ⟨ks, rfl, k3, k4, k5⟩ := k2
  cases zz : keysP ks with
  | none => exact absurd zz k4
  | some j =>
    have ey := keysP_ok zz
    subst ey
    cases (show Dat (Wd fr O) H2 u _ from g2) with
    | tup a2 b2 =>
      rw [keys_at b2] at a2
      have gv : Dat (Wd fr O) H2 v z := A1.gd (g := true) e2 g1
      refine ⟨p, _, rfl, DPut.t f4 a2 (by rw [datT_len f5]; exact k3), k5 _ _ _ (A2.write f2 f3 (by intro vs z; cases z) (.dit upd_same ?_))⟩
      have w : Wd fr O p := .inr (List.mem_of_getElem? f2)
      exact (put_t f5 gv).to (fun _ n _ => n) (fun q vs h => by rw [upd_ne (ne_of h f4 (by intro z; cases z))]; exact h) fun q o n h => by rw [upd_ne (fun z => n (by rw [z]; exact w))]; exact h
end
end Lq
namespace Lq
open PySem L2
/-! ### dict comprehensions -/
def keyW (d : PyData) : Wp Key := match keyP d with
  | some k => ret k
  | none => bad
theorem mono_keyW (d : PyData) : Mono (keyW d) := by
  unfold keyW
  split
  · exact mono_ret _
  · exact mono_bad
theorem keyW_ok {d : PyData} {P : Key → Prop} (h : keyW d P) : ∃ k, d = kD k ∧ P k := by
  unfold keyW at h
  cases e : keyP d with
  | some k => rw [e] at h; exact ⟨k, keyP_ok e, h⟩
  | none => rw [e] at h; exact False.elim h
def wDc (k : PyData → Rho → Wp Rho) (t : Rho → Wp Bool) (fk fv : Rho → Wp PyData) : List PyData → Rho → List (PyData × PyData) → Wp (List (PyData × PyData))
  | [], _, es => ret es
  | d :: ds, ρ, es => bnd (k d ρ) fun ρ1 => bnd (t ρ1) fun b => if b = true then bnd (fk ρ1) fun y => bnd (fv ρ1) fun z => bnd (keyW y) fun j => wDc k t fk fv ds ρ (putP es (kD j) z) else wDc k t fk fv ds ρ es
theorem mono_wDc {k : PyData → Rho → Wp Rho} {t : Rho → Wp Bool} {fk fv : Rho → Wp PyData} (hk : ∀ d ρ, Mono (k d ρ)) (ht : ∀ ρ, Mono (t ρ)) (hfk : ∀ ρ, Mono (fk ρ)) (hfv : ∀ ρ, Mono (fv ρ)) : ∀ ds ρ es, Mono (wDc k t fk fv ds ρ es)
  | [], _, _ => mono_ret _
  | _ :: ds, _, _ => mono_bnd (hk _ _) fun _ => mono_bnd (ht _) fun _ => ite_mono (mono_bnd (hfk _) fun _ => mono_bnd (hfv _) fun _ => mono_bnd (mono_keyW _) fun _ => mono_wDc hk ht hfk hfv ds _ _) (mono_wDc hk ht hfk hfv ds _ _)
/-- {fk: fv for k in fi if t} -/
def fDc (fi : Rho → Wp (List PyData)) (k : PyData → Rho → Wp Rho) (t : Rho → Wp Bool) (fk fv : Rho → Wp PyData) (vs : List Nat) : Rho → Wp (List (PyData × PyData)) :=
  fun ρ => bnd (fi ρ) fun ds Q => (ds.length ≤ sizeLine ∧ noOwn ρ vs = true) ∧ wDc k t fk fv ds (wipeR ρ vs) [] Q
/-- a new dict -/
def teFD (f : Rho → Wp (List (PyData × PyData))) : TE := fun σ H Q => ∃ fr O ρ, At fr O σ ρ H ∧ f ρ fun es => ∀ p kvs H', H p = none → Ex fr.pl H H' → H' p = some (.dK kvs) → DatK (fun b => Wd fr O b ∨ b = p) H' kvs es → Q (.ref p) H'
theorem putK_len (kvs : List (Key × V)) (k : Key) (v : V) : (putK kvs k v).length ≤ kvs.length + 1 := length_putK kvs k v
theorem dc_imp {fi : Rho → Wp (List PyData)} {k : PyData → Rho → Wp Rho} {t : Rho → Wp Bool} {fk fv : Rho → Wp PyData} {vs ws : List Nat} (mi : ∀ ρ, Mono (fi ρ)) (mk : ∀ d ρ, Mono (k d ρ)) (mt : ∀ ρ, Mono (t ρ)) (mfk : ∀ ρ, Mono (fk ρ)) (mfv : ∀ ρ, Mono (fv ρ)) (hws : ∀ w ∈ ws, w ∈ vs) {σ : St} {H : Hp} {Q : VK}
    (q : teFD (fDc fi k t fk fv vs) σ H Q) : tDc (tiOf false fi) (tgOf ws k) (ttOf t) (teOf true fk) (teOf true fv) vs σ H Q := by
  obtain ⟨fr, O, ρ, A, q⟩ := q
  refine ⟨fr, O, ρ, A, mi ρ _ _ (fun ds q J H1 e1 it => ?_) q⟩
  have A1 := A.ex e1
  obtain ⟨⟨hz, hno⟩, q⟩ := q
  intro D nD
  obtain ⟨Gd, Y, w, hG, hY⟩ := it.ex
  have nD0 : H D = none := by
    cases z : H D with
    | none => rfl
    | some o => exact absurd nD (e1.there D (by rw [z]; exact Option.some_ne_none _))
  have Dpool : ∀ a c, fr.pl = some (a, c) → D ≠ a ∧ D ≠ c := fun a c e => by
    obtain ⟨h1, h2⟩ := pool_two (A1.pool a c e).1
    exact ⟨fun z => h1 (by rw [← z]; exact nD), fun z => h2 (by rw [← z]; exact nD)⟩
  refine Cr.dc_it w (fun i H' => ∃ acc es, H' D = some (.dK acc) ∧ acc.length ≤ i ∧ DatK (fun b => Wd fr O b ∨ b = D) H' acc es ∧ Ex fr.pl H1 H' ∧
      wDc k t fk fv (ds.drop i) (wipeR ρ vs) es fun zs => ∀ p kvs H', H p = none → Ex fr.pl H H' → H' p = some (.dK kvs) → DatK (fun b => Wd fr O b ∨ b = p) H' kvs zs → Q (.ref p) H')
    ⟨[], [], upd_same, Nat.le_refl _, .nil, Ex.new A1 nD, q⟩ (fun i H' _ p => ?_) (fun i x H' Hb hi p y => ?_) (fun H' p => ?_)
  · obtain ⟨acc, es, p1, p2, p3, p4, p5⟩ := p
    exact hG H' p4
  · obtain ⟨acc, es, p1, p2, p3, p4, p5⟩ := p
    let fr2 : Fr := ⟨fun b => fr.U b ∨ b = D, fun b => some b ∈ O ∨ ∃ c, fr.pl = some (b, c), fr.pl, Hb⟩
    have hW : ∀ q, ¬ Wd fr O q → H1 q ≠ none → ¬ Wd fr2 O q := fun q n h z => by
      rcases z with (z | z) | z
      · exact n (.inl z)
      · exact h (by rw [z]; exact nD)
      · exact n (.inr z)
    obtain ⟨sm, d, hd, hx⟩ := hY i H' x Hb (Wd fr2 O) hi p4 hW y
    have A2 := A1.ex p4
    have A3 := A2.ex (A2.same sm)
    have pb : Hb D = some (.dK acc) := sm _ _ p1
    have e14 : Ex fr.pl H1 Hb := p4.trans (A2.same sm)
    obtain ⟨v1, v2⟩ := A1.via (b := false) (H' := Hb) e14
    have B : At fr2 O (L2.wipe σ vs) (wipeR ρ vs) Hb := by
      refine ⟨Slots.wipe (A1.sl.to hW v1 v2 fun p o m h => e14.keep p o (fun a c z => ((A1.own p m).2.1 a c z).1) h) vs hno, fun _ _ _ h => h, fun a c e => ⟨e14.pool a c e, .inr ⟨c, e⟩, .inl (A1.pool a c e).2.2⟩, fun p m => ?_, A1.nd, fun b u => ?_, fun _ h => h⟩
      · refine ⟨⟨fun u => u.elim (A1.own p m).1.1 fun e => ?_, .inl (.inl m)⟩, (A3.own p m).2⟩
        exact A1.wd (.inr m) (by rw [e]; exact nD)
      · rcases u with u | u
        · exact e14.there b (A1.wd (.inl u))
        · show Hb b ≠ none
          rw [u, pb]; exact Option.some_ne_none _
    have e : ds.drop i = d :: ds.drop (i + 1) := by
      obtain ⟨h1, h2⟩ := List.getElem?_eq_some_iff.mp hd
      rw [List.drop_eq_getElem_cons hi, h2]
    rw [e] at p5
    refine ⟨fr2, O, _, d, B, hx, mk _ _ _ _ (fun ρ1 k1 σ1 O1 ag B1 => ?_) p5⟩
    refine ⟨wipe_agree ag hws, fr2, O1, ρ1, B1, mt _ _ _ (fun b k2 H3 e3 => ?_) k1⟩
    have B2 := B1.ex e3
    have kD' : ∀ {Ha Hb' : Hp}, Ex fr.pl Ha Hb' → Ha D = some (.dK acc) → Hb' D = some (.dK acc) := fun ex h => ex.keep D _ (fun a c z => (Dpool a c z).1) h
    have WD : ∀ a c, fr.pl = some (a, c) → (Wd fr O a ∨ a = D) := fun a c z => .inl (.inl (A1.pool a c z).2.2)
    have dEx : ∀ {Ha Hb' : Hp}, Ex fr.pl Ha Hb' → Ex fr.pl H1 Ha → DatK (fun b => Wd fr O b ∨ b = D) Ha acc es → DatK (fun b => Wd fr O b ∨ b = D) Hb' acc es := fun {Ha Hb'} ex e0 h => h.to (fun _ n _ => n) (fun q vs h => ex.keep q _ (fun a c z => by
      obtain ⟨us, hu⟩ := pool_obj (e0.pool a c z)
      exact ne_of h hu (by intro y; cases y)) h) fun q o n h => ex.keep q o (fun a c z y => n (by rw [y]; exact WD a c z)) h
    have q3 : H3 D = some (.dK acc) := kD' e3 pb
    have d3 : DatK (fun b => Wd fr O b ∨ b = D) H3 acc es := dEx e3 e14 (p3.to (fun _ n _ => n) (fun q vs => sm q _) fun q o _ => sm q o)
    have e13 : Ex fr.pl H1 H3 := e14.trans e3
    have hlt : acc.length < sizeLine := by omega
    cases b with
    | true =>
      have k2 : bnd (fk ρ1) _ _ := k2
      refine iteT ⟨fr2, O1, ρ1, B2, mfk _ _ _ (fun yd k3 v H4 e4 g4 => ?_) k2⟩
      have B3 := B2.ex e4
      refine ⟨fr2, O1, ρ1, B3, mfv _ _ _ (fun zd k4 u H5 e5 g5 => ?_) k3⟩
      obtain ⟨j, rfl, k5⟩ := keyW_ok k4
      have q5 : H5 D = some (.dK acc) := kD' e5 (kD' e4 q3)
      have d5 : DatK (fun b => Wd fr O b ∨ b = D) H5 acc es := dEx e5 (e13.trans e4) (dEx e4 e13 d3)
      have e15 : Ex fr.pl H1 H5 := (e13.trans e4).trans e5
      have dv : Dat (fun b => Wd fr O b ∨ b = D) H5 u zd := (show Dat (Wd fr2 O1) H5 u zd from g5).to (fun q n _ z => by
        rcases z with (z | z) | z
        · exact n (.inl (.inl z))
        · obtain ⟨j, hj⟩ := List.mem_iff_getElem?.mp z
          have m := own_out A1.sl hno hj
          exact n (.inr (List.mem_of_getElem? ((ag.oeq j fun w => m (hws j w)).trans hj)))
        · exact n (.inl (.inr z))) (fun _ _ => id) fun _ _ _ => id
      have ey := key_at (U := fun _ => False) (.of (show Dat (Wd fr2 O1) H4 v (Lq.kD j) from g4))
      refine ⟨acc, j, ey, q5, hlt, putK acc j u, putP es (Lq.kD j) zd, upd_same, Nat.le_trans (putK_len _ _ _) (Nat.succ_le_succ p2), ?_, ?_, k5⟩
      · exact (put_k d5 dv).to (fun _ n _ => n) (fun q vs h => by rw [upd_ne (ne_of h q5 (by intro z; cases z))]; exact h) fun q o n h => by rw [upd_ne (fun z => n (.inr z))]; exact h
      · refine ⟨fun b o n h => ?_, fun a c z => pool_up (e15.pool a c z) (Dpool a c z).1 (Dpool a c z).2, fun b h => ?_⟩
        · rw [upd_ne (ne_of_none h nD)]; exact e15.keep b o n h
        · by_cases z : b = D
          · rw [z, upd_same]; exact Option.some_ne_none _
          · rw [upd_ne z]; exact e15.there b h
    | false =>
      have k2 : wDc k t fk fv (ds.drop (i + 1)) (wipeR ρ vs) es _ := k2
      exact iteF ⟨acc, es, q3, by omega, d3, e13, k2⟩
  · obtain ⟨acc, es, p1, p2, p3, p4, p5⟩ := p
    rw [List.drop_length] at p5
    exact (show ∀ p kvs H', _ from p5) D acc H' nD0 (e1.trans p4) p1 p3
def eD (f : Rho → Wp (List (PyData × PyData))) : Rho → Wp PyData := fun ρ => bnd (f ρ) fun es => ret (.dict es)
section
variable {X : Cx} {kx vx tg iter : Expr} {ifs : List Expr} {scope : Scope} {own : List (Str × Nat)} {pos : Pos} {fi : Rho → Wp (List PyData)} {k : PyData → Rho → Wp Rho} {t : Rho → Wp Bool} {fk fv : Rho → Wp PyData} {ws : List Nat}
theorem tefd_of {f : Rho → Wp (List (PyData × PyData))} (mo : ∀ ρ, Mono (f ρ)) {σ : St} {H : Hp} {Q : VK} (q : teOf true (eD f) σ H Q) : teFD f σ H Q := by
  obtain ⟨fr, O, ρ, A, q⟩ := q
  refine ⟨fr, O, ρ, A, mo ρ _ _ (fun ds k p vs H1 n e1 h1 h2 => k _ H1 e1 ?_) q⟩
  exact Dat.dic (fun w => A.wd w n) h1 (h2.to (fun q n _ w => n (.inl w)) (fun _ _ => id) fun _ _ _ => id)
theorem mono_fDc {vs : List Nat} (mi : ∀ ρ, Mono (fi ρ)) (mk : ∀ d ρ, Mono (k d ρ)) (mt : ∀ ρ, Mono (t ρ)) (mfk : ∀ ρ, Mono (fk ρ)) (mfv : ∀ ρ, Mono (fv ρ)) (ρ : Rho) : Mono (fDc fi k t fk fv vs ρ) := mono_bnd (mi ρ) fun _ _ _ h q => ⟨q.1, mono_wDc mk mt mfk mfv _ _ _ _ _ h q.2⟩
theorem e_dc {g : Bool} (hc : X.calm = true) (hN : X.N.Nodup) (hi : I X false tg iter fi) (ok : BlkOk X.N X.env.scope scope own) (hg : ∀ (s : Shared) (H : Hp) (C : Addr) (cl : List (Str × Addr)) (fp : List Addr), G (X.blk s H scope (compEnvC scope cl C X.env) fp) ws tg k)
    (ht : ∀ (s : Shared) (H : Hp) (C : Addr) (cl : List (Str × Addr)) (fp : List Addr), TTs (X.blk s H scope (compEnvC scope cl C X.env) fp) ifs t) (hk : ∀ (s : Shared) (H : Hp) (C : Addr) (cl : List (Str × Addr)) (fp : List Addr), E (X.blk s H scope (compEnvC scope cl C X.env) fp) true kx fk)
    (hv : ∀ (s : Shared) (H : Hp) (C : Addr) (cl : List (Str × Addr)) (fp : List Addr), E (X.blk s H scope (compEnvC scope cl C X.env) fp) true vx fv)
    (hws : ∀ w ∈ ws, w ∈ own.map (·.2) := by decide) (hs : ∀ x, foldedSetIterable iter X.env x = pure x := by intro _; rfl) : E X g (.DictComp kx vx [⟨tg, iter, ifs, 0⟩] scope pos) (eD (fDc fi k t fk fv (own.map (·.2)))) := by
  have mk := (hg X.s_0 X.H_0 0 [] []).mo
  have mt := (ht X.s_0 X.H_0 0 [] []).mo
  have mfk := (hk X.s_0 X.H_0 0 [] []).mo
  have mfv := (hv X.s_0 X.H_0 0 [] []).mo
  have m := mono_fDc (vs := own.map (·.2)) hi.mo mk mt mfk mfv
  exact E.tr ⟨pe_imp (pe_dc hc hN hi.pi ok (fun s H C cl fp => (hg s H C cl fp).pg) (fun s H C cl fp => (ht s H C cl fp).pt) (fun s H C cl fp => (hk s H C cl fp).pe) (fun s H C cl fp => (hv s H C cl fp).pe) hs) fun σ H Q q => dc_imp hi.mo mk mt mfk mfv hws (tefd_of m q), fun ρ => mono_bnd (m ρ) fun _ => mono_ret _⟩
theorem s_setDc {i : Nat} {y : Str} {py spos : Pos} (hc : X.calm = true) (hN : X.N.Nodup) (hi : I X false tg iter fi) (ok : BlkOk X.N X.env.scope scope own) (hg : ∀ (s : Shared) (H : Hp) (C : Addr) (cl : List (Str × Addr)) (fp : List Addr), G (X.blk s H scope (compEnvC scope cl C X.env) fp) ws tg k)
    (ht : ∀ (s : Shared) (H : Hp) (C : Addr) (cl : List (Str × Addr)) (fp : List Addr), TTs (X.blk s H scope (compEnvC scope cl C X.env) fp) ifs t) (hk : ∀ (s : Shared) (H : Hp) (C : Addr) (cl : List (Str × Addr)) (fp : List Addr), E (X.blk s H scope (compEnvC scope cl C X.env) fp) true kx fk)
    (hv : ∀ (s : Shared) (H : Hp) (C : Addr) (cl : List (Str × Addr)) (fp : List Addr), E (X.blk s H scope (compEnvC scope cl C X.env) fp) true vx fv)
    (hy : X.N[i]? = some y := by rfl) (hyl : X.env.scope.names.lookup y = some .local := by rfl) (hsw : swapsWith (.DictComp kx vx [⟨tg, iter, ifs, 0⟩] scope pos) (some (.Name y py)) spos.line X.env = pure true := by exact Cr.sw_dict rfl rfl rfl (by decide +kernel))
    (hws : ∀ w ∈ ws, w ∈ own.map (·.2) := by decide) (hs : ∀ x, foldedSetIterable iter X.env x = pure x := by intro _; rfl) : S X (.Assign [.Name y py] (.DictComp kx vx [⟨tg, iter, ifs, 0⟩] scope pos) spos) (sSet (gN i) (eD (fDc fi k t fk fv (own.map (·.2))))) := by
  have mk := (hg X.s_0 X.H_0 0 [] []).mo
  have mt := (ht X.s_0 X.H_0 0 [] []).mo
  have mfk := (hk X.s_0 X.H_0 0 [] []).mo
  have mfv := (hv X.s_0 X.H_0 0 [] []).mo
  have m := mono_fDc (vs := own.map (·.2)) hi.mo mk mt mfk mfv
  refine ⟨ps_imp (Cr.ps_setDc (i := i) hc hN hy hyl hsw hi.pi ok (fun s H C cl fp => (hg s H C cl fp).pg) (fun s H C cl fp => (ht s H C cl fp).pt) (fun s H C cl fp => (hk s H C cl fp).pe) (fun s H C cl fp => (hv s H C cl fp).pe) hs) fun D σ H ⟨fr, O, ρ, A, q⟩ => ?_, fun ρ => mono_bnd (mono_bnd (m ρ) fun _ => mono_ret _) fun _ => mono_bnd (mono_ret _) fun _ => mono_ret _⟩
  refine dc_imp hi.mo mk mt mfk mfv hws (tefd_of m ⟨fr, O, ρ, A, ?_⟩)
  exact mono_bnd (m ρ) (fun _ => mono_ret _) _ _ (fun d k1 v H1 e1 g1 => k1 _ _ H1 ((A.ex e1).setVal i g1)) q
end
/-! ### more on own lists -/
section
variable {X : Cx} {x : Str} {px pos spos apos : Pos} {e : Expr} {i : Nat}
/-- list(e) -/
def lList (f : Rho → Wp PyData) : Rho → Wp (List PyData) := fun ρ => bnd (f ρ) items
theorem f_list {f : Rho → Wp PyData} (h : E X false e f) (hm : X.mg "list" = none) (hg : Gl X "list" := by rfl) (he : starEach [e] X.env = (false, eval e X.env) :: starEach [] X.env := by rfl) (hpl : (backTo pos (starEach [] X.env)).any (·.1) = false := by rfl) : EF X (.Call (.Name "list" px) [e] [] pos) (lList f) := by
  refine ⟨pe_imp (pe_callTy call_list_of hg hm (by decide +kernel) (pa_cons h.pe pa_nil he) (by decide) (by decide) he hpl) fun σ H Q ⟨fr, O, ρ, A, q⟩ => ?_, fun ρ => mono_bnd (h.mo ρ) mono_items⟩
  refine ⟨fr, O, ρ, A, h.mo ρ _ _ (fun d k v H1 e1 g1 => ?_) q⟩
  have A1 := A.ex e1
  have nn : ∀ {l}, H1 l = none → H l = none := fun {l} n => by
    cases z : H l with
    | none => rfl
    | some o => exact absurd n (e1.there l (by rw [z]; exact Option.some_ne_none _))
  have go : ∀ {vs : List V} {ds : List PyData} {l : Addr}, Dats (Wd fr O) H1 vs ds → H1 l = none → Dats (fun b => Wd fr O b ∨ b = l) (upd H1 l (.lst vs)) vs ds := fun {vs ds l} b n =>
    b.to (fun q n' h z => z.elim n' fun e => h (by rw [e]; exact n)) (fun q vs h => by rw [upd_ne (ne_of_none h n)]; exact h) fun q o _ h => by rw [upd_ne (ne_of_none h n)]; exact h
  unfold items at k
  split at k
  · obtain ⟨p, vs, rfl, a, b⟩ := (topd_of g1).tup
    exact ⟨p, vs, rfl, .inr (SqT.of a), fun l n => k l _ _ (nn n) (e1.trans (Ex.new A1 n)) upd_same (go b n)⟩
  · obtain ⟨p, vs, rfl, a, b⟩ := (topd_of g1).list
    exact ⟨p, vs, rfl, .inl (SqL.of a), fun l n => k l _ _ (nn n) (e1.trans (Ex.new A1 n)) upd_same (go b n)⟩
  · exact False.elim k
/-- tg = name.pop() -/
def sPop (i : Nat) (k : PyData → Rho → Wp Rho) : Rho → Wp Out := fun ρ => bnd (slL ρ[i]?) fun ds => bnd (atW ds.getLast?) fun d => bnd (k d (ρ.set i (.lst ds.dropLast))) fun ρ' => ret (.nx ρ')
theorem last_of {W : Addr → Prop} {H : Hp} {vs : List V} {ds : List PyData} {d : PyData} (h : Dats W H vs ds) (e : ds.getLast? = some d) : ∃ v, vs[vs.length - 1]? = some v ∧ Dat W H v d := by
  rw [List.getLast?_eq_getElem?] at e
  rw [h.length]
  exact h.get e
theorem Dats.dropLast {W : Addr → Prop} {H : Hp} {vs : List V} {ds : List PyData} (h : Dats W H vs ds) : Dats W H vs.dropLast ds.dropLast := by
  rw [List.dropLast_eq_take, List.dropLast_eq_take, h.length]
  exact h.take _
theorem s_pop (i : Nat) {ws : List Nat} {tg : Expr} {k : PyData → Rho → Wp Rho} (g : G X ws tg k) (hN : X.N[i]? = some x := by rfl) (hv : Vis X.env.scope x := by first | exact Or.inl rfl | exact Or.inr (Or.inl rfl) | exact Or.inr (Or.inr rfl)) (hd : (x == ("__debug__" : Str)) = false := by decide) (hcd : (x == ("__classdict__" : Str)) = false := by decide)
    (hbase : attributeBase (.Name x px) "pop" X.env (eval (.Name x px) X.env) = eval (.Name x px) X.env := by rfl) (hline : (apos.endLine == pos.line) = true := by rfl)
    (hs : swapsWithSole [tg] (.Call (.Attribute (.Name x px) "pop" apos) [] [] pos) spos.line X.env = pure false := by rfl) (hw : swappedStores [tg] (.Call (.Attribute (.Name x px) "pop" apos) [] [] pos) X.env = pure none := by rfl) (h1 : (assignEach [tg] X.env).map (·.2) = [assign tg X.env] := by rfl) :
    S X (.Assign [tg] (.Call (.Attribute (.Name x px) "pop" apos) [] [] pos) spos) (sPop i k) := by
  refine ⟨ps_imp (ps_asg (pe_bm0 PySem.F.plainAttrs_list PySem.F.slot_list_pop PySem.F.type_list_pop mt_pop (pe_var hN hv hd hcd) hbase hline) g.pg hs hw h1) fun D σ H ⟨fr, O, ρ, A, q⟩ => ?_, fun ρ => mono_bnd (mono_slL _) fun _ => mono_bnd (mono_atW _) fun _ => mono_bnd (g.mo _ _) fun _ => mono_ret _⟩
  obtain ⟨p, vs, ds, h1, h2, h3, h4, h5, q⟩ := A.list q
  obtain ⟨d, e, q⟩ := atW_ok q
  obtain ⟨v, f1, f2⟩ := last_of h5 e
  have w : Wd fr O p := .inr (List.mem_of_getElem? h2)
  have mv : ∀ {u : V} {c : PyData}, Dat (Wd fr O) H u c → Dat (Wd fr O) (upd H p (.lst vs.dropLast)) u c := fun h =>
    h.to (fun _ n _ => n) (fun q vs h => by rw [upd_ne (ne_of h h4 (by intro z; cases z))]; exact h) fun q o n h => by rw [upd_ne (fun z => n (by rw [z]; exact w))]; exact h
  have mvs : ∀ {u : List V} {c : List PyData}, Dats (Wd fr O) H u c → Dats (Wd fr O) (upd H p (.lst vs.dropLast)) u c := fun h =>
    h.to (fun _ n _ => n) (fun q vs h => by rw [upd_ne (ne_of h h4 (by intro z; cases z))]; exact h) fun q o n h => by rw [upd_ne (fun z => n (by rw [z]; exact w))]; exact h
  refine ⟨_, h3, .inl ⟨rfl, _, SqL.of h4⟩, p, vs, v, rfl, rfl, h4, f1, ?_⟩
  exact ⟨fr, O, _, d, A.write h2 h3 (by intro vs z; cases z) (.lst upd_same (mvs h5.dropLast)), mv f2, g.mo _ _ _ _ (fun ρ1 k1 σ1 O1 _ A1 => k1 σ1 O1 _ A1) q⟩
/-- name.extend(e) -/
def sExt (i : Nat) (f : Rho → Wp PyData) : Rho → Wp Out := fun ρ => bnd (slL ρ[i]?) fun ds => bnd (f ρ) fun d => bnd (items d) fun es => gd (ds.length + es.length ≤ sizeLine) (.nx (ρ.set i (.lst (ds ++ es))))
theorem s_extend (i : Nat) {f : Rho → Wp PyData} (h : E X true e f) (hN : X.N[i]? = some x := by rfl) (hv : Vis X.env.scope x := by first | exact Or.inl rfl | exact Or.inr (Or.inl rfl) | exact Or.inr (Or.inr rfl)) (hd : (x == ("__debug__" : Str)) = false := by decide) (hcd : (x == ("__classdict__" : Str)) = false := by decide)
    (hbase : attributeBase (.Name x px) "extend" X.env (eval (.Name x px) X.env) = eval (.Name x px) X.env := by rfl)
    (hfew : ((backTo pos (starEach [e] X.env)).all (fun x => !x.1) && (backToKw pos (keywordEach [] X.env)).all (fun x => x.1.isSome) && decide (([e] : List Expr).length + ([] : List Keyword).length + (if ([] : List Keyword).isEmpty then 0 else 1) < 30)) = true := by rfl)
    (hline : (apos.endLine == pos.line) = true := by rfl) (hs : starEach [e] X.env = (false, eval e X.env) :: starEach [] X.env := by rfl) (hpl : (backTo pos (starEach [] X.env)).any (·.1) = false := by rfl)
    (hsw : swapsWith (.Call (.Attribute (.Name x px) "extend" apos) [e] [] pos) none spos.line X.env = pure false := by rfl) : S X (.Expr (.Call (.Attribute (.Name x px) "extend" apos) [e] [] pos) spos) (sExt i f) := by
  have or : MtR X "list.extend" _ := MtR.or mt_extend Cr.mt_extT
  refine ⟨ps_imp (ps_expr (pe_bm PySem.F.plainAttrs_list PySem.F.slot_list_extend PySem.F.type_list_extend or (pe_var hN hv hd hcd) (pa_cons h.pe pa_nil hs) hbase hfew hline hs hpl) hsw) fun D σ H ⟨fr, O, ρ, A, q⟩ => ?_, fun ρ => mono_bnd (mono_slL _) fun _ => mono_bnd (h.mo ρ) fun _ => mono_bnd (mono_items _) fun _ => mono_gd _⟩
  obtain ⟨p, vs, ds, h1, h2, h3, h4, h5, q⟩ := A.list q
  refine ⟨_, h3, .inl ⟨rfl, _, SqL.of h4⟩, fr, O, ρ, A, h.mo ρ _ _ (fun d k v H1 e1 g1 => ?_) q⟩
  have A1 := A.ex e1
  obtain ⟨p', vs', ds', f1, f2, f3, f4, f5, _⟩ := A1.list (i := i) (P := fun _ => True) (by rw [h1]; trivial)
  cases h1.symm.trans f1
  cases h3.symm.trans f3
  have w : Wd fr O p := .inr (List.mem_of_getElem? f2)
  have fin : ∀ {us : List V} {es : List PyData}, Dats (Wd fr O) H1 us es → gd (ds.length + es.length ≤ sizeLine) (Out.nx (ρ.set i (.lst (ds ++ es)))) (endOf fr D) → vs'.length + us.length ≤ sizeLine ∧ D.nx σ (upd H1 p (.lst (vs' ++ us))) := fun {us es} b k => by
    refine ⟨by rw [f5.length, b.length]; exact k.1, k.2 _ _ _ (A1.write f2 f3 (by intro vs z; cases z) (.lst upd_same ?_))⟩
    exact (f5.append b).to (fun _ n _ => n) (fun q vs h => by rw [upd_ne (ne_of h f4 (by intro z; cases z))]; exact h) fun q o n h => by rw [upd_ne (fun z => n (by rw [z]; exact w))]; exact h
  have k : items d (fun es => gd (ds.length + es.length ≤ sizeLine) (Out.nx (ρ.set i (.lst (ds ++ es)))) (endOf fr D)) := k
  unfold items at k
  split at k
  · cases (show Dat (Wd fr O) H1 v _ from g1) with
    | tup a b => exact .inr ⟨p, _, vs', _, rfl, rfl, f4, a, fin b k⟩
  · cases (show Dat (Wd fr O) H1 v _ from g1) with
    | lst n a b => exact .inl ⟨p, _, vs', _, rfl, rfl, f4, a, fin b k⟩
  · exact False.elim k
/-- name[k] = e, a list of the def's own -/
def sSetIx (i : Nat) (fk fe : Rho → Wp PyData) : Rho → Wp Out := fun ρ => bnd (fe ρ) fun z => bnd (slL ρ[i]?) fun ds => bnd (fk ρ) fun y => bnd (atW (match y with
  | .int n => ixN ds.length n
  | _ => none)) fun j => ret (.nx (ρ.set i (.lst (ds.set j z))))
theorem s_setIx (i : Nat) {k : Expr} {fe fk : Rho → Wp PyData} (he : E X true e fe) (hk : E X true k fk) (hN : X.N[i]? = some x := by rfl) (hv : Vis X.env.scope x := by first | exact Or.inl rfl | exact Or.inr (Or.inl rfl) | exact Or.inr (Or.inr rfl)) (hd : (x == ("__debug__" : Str)) = false := by decide) (hcd : (x == ("__classdict__" : Str)) = false := by decide)
    (hg : ∀ (to ti : TE), PE X (.Name x px) to → PE X k ti → PG X (.Subscript (.Name x px) k apos) (gSub to ti rSetL)) (hs : swapsWithSole [.Subscript (.Name x px) k apos] e pos.line X.env = pure false := by rfl) (hw : swappedStores [.Subscript (.Name x px) k apos] e X.env = pure none := by rfl) (h1 : (assignEach [.Subscript (.Name x px) k apos] X.env).map (·.2) = [assign (.Subscript (.Name x px) k apos) X.env] := by rfl) :
    S X (.Assign [.Subscript (.Name x px) k apos] e pos) (sSetIx i fk fe) := by
  refine ⟨ps_imp (ps_asg he.pe (hg _ _ (pe_var hN hv hd hcd) hk.pe) hs hw h1) fun D σ H ⟨fr, O, ρ, A, q⟩ => ?_, fun ρ => mono_bnd (he.mo ρ) fun _ => mono_bnd (mono_slL _) fun _ => mono_bnd (hk.mo ρ) fun _ => mono_bnd (mono_atW _) fun _ => mono_ret _⟩
  refine ⟨fr, O, ρ, A, he.mo ρ _ _ (fun z k1 v H1 e1 g1 => ?_) q⟩
  have A1 := A.ex e1
  obtain ⟨p, vs, ds, h1, h2, h3, h4, h5, k1⟩ := A1.list k1
  refine ⟨_, h3, fr, O, ρ, A1, hk.mo ρ _ _ (fun y k2 u H2 e2 g2 => ?_) k1⟩
  have A2 := A1.ex e2
  obtain ⟨p', vs', ds', f1, f2, f3, f4, f5, _⟩ := A2.list (i := i) (P := fun _ => True) (by rw [h1]; trivial)
  cases h1.symm.trans f1
  cases h3.symm.trans f3
  obtain ⟨j, hj, k3⟩ := atW_ok k2
  have w : Wd fr O p := .inr (List.mem_of_getElem? f2)
  have gv : Dat (Wd fr O) H2 v z := A1.gd (g := true) e2 g1
  cases y with
  | int n =>
    cases (show Dat (Wd fr O) H2 u _ from g2)
    refine ⟨p, vs', n, j, rfl, rfl, f4, by rw [f5.length]; exact hj, k3 _ _ _ (A2.write f2 f3 (by intro vs z; cases z) (.lst upd_same ?_))⟩
    exact (f5.set gv j).to (fun _ n _ => n) (fun q vs h => by rw [upd_ne (ne_of h f4 (by intro z; cases z))]; exact h) fun q o n h => by rw [upd_ne (fun z => n (by rw [z]; exact w))]; exact h
  | none => cases hj
  | bool _ => cases hj
  | str _ => cases hj
  | list _ => cases hj
  | tuple _ => cases hj
  | dict _ => cases hj
end
/-! ### -a, a ** b -/
section
variable {X : Cx} {a : Expr} {f : Rho → Wp PyData} {pos : Pos}
def negQ : PyData → Wp PyData
  | .int i => ret (.int (-i))
  | _ => bad
def eNeg (f : Rho → Wp PyData) : Rho → Wp PyData := fun ρ => bnd (f ρ) negQ
theorem mono_negQ (d : PyData) : Mono (negQ d) := by
  unfold negQ
  split
  · exact mono_ret _
  · exact mono_bad
theorem e_neg {g : Bool} (h : E X false a f) : E X g (.UnaryOp .USub a pos) (eNeg f) := by
  refine E.tr ⟨pe_imp (pe_un un_neg h.pe) fun σ H Q ⟨fr, O, ρ, A, q⟩ => ?_, fun ρ => mono_bnd (h.mo ρ) mono_negQ⟩
  refine ⟨fr, O, ρ, A, h.mo ρ _ _ (fun d k v H1 e1 g1 => ?_) q⟩
  unfold negQ at k
  split at k
  · cases (topd_of g1).int
    exact ⟨_, rfl, k _ H1 e1 (.int _)⟩
  · exact False.elim k
def powQ : PyData → PyData → Wp PyData
  | .int i, .int j => gd (CPow i j) (.int (i ^ j.toNat))
  | _, _ => bad
theorem q_pow : OpQ X (binaryOp .Pow) powQ := q_ii op_pow (h := fun i j => .int (i ^ j.toNat)) (fun d e P q => by
  unfold powQ at q
  split at q
  · exact ⟨_, _, rfl, rfl, q⟩
  · exact q.elim) (fun d e => by
  unfold powQ
  split
  · exact mono_gd _
  · exact mono_bad) fun _ _ _ _ => .int _
end
end Lq
namespace Lq
open PySem L2
/-! ### the frame of a law -/
def tPool (K : PySem.W.Frag) (i : Nat) : TS := fun D σ H => ∃ (a : Addr) (ns : List Int), σ[0]? = some (some (.ref a)) ∧ SqL K H a (ns.map V.int) ∧ ns.length ≤ 63 ∧ ∀ (p c : Addr) (H' : Hp), Cf.PoolAt H' p c → D.nx (σ.set i (some (.ref p))) H'
section
variable {X : Cx}
theorem s_pool (i : Nat) {j : Nat} {x y z : Str} {px p q pos spos : Pos} (C : Cf.At X.prog X.w X.K X.mg X.base x j ["script"] (Cf.spPool X.K)) (hr : Room j X.A) (hN : X.N.Nodup) (h0 : X.N[0]? = some z := by rfl) (hi : X.N[i]? = some y := by rfl) (hx : Loc X.env.scope y := by first | exact Or.inl rfl | exact Or.inr rfl)
    (hv : Vis X.env.scope z := by first | exact Or.inl rfl | exact Or.inr (Or.inl rfl) | exact Or.inr (Or.inr rfl)) (hg : Gl X x := by rfl) (hd : (z == ("__debug__" : Str)) = false := by decide) (hcd : (z == ("__classdict__" : Str)) = false := by decide) (hdb : (x == ("__debug__" : Str)) = false := by decide)
    (he : starEach [.Name z q] X.env = (false, eval (.Name z q) X.env) :: starEach [] X.env := by rfl) (hpl : (backTo pos (starEach [] X.env)).any (·.1) = false := by rfl) (hs : swapsWith (.Call (.Name x p) [.Name z q] [] pos) (some (.Name y px)) spos.line X.env = pure false := by rfl) (hf : X.fn y = true ∨ X.env.scope.names.lookup y = some .local := by first | exact .inl rfl | exact .inr rfl) :
    PS X (.Assign [.Name y px] (.Call (.Name x p) [.Name z q] [] pos) spos) (tPool X.K i) := by
  obtain ⟨fa, fd, F, hb, hk, hm⟩ := C.ex
  exact ps_imp (ps_set (i := i) hN hi hx (pe_call (dvs := []) (E := E0) F hr hg hm hk hb .nil pass0 (pa_cons (pe_var h0 hv hd hcd) pa_nil he) hdb he hpl) hs hf) fun D σ H ⟨a, ns, h, hS, hl, q⟩ => ⟨.ref a, h, a, ns, rfl, hS, hl, fun p b H' hp _ _ => q p b H' hp⟩
end
theorem slots_any {W : Addr → Prop} {pl : Pl} {H : Hp} : ∀ {n : Nat} (σ : St), σ.length = n → Slots W pl H (List.replicate n none) σ (List.replicate n .un)
  | 0, [], _ => .nil
  | n + 1, x :: σ, h => .cons (.un x) (slots_any σ (Nat.succ.inj h))
def lawR (n i : Nat) : Rho := (List.replicate n Sl.un).set i .pool
theorem at_law {n i : Nat} {σ : St} {H : Hp} {p c : Addr} (hp : Cf.PoolAt H p c) (hl : σ.length = n) : At ⟨fun b => b = p ∨ b = c, fun b => b = p, some (p, c), H⟩ (List.replicate n none) (σ.set i (some (.ref p))) (lawR n i) H := by
  have s : Slots (Wd ⟨fun b => b = p ∨ b = c, fun b => b = p, some (p, c), H⟩ (List.replicate n none)) (some (p, c)) H ((List.replicate n none).set i none) (σ.set i (some (.ref p))) (lawR n i) := Slots.set (.pool rfl) i (slots_any σ hl)
  have e : (List.replicate n (none : Option Addr)).set i none = List.replicate n none := by
    refine List.ext_getElem? fun j => ?_
    rw [List.getElem?_set, List.getElem?_replicate]
    split
    · subst i
      split <;> rename_i h
      · rw [List.length_replicate] at h; rw [if_pos h]
      · rw [List.length_replicate] at h; rw [if_neg h]
    · rfl
  rw [e] at s
  obtain ⟨g1, g2⟩ := pool_two hp
  exact ⟨s, fun _ _ _ h => h, fun a' c' z => (by cases z; exact ⟨hp, rfl, .inl rfl⟩), fun q m => absurd m noO, fun j k q h => absurd h noO2, fun b u => u.elim (fun z => z ▸ g1) fun z => z ▸ g2, fun _ h => h⟩
section
variable {P : Program} {w : World} {K : PySem.W.Frag} {mg : Str → Option Value} {base : Heap}
theorem law_len {K : PySem.W.Frag} : ∀ (vs : List V) (H : Hp) (Q : VK) (E : XK), Cf.spLaw K vs H Q E → vs.length = (["script"] : List Str).length := fun vs H Q E ⟨a, ns, h, _⟩ => by rw [h]; rfl
theorem law_end {K : PySem.W.Frag} {X : Cx} {N : List Str} {st0 : Stmt} {rest : List Stmt} {body : Rho → Wp Out} {i : Nat} {vs : List V} {H : Hp} {Q : VK} {E : XK} (h : Cf.spLaw K vs H Q E) (hb : SS X rest body) (q : body (lawR N.length i) (fun o => o = .rt (.bool true))) (hN : N.length ≠ 0) :
    tPool K i { nx := fun σ1 H1 => tsOf body { nx := fun _ H' => Q .non H', rt := Q } σ1 H1, rt := Q } (L2.start N vs) H := by
  obtain ⟨a, ns, rfl, hS, hl, q'⟩ := h
  refine ⟨a, ns, rfl, hS, hl, fun p c H' hp => ?_⟩
  refine ⟨_, _, _, at_law hp ?_, hb.mo _ _ _ (fun o k => ?_) q⟩
  · unfold L2.start
    simp
    omega
  · subst k
    intro v H2 F
    cases F.dat
    exact q' H2
theorem fn_law {x qual : Str} {st : Stmt} {f : Addr} {fd : FuncData} {N : List Str} {k i : Nat} {body : Rho → Wp Out} (F : Fun K x qual st f fd) (Sc : FnScope N ["script"] (defScope st)) (hN : N.length ≠ 0)
    (hb : ∀ (cdv : Value) (A : Around) (outer : List Env) (s : Shared) (H : Hp) (E : XK), Room k (A.deeper (PyProof.Rows.envOfC qual (defScope st) s.heap.objs.size f cdv)) → ∃ st0 rest, defBody st = st0 :: rest ∧ PS (cxOf CX0 P w K mg base N qual (defScope st) f cdv A outer s H E).nox st0 (tPool K i) ∧ SS (cxOf CX0 P w K mg base N qual (defScope st) f cdv A outer s H E).nox rest body)
    (q : body (lawR N.length i) (fun o => o = .rt (.bool true))) : FnOk P w K mg base CX0 (k + 1) f fd ["script"] (Cf.spLaw K) := by
  refine F.ok Sc law_len (fun cdv A outer s H vs Q E hr h => ?_)
  obtain ⟨st0, rest, e, h1, h2⟩ := hb cdv A outer s H E hr
  rw [e]
  exact ⟨_, pss_cons h1 h2.ps, law_end h h2 q hN (st0 := st0)⟩
theorem fn_lawG {x qual : Str} {st : Stmt} {f : Addr} {fd : FuncData} {N : List Str} {k i : Nat} {body : Rho → Wp Out} (F : Fun K x qual st f fd) (Sc : FnScope N ["script"] (defScope st)) (hN : N.length ≠ 0)
    (hb : ∀ (cdv : Value) (A : Around) (outer : List Env) (s : Shared) (H : Hp) (E : XK), A.guards = some [] → Room k (A.deeper (PyProof.Rows.envOfC qual (defScope st) s.heap.objs.size f cdv)) → ∃ st0 rest, defBody st = st0 :: rest ∧ PS (cxOf CX0 P w K mg base N qual (defScope st) f cdv A outer s H E).nox st0 (tPool K i) ∧ SS (cxOf CX0 P w K mg base N qual (defScope st) f cdv A outer s H E).nox rest body)
    (q : body (lawR N.length i) (fun o => o = .rt (.bool true))) : Cr.RunsG P w K mg base (k + 1) f fd ["script"] (Cf.spLaw K) := by
  refine Cr.fn_g F Sc law_len (fun cdv A outer s H vs Q E hg hr h => ?_)
  obtain ⟨st0, rest, e, h1, h2⟩ := hb cdv A outer s H E hg hr
  rw [e]
  exact ⟨_, pss_cons h1 h2.ps, law_end h h2 q hN (st0 := st0)⟩
/-! ### older contracts -/
theorem at_imp {x : Str} {j : Nat} {ps : List Str} {sp sp' : Sp} (C : Cf.At P w K mg base x j ps sp) (h : ∀ vs H Q E, sp' vs H Q E → sp vs H Q E) : Cf.At P w K mg base x j ps sp' := by
  obtain ⟨f, fd, F, hb, hk, hm⟩ := C.ex
  exact ⟨f, fd, F.imp h, hb, hk, hm⟩
theorem ex_but {a c : Addr} {H H' : Hp} (e : Cf.But a H H') (hp : Cf.PoolAt H' a c) : Ex (some (a, c)) H H' := by
  refine ⟨fun b o n h => e b o (n a c rfl) h, fun a' c' z => (by cases z; exact hp), fun b h => ?_⟩
  by_cases z : b = a
  · exact z ▸ (pool_two hp).1
  · cases y : H b with
    | none => exact absurd y h
    | some o => rw [e b o z y]; exact Option.some_ne_none _
/-- a number below the given one -/
def mDraw : List PyData → Wp PyData
  | [.int n] => fun Q => (0 < n ∧ n < 2 ^ 63) ∧ ∀ d : Int, 0 ≤ d → d < n → Q (.int d)
  | _ => bad
theorem conv_draw {j : Nat} (C : Cf.At P w K mg base "_law_draw" j ["pool", "many"] Cf.spDraw) : Cf.At P w K mg base "_law_draw" j ["pool", "many"] (spQP 1 mDraw) := by
  refine at_imp C fun vs H Q E h => ?_
  obtain ⟨ds, U, a, c, us, rfl, h1, hp, ha, hU, h2, R, hm, hi⟩ := h
  cases h2 with
  | nil => cases h1
  | cons x y =>
    cases y with
    | cons _ _ => cases h1
    | nil =>
      cases x with
      | int n =>
        obtain ⟨⟨n0, n1⟩, hm⟩ := hm
        exact ⟨a, c, n, rfl, hp, n0, n1, fun d H' d0 d1 hp' e => hi _ (hm d d0 d1) _ _ (ex_but e hp') (.int d)⟩
      | non => exact False.elim hm
      | bl _ => exact False.elim hm
      | str _ => exact False.elim hm
      | tup _ _ => exact False.elim hm
      | lst _ _ _ => exact False.elim hm
      | dic _ _ _ => exact False.elim hm
      | dit _ _ _ => exact False.elim hm
end
end Lq
namespace Lq
open PySem L2
/-! ### t[::-1], t[:0:-1] -/
section
variable {X : Cx}
def backQ (d : PyData) (hi : Option Int) : Wp PyData := match d, hi with
  | .tuple ds, none => ret (.tuple ds.reverse)
  | .tuple ds, some i => gd (i = 0 ∧ 0 < ds.length) (.tuple (ds.drop 1).reverse)
  | .list ds, none => ret (.list ds.reverse)
  | _, _ => bad
theorem mono_backQ (d : PyData) (hi : Option Int) : Mono (backQ d hi) := by
  unfold backQ
  split <;> first | exact mono_ret _ | exact mono_gd _ | exact mono_bad
def eBack (f : Rho → Wp PyData) (h : Rho → Wp (Option Int)) : Rho → Wp PyData := fun ρ => bnd (f ρ) fun d => bnd (h ρ) (backQ d)
theorem e_back {g : Bool} {a : Expr} {hi : Option Expr} {kk : Nat} {p1 p2 p3 pos : Pos} {f : Rho → Wp PyData} {h : Rho → Wp (Option Int)} (ha : E X false a f) (hh : Part X hi h) : E X g (.Subscript a (.Slice none hi (some (.UnaryOp .USub (.Constant (.int 1) kk p1) p2)) p3) pos) (eBack f h) := by
  refine E.tr ⟨pe_imp (Cr.pe_back2 ha.pe hh.po) fun σ H Q ⟨fr, O, ρ, A, q⟩ => ?_, fun ρ => mono_bnd (ha.mo ρ) fun _ => mono_bnd (hh.mo ρ) fun _ => mono_backQ _ _⟩
  refine ⟨fr, O, ρ, A, ha.mo ρ _ _ (fun d k1 v H1 e1 g1 => ?_) q⟩
  have A1 := A.ex e1
  refine ⟨fr, O, ρ, A1, hh.mo ρ _ _ (fun hi k2 H2 e2 => ?_) k1⟩
  have A2 := A1.ex e2
  have g2 : TopD fr.U (Wd fr O) H2 v d := A1.gd (g := false) e2 g1
  have e12 := e1.trans e2
  unfold backQ at k2
  split at k2
  · obtain ⟨p, vs, rfl, a, b⟩ := g2.tup
    refine .inl ⟨p, vs, 0, rfl, SqT.of a, .inl ⟨rfl, rfl⟩, fun r n => k2 _ _ (e12.trans (A2.same (dat_new n))) (.tup upd_same (b.reverse.same (dat_new n)))⟩
  · obtain ⟨p, vs, rfl, a, b⟩ := g2.tup
    obtain ⟨⟨rfl, hl⟩, k2⟩ := k2
    refine .inl ⟨p, vs, 1, rfl, SqT.of a, .inr ⟨rfl, rfl, by rw [b.length]; exact hl⟩, fun r n => k2 _ _ (e12.trans (A2.same (dat_new n))) (.tup upd_same ((b.drop 1).reverse.same (dat_new n)))⟩
  · obtain ⟨p, vs, rfl, a, b⟩ := g2.list
    refine .inr ⟨p, vs, rfl, rfl, SqL.of a, fun r n => k2 _ _ (e12.trans (A2.same (dat_new n))) (Dat.lst (wd_new A2 n) upd_same (b.reverse.same (dat_new n)))⟩
  · exact False.elim k2
end
end Lq
namespace Lq
open PySem L2
/-! ### constants of the module, all, any, ranges as values, max of three, empty dicts -/
section
variable {X : Cx} {x : Str} {pos p p2 q : Pos}
theorem e_glob {g : Bool} {i : Int} (h : ∃ t, X.mg x = some (.int i t)) (hg : Gl X x := by rfl) (hd : (x == ("__debug__" : Str)) = false := by decide) : E X g (.Name x pos) (eC (.int i)) := by
  obtain ⟨t, h⟩ := h
  exact ⟨pe_imp (pe_glob (v := .int i) hg h ⟨t, rfl⟩ hd) fun σ H Q ⟨fr, O, ρ, A, q⟩ => q _ H A.refl (Gd.of (.int i)), fun _ => mono_ret _⟩
/-- the truth values of a list -/
def bolsOf : List PyData → Option (List Bool)
  | [] => some []
  | .bool i :: ds => (bolsOf ds).map (i :: ·)
  | _ :: _ => none
theorem bolsOf_ok {W : Addr → Prop} {H : Hp} : ∀ {vs : List V} {ds : List PyData} {ns : List Bool}, Dats W H vs ds → bolsOf ds = some ns → vs = ns.map V.bl
  | _, _, _, .nil, e => by cases e; rfl
  | _, _, ns, .cons (d := d) (ds := ds) h r, e => by
    cases d with
    | bool i =>
      have e : (bolsOf ds).map (i :: ·) = some ns := e
      obtain ⟨ms, h1, rfl⟩ := Option.map_eq_some_iff.mp e
      cases h
      rw [bolsOf_ok r h1]
      rfl
    | none => cases e
    | int _ => cases e
    | str _ => cases e
    | list _ => cases e
    | tuple _ => cases e
    | dict _ => cases e
def bolsW (ds : List PyData) : Wp (List Bool) := match bolsOf ds with
  | some ns => ret ns
  | none => bad
theorem mono_bolsW (ds : List PyData) : Mono (bolsW ds) := by
  unfold bolsW
  split
  · exact mono_ret _
  · exact mono_bad
theorem bolsW_ok {ds : List PyData} {P : List Bool → Prop} (h : bolsW ds P) : ∃ ns, bolsOf ds = some ns ∧ P ns := by
  unfold bolsW at h
  cases e : bolsOf ds with
  | some ns => rw [e] at h; exact ⟨ns, rfl, h⟩
  | none => rw [e] at h; exact False.elim h
def allQ : List PyData → Wp PyData
  | [.list ds] => bnd (bolsW ds) fun ns => ret (.bool (ns.all id))
  | _ => bad
def anyQ : List PyData → Wp PyData
  | [.list ds] => bnd (bolsW ds) fun ns => ret (.bool (ns.any id))
  | _ => bad
theorem q_all (hc : X.calm = true) : CallQ X (.builtin "all") allQ := by
  refine ⟨⟨_, cr_all hc, fun {fr O σ ρ H vs ds Q} A h q => ?_⟩, fun ds => ?_⟩
  · unfold allQ at q
    split at q
    · cases h with
      | cons h r =>
        cases r
        obtain ⟨p, vs, rfl, a, b⟩ := (topd_of h).list
        obtain ⟨ns, e, q⟩ := bolsW_ok q
        exact ⟨p, ns, rfl, by rw [← bolsOf_ok b e]; exact SqL.of a, q _ H (Same.refl H) (.bl _)⟩
    · exact q.elim
  · unfold allQ
    split
    · exact mono_bnd (mono_bolsW _) fun _ => mono_ret _
    · exact mono_bad
theorem q_any (hc : X.calm = true) : CallQ X (.builtin "any") anyQ := by
  refine ⟨⟨_, cr_any hc, fun {fr O σ ρ H vs ds Q} A h q => ?_⟩, fun ds => ?_⟩
  · unfold anyQ at q
    split at q
    · cases h with
      | cons h r =>
        cases r
        obtain ⟨p, vs, rfl, a, b⟩ := (topd_of h).list
        obtain ⟨ns, e, q⟩ := bolsW_ok q
        exact ⟨p, ns, rfl, by rw [← bolsOf_ok b e]; exact SqL.of a, q _ H (Same.refl H) (.bl _)⟩
    · exact q.elim
  · unfold anyQ
    split
    · exact mono_bnd (mono_bolsW _) fun _ => mono_ret _
    · exact mono_bad
/-! list(range(..)), tuple(range(..)) -/
variable {e : Expr} {f k : Rho → Wp PyData}
theorem rgV_dats {W : Addr → Prop} {H : Hp} (a b : Int) : Dats W H (rgV a b) (upto a (b - a).toNat) := by
  unfold rgV upto
  induction List.range (b - a).toNat with
  | nil => exact .nil
  | cons i is ih => exact .cons (.int _) ih
def rgW (a b : Int) (l : Bool) : Wp PyData := gd (RgOk a b) (if l = true then .list (upto a (b - a).toNat) else .tuple (upto a (b - a).toNat))
def eRg1 (l : Bool) (f : Rho → Wp PyData) : Rho → Wp PyData := fun ρ => bnd (f ρ) fun d => match d with
  | .int n => rgW 0 n l
  | _ => bad
def eRg2 (l : Bool) (f k : Rho → Wp PyData) : Rho → Wp PyData := fun ρ => bnd (f ρ) fun d => bnd (k ρ) fun e => match d, e with
  | .int m, .int n => rgW m n l
  | _, _ => bad
theorem mono_eRg1 {l : Bool} (h : ∀ ρ, Mono (f ρ)) (ρ : Rho) : Mono (eRg1 l f ρ) := mono_bnd (h ρ) fun d => by
  cases d <;> first | exact mono_gd _ | exact mono_bad
theorem mono_eRg2 {l : Bool} (h : ∀ ρ, Mono (f ρ)) (r : ∀ ρ, Mono (k ρ)) (ρ : Rho) : Mono (eRg2 l f k ρ) := mono_bnd (h ρ) fun d => mono_bnd (r ρ) fun e => by
  cases d <;> first | exact mono_bad | (cases e <;> first | exact mono_gd _ | exact mono_bad)
theorem prg1_of (mo : ∀ ρ, Mono (f ρ)) {l : Bool} {σ : St} {H : Hp} {Q : VK} (q : teOf true (eRg1 l f) σ H Q) (hf : teOf false f = teOf false f) : tRg1 (teOf false f) σ H fun a b H1 => RgOk a b ∧ ∀ q, H1 q = none → Q (.ref q) (upd H1 q (if l = true then .lst (rgV a b) else .tup (rgV a b))) := by
  obtain ⟨fr, O, ρ, A, q⟩ := q
  refine ⟨fr, O, ρ, A, mo ρ _ _ (fun d k v H1 e1 g1 => ?_) q⟩
  cases d with
  | int n =>
    cases (show TopD _ _ _ _ _ from g1).int
    refine ⟨n, rfl, k.1, fun p hp => ?_⟩
    have A1 := A.ex e1
    have k2 := k.2
    cases l with
    | true => exact k2 _ _ (e1.trans (Ex.new A1 hp)) (Dat.lst (wd_new A1 hp) upd_same (rgV_dats _ _))
    | false => exact k2 _ _ (e1.trans (Ex.new A1 hp)) (Dat.tup upd_same (rgV_dats _ _))
  | none => exact False.elim k
  | bool _ => exact False.elim k
  | str _ => exact False.elim k
  | list _ => exact False.elim k
  | tuple _ => exact False.elim k
  | dict _ => exact False.elim k
theorem e_listRg1 {g : Bool} {a : Expr} (hc : X.calm = true) (ha : E X false a f) (hm : X.mg "list" = none) (hr : X.mg "range" = none) (hg : Gl X "list" := by rfl) (hg2 : Gl X "range" := by rfl)
    (na : starEach [.Call (.Name "range" p2) [a] [] q] X.env = (false, eval (.Call (.Name "range" p2) [a] [] q) X.env) :: starEach [] X.env := by rfl) (nb : starEach [a] X.env = (false, eval a X.env) :: starEach [] X.env := by rfl) : E X g (.Call (.Name "list" p) [.Call (.Name "range" p2) [a] [] q] [] pos) (eRg1 true f) :=
  E.tr ⟨pe_imp (pe_listRg hc hg hm (prg_1 hg2 hr ha.pe nb) na) fun σ H Q q => prg1_of ha.mo q rfl, mono_eRg1 ha.mo⟩
theorem e_tupRg1 {g : Bool} {a : Expr} (hc : X.calm = true) (ha : E X false a f) (hm : X.mg "tuple" = none) (hr : X.mg "range" = none) (hg : Gl X "tuple" := by rfl) (hg2 : Gl X "range" := by rfl)
    (na : starEach [.Call (.Name "range" p2) [a] [] q] X.env = (false, eval (.Call (.Name "range" p2) [a] [] q) X.env) :: starEach [] X.env := by rfl) (nb : starEach [a] X.env = (false, eval a X.env) :: starEach [] X.env := by rfl) : E X g (.Call (.Name "tuple" p) [.Call (.Name "range" p2) [a] [] q] [] pos) (eRg1 false f) :=
  E.tr ⟨pe_imp (pe_tupRg hc hg hm (prg_1 hg2 hr ha.pe nb) na) fun σ H Q q => prg1_of ha.mo q rfl, mono_eRg1 ha.mo⟩
/-! max, min of three -/
def max3Q : List PyData → Wp PyData
  | [.int i, .int j, .int k] => ret (.int (max (max i j) k))
  | _ => bad
theorem nu_max3 (i j k : Int) : nuMax3 (.int i) (.int j) (.int k) = some (.int (max (max i j) k)) := by
  have two : ∀ a b : Int, nuMax2 (.int a) (.int b) = some (.int (max a b)) := fun a b => by
    show some (if decide (a < b) = true then V.int b else V.int a) = _
    by_cases h : a < b
    · rw [if_pos (decide_eq_true h), Int.max_eq_right (by omega)]
    · rw [if_neg (by simpa using h), Int.max_eq_left (by omega)]
  show (nuMax2 (.int i) (.int j)).bind (fun m => nuMax2 m (.int k)) = _
  rw [two]; exact two _ _
theorem q_max3 (hc : X.calm = true) : CallQ X (.builtin "max") max3Q := by
  refine ⟨⟨_, call_max3Nu hc, fun {fr O σ ρ H vs ds Q} A h q => ?_⟩, fun ds => ?_⟩
  · unfold max3Q at q
    split at q
    · cases h with
      | cons h r => cases r with
        | cons h2 r => cases r with
          | cons h3 r => cases r; cases (topd_of h).int; cases (topd_of h2).int; cases (topd_of h3).int; exact ⟨_, _, _, _, rfl, nu_max3 _ _ _, q _ H (Same.refl H) (.int _)⟩
    · exact q.elim
  · unfold max3Q
    split <;> first | exact mono_ret _ | exact mono_bad
/-! {} as a thing -/
theorem e_d0 {g : Bool} : E X g (.Dict [] [] pos) (eC (.dict [])) := by
  refine E.tr ⟨pe_imp pe_dnewK fun σ H Q ⟨fr, O, ρ, A, q⟩ => ?_, fun _ => mono_ret _⟩
  exact fun p hp => q _ _ (Ex.new A hp) (Dat.dic (wd_new A hp) upd_same .nil)
theorem e_d0T {g : Bool} : E X g (.Dict [] [] pos) (eC (.dict [(.none, .none)])) := by
  refine E.tr ⟨pe_imp pe_dnewT fun σ H Q ⟨fr, O, ρ, A, q⟩ => ?_, fun _ => mono_ret _⟩
  exact fun p hp => q _ _ (Ex.new A hp) (Dat.dit (wd_new A hp) upd_same .nil)
end
/-! ### an own thing becomes data -/
def frzS : Sl → Sl
  | .lst ds => .val (.list ds)
  | .dic es => .val (.dict es)
  | .dit es => .val (.dict ((.none, .none) :: es))
  | s => s
def frzR (i : Nat) (ρ : Rho) : Rho := match ρ[i]? with
  | some s => ρ.set i (frzS s)
  | none => ρ
section
variable {fr : Fr} {O : List (Option Addr)} {σ : St} {ρ : Rho} {H : Hp}
theorem set_self {α : Type} {xs : List α} {i : Nat} {x : α} (h : xs[i]? = some x) : xs.set i x = xs := by
  refine List.ext_getElem? fun j => ?_
  rw [List.getElem?_set]
  split
  · rename_i e
    subst e
    rw [h]
    split
    · rfl
    · rename_i h2; exact absurd (List.getElem?_eq_some_iff.mp h).1 h2
  · rfl
theorem At.frz (A : At fr O σ ρ H) (i : Nat) : ∃ O', At fr O' σ (frzR i ρ) H := by
  unfold frzR
  cases h : ρ[i]? with
  | none => exact ⟨O, A⟩
  | some s =>
    obtain ⟨o, x, h1, h2, h3⟩ := A.sl.get h
    have eσ : σ.set i x = σ := set_self h2
    have hw : ∀ p, ¬ Wd fr O p → H p ≠ none → ¬ Wd fr (O.set i none) p := fun p n _ z => n (z.elim .inl fun m => .inr (mem_set_none m))
    have free : ∀ p, o = some p → ¬ Wd fr (O.set i none) p := fun p e z => by
      subst e
      rcases z with z | z
      · exact (A.own p (List.mem_of_getElem? h1)).1.1 z
      · obtain ⟨j, hj, e⟩ := List.getElem_of_mem z
        have ej : (O.set i none)[j]? = some (some p) := by rw [List.getElem?_eq_getElem hj, e]
        have e2 := A.nd j i p (get_set_none ej) h1
        subst e2
        rw [List.getElem?_set] at ej
        simp only [if_true] at ej
        split at ej <;> cases ej
    have fin : ∀ s', SlotAt (Wd fr (O.set i none)) fr.pl H none x s' → ∃ O', At fr O' σ (ρ.set i s') H := fun s' hs => by
      refine ⟨O.set i none, ⟨?_, A.keep, A.pool, fun p m => A.own p (mem_set_none m), fun j k p h1 h2 => A.nd j k p (get_set_none h1) (get_set_none h2), A.up, A.st⟩⟩
      have := Slots.set hs i (A.sl.to hw (fun _ _ => id) (fun _ _ _ => id) fun _ _ _ => id)
      rwa [eσ] at this
    cases h3 with
    | un => exact ⟨O, by have e : List.set ρ i (frzS .un) = ρ := set_self h; show At fr O σ (List.set ρ i (frzS _)) H; rw [e]; exact A⟩
    | val _ => exact ⟨O, by have e : List.set ρ i (frzS (.val _)) = ρ := set_self h; show At fr O σ (List.set ρ i (frzS _)) H; rw [e]; exact A⟩
    | pool _ => exact ⟨O, by have e : List.set ρ i (frzS .pool) = ρ := set_self h; show At fr O σ (List.set ρ i (frzS _)) H; rw [e]; exact A⟩
    | lst a b => exact fin _ (.val (.lst (free _ rfl) a (b.to hw (fun _ _ => id) fun _ _ _ => id)))
    | dic a b => exact fin _ (.val (.dic (free _ rfl) a (b.to hw (fun _ _ => id) fun _ _ _ => id)))
    | dit a b => exact fin _ (.val (.dit (free _ rfl) a (b.to hw (fun _ _ => id) fun _ _ _ => id)))
end
def sFrz (i : Nat) (f : Rho → Wp Out) : Rho → Wp Out := fun ρ => f (frzR i ρ)
section
variable {X : Cx} {st : Stmt} {f : Rho → Wp Out}
theorem s_frz (i : Nat) (h : S X st f) : S X st (sFrz i f) := by
  refine ⟨ps_imp h.ps fun D σ H ⟨fr, O, ρ, A, q⟩ => ?_, fun ρ => h.mo _⟩
  obtain ⟨O', A'⟩ := A.frz i
  exact ⟨fr, O', _, A', q⟩
/-! ### x += e, x -= e -/
def sAug (o : Int → Int → Int) (i : Nat) (f : Rho → Wp PyData) : Rho → Wp Out := fun ρ => bnd (slV ρ[i]?) fun d => bnd (f ρ) fun e => match d, e with
  | .int m, .int n => ret (.nx (ρ.set i (.val (.int (o m n)))))
  | _, _ => bad
variable {x : Str} {px spos : Pos} {e : Expr} {fe : Rho → Wp PyData}
theorem slV_ok {o : Option Sl} {P : PyData → Prop} (h : slV o P) : ∃ d, o = some (.val d) ∧ P d := by
  unfold slV at h
  split at h
  · exact ⟨_, rfl, h⟩
  · exact h.elim
theorem mono_sAug {o : Int → Int → Int} {i : Nat} (h : ∀ ρ, Mono (fe ρ)) (ρ : Rho) : Mono (sAug o i fe ρ) := mono_bnd (mono_slV _) fun d => mono_bnd (h ρ) fun e => by
  cases d <;> first | exact mono_bad | (cases e <;> first | exact mono_ret _ | exact mono_bad)
theorem s_aug {op : Operator} {o : Int → Int → Int} (i : Nat) (ho : PIp X op (ipI o)) (hN : X.N.Nodup) (h : E X true e fe) (hi : X.N[i]? = some x := by rfl) (hx : Loc X.env.scope x := by first | exact Or.inl rfl | exact Or.inr rfl) (hf : X.fn x = true ∨ X.env.scope.names.lookup x = some .local := by first | exact .inl rfl | exact .inr rfl) : S X (.AugAssign (.Name x px) op e spos) (sAug o i fe) := by
  refine ⟨ps_imp (ps_aug hN hi hx h.pe ho hf) fun D σ H ⟨fr, O, ρ, A, q⟩ => ?_, mono_sAug h.mo⟩
  obtain ⟨d, hd, q⟩ := slV_ok q
  obtain ⟨v, h1, h2⟩ := A.val hd
  refine ⟨v, h1, fr, O, ρ, A, h.mo ρ _ _ (fun e' k u H1 e1 g1 => ?_) q⟩
  cases d with
  | int m =>
    cases e' with
    | int n =>
      cases h2
      cases (show Dat (Wd fr O) H1 u (.int n) from g1)
      exact ⟨m, n, rfl, rfl, k _ _ H1 ((A.ex e1).setVal i (.int _))⟩
    | none => exact False.elim k
    | bool _ => exact False.elim k
    | str _ => exact False.elim k
    | list _ => exact False.elim k
    | tuple _ => exact False.elim k
    | dict _ => exact False.elim k
  | none => exact False.elim k
  | bool _ => exact False.elim k
  | str _ => exact False.elim k
  | list _ => exact False.elim k
  | tuple _ => exact False.elim k
  | dict _ => exact False.elim k
def sAugadd (i : Nat) (f : Rho → Wp PyData) := sAug (fun m n => m + n) i f
def sAugsub (i : Nat) (f : Rho → Wp PyData) := sAug (fun m n => m - n) i f
theorem s_augadd (i : Nat) (hN : X.N.Nodup) (h : E X true e fe) (hi : X.N[i]? = some x := by rfl) (hx : Loc X.env.scope x := by first | exact Or.inl rfl | exact Or.inr rfl) (hf : X.fn x = true ∨ X.env.scope.names.lookup x = some .local := by first | exact .inl rfl | exact .inr rfl) : S X (.AugAssign (.Name x px) .Add e spos) (sAugadd i fe) := s_aug i ip_add hN h hi hx hf
theorem s_augsub (i : Nat) (hN : X.N.Nodup) (h : E X true e fe) (hi : X.N[i]? = some x := by rfl) (hx : Loc X.env.scope x := by first | exact Or.inl rfl | exact Or.inr rfl) (hf : X.fn x = true ∨ X.env.scope.names.lookup x = some .local := by first | exact .inl rfl | exact .inr rfl) : S X (.AugAssign (.Name x px) .Sub e spos) (sAugsub i fe) := s_aug i ip_sub hN h hi hx hf
end
end Lq
namespace Lq
open PySem L2
/-! ### repr of data -/
section
variable {X : Cx} {pins : List (Addr × Obj)} {σ : L2.St} {H : Hp} {s : Shared} {U : Addr → Prop}
mutual
theorem dat_reads (I : Inv X pins σ H s) : ∀ {v : V} {d : PyData} {u : Value}, Dat U H v d → d.hasDict = false → RelV v u → ∃ as, Reads s.heap u d as
  | _, _, _, .non, _, r => by cases r; exact ⟨_, .none⟩
  | _, _, _, .bl b, _, r => by cases r; exact ⟨_, .bool _⟩
  | _, _, _, .int i, _, r => by obtain ⟨t, rfl⟩ := r; exact ⟨_, .int _ _⟩
  | _, _, _, .str x, _, r => by obtain ⟨t, rfl⟩ := r; exact ⟨_, .str _ _⟩
  | _, _, _, .tup h k, hd, r => by
    cases r
    obtain ⟨its, rv, ⟨o, ho, hc, n, hdt⟩, _⟩ := I.tuple (SqT.of h)
    obtain ⟨as, ra⟩ := dats_reads I k (by simpa [PyData.hasDict] using hd) rv
    exact ⟨as, .tuple ho hc hdt (by simpa using ra)⟩
  | _, _, _, .lst _ h k, hd, r => by
    cases r
    obtain ⟨its, rv, ⟨o, n, ho, hc, hx, hdt⟩, _⟩ := I.list (SqL.of h)
    obtain ⟨as, ra⟩ := dats_reads I k (by simpa [PyData.hasDict] using hd) rv
    exact ⟨_, .list ho hc hdt (by simpa using ra)⟩
  | _, _, _, .dic _ _ _, hd, _ => by simp [PyData.hasDict] at hd
  | _, _, _, .dit _ _ _, hd, _ => by simp [PyData.hasDict] at hd
theorem dats_reads (I : Inv X pins σ H s) : ∀ {v : List V} {d : List PyData} {u : List Value}, Dats U H v d → PyData.hasDictAll d = false → Vals v u → ∃ as, ReadsAll s.heap u d as
  | _, _, _, .nil, _, r => by cases r; exact ⟨_, .nil⟩
  | _, _, _, .cons h k, hd, r => by
    cases r with
    | cons r1 r2 =>
      simp only [PyData.hasDictAll, Bool.or_eq_false_iff] at hd
      obtain ⟨as, h1⟩ := dat_reads I h hd.1 r1
      obtain ⟨bs, h2⟩ := dats_reads I k hd.2 r2
      exact ⟨_, .cons h1 h2⟩
end
mutual
/-- neither lists nor dicts within -/
def flatT : PyData → Bool
  | .list _ => false
  | .dict _ => false
  | .tuple ds => flatTs ds
  | _ => true
def flatTs : List PyData → Bool
  | [] => true
  | d :: ds => flatT d && flatTs ds
end
mutual
theorem dat_reads0 (I : Inv X pins σ H s) : ∀ {v : V} {d : PyData} {u : Value}, Dat U H v d → flatT d = true → RelV v u → Reads s.heap u d []
  | _, _, _, .non, _, r => by cases r; exact .none
  | _, _, _, .bl b, _, r => by cases r; exact .bool _
  | _, _, _, .int i, _, r => by obtain ⟨t, rfl⟩ := r; exact .int _ _
  | _, _, _, .str x, _, r => by obtain ⟨t, rfl⟩ := r; exact .str _ _
  | _, _, _, .tup h k, hd, r => by
    cases r
    obtain ⟨its, rv, ⟨o, ho, hc, n, hdt⟩, _⟩ := I.tuple (SqT.of h)
    exact .tuple ho hc hdt (by simpa using dats_reads0 I k (by simpa [flatT] using hd) rv)
  | _, _, _, .lst _ h k, hd, r => by simp [flatT] at hd
  | _, _, _, .dic _ _ _, hd, _ => by simp [flatT] at hd
  | _, _, _, .dit _ _ _, hd, _ => by simp [flatT] at hd
theorem dats_reads0 (I : Inv X pins σ H s) : ∀ {v : List V} {d : List PyData} {u : List Value}, Dats U H v d → flatTs d = true → Vals v u → ReadsAll s.heap u d []
  | _, _, _, .nil, _, r => by cases r; exact .nil
  | _, _, _, .cons h k, hd, r => by
    cases r with
    | cons r1 r2 =>
      simp only [flatTs, Bool.and_eq_true] at hd
      exact .cons (as := []) (bs := []) (dat_reads0 I h hd.1 r1) (dats_reads0 I k hd.2 r2)
end
/-- entries of a dict whose keys are tuples -/
theorem ents_readsT (I : Inv X pins σ H s) : ∀ {kvs : List (List Key × V)} {xs : List (List Key × Addr × Value)} {es : List (PyData × PyData)}, KT H kvs xs → DatT U H kvs es → (∀ e ∈ es, flatT e.2 = true) →
    ReadsAll s.heap (xs.map fun x => Value.ref x.2.1) (es.map (·.1)) [] ∧ ReadsAll s.heap (xs.map fun x => x.2.2) (es.map (·.2)) []
  | _, _, _, .nil, .nil, _ => ⟨.nil, .nil⟩
  | (k, v) :: kvs, (k', b, u) :: xs, _, .cons h t, .cons hv hr, hf => by
    obtain ⟨e1, e2, e3⟩ := h
    obtain ⟨a, b⟩ := ents_readsT I t hr fun e m => hf e (List.mem_cons_of_mem _ m)
    obtain ⟨its, rv, ⟨o, ho, hc, n, hdt⟩, _⟩ := I.tuple (SqT.of e2)
    have kf : ∀ ks : List Key, flatTs (ks.map kD) = true := fun ks => by
      induction ks with
      | nil => rfl
      | cons k ks ih => cases k <;> simp [flatTs, flatT, kD, ih]
    refine ⟨ReadsAll.cons (as := []) (bs := []) (.tuple ho hc hdt (by simpa using dats_reads0 (U := U) I (dats_kV k) (kf k) rv)) a, ReadsAll.cons (as := []) (bs := []) (dat_reads0 I hv (hf _ List.mem_cons_self) e3) b⟩
theorem dit_reads (I : Inv X pins σ H s) {p : Addr} {kvs : List (List Key × V)} {es : List (PyData × PyData)} (h : H p = some (.dT kvs)) (k : DatT U H kvs es) (hf : ∀ e ∈ es, flatT e.2 = true) : Reads s.heap (.ref p) (.dict es) [p] ∧ p ≠ sysModules := by
  obtain ⟨z, hs, xs, kt, o, eo, ep, ho, hx, hdt, hes, nd⟩ := (show ObjOk X.prog X.w H s.heap p (.dT kvs) from I.hok p _ h)
  obtain ⟨a, b⟩ := ents_readsT I kt k hf
  refine ⟨.dict ho hx.1 hdt (as := []) (bs := []) ?_ ?_, fun e => by rw [e] at hs; simp at hs⟩
  · rw [hes, List.map_map]; exact a
  · rw [hes, List.map_map]; exact b
end
/-- what a text of data asks -/
structure Shows (d : PyData) : Prop where
  able : d.showable = true
  len : d.shown.length ≤ sizeLine
  dep : d.depth ≤ 60
def reprQ : List PyData → Wp PyData
  | [.dict ((.none, _) :: es)] => gd (Shows (.dict es) ∧ ∀ e ∈ es, flatT e.2 = true) (.str (PyData.dict es).shown)
  | [d] => gd (Shows d ∧ d.hasDict = false) (.str d.shown)
  | _ => bad
section
variable {X : Cx}
def rRepr (X : Cx) : List V → Hp → VK → Prop := fun xs H Q => ∃ v d, xs = [v] ∧ Shows d ∧ (∀ (pins : List (Addr × Obj)) (σ : L2.St) (s : Shared) (u : Value), Inv X pins σ H s → RelV v u → ∃ as, Reads s.heap u d as ∧ (d.hasDict = true → sysModules ∉ as)) ∧ Q (.str d.shown) H
theorem call_repr (hg : X.A.guards = some []) (hu : X.A.units + 65 < cLine) : CallR X (.builtin "repr") (rRepr X) := by
  intro pins s σ H xs us Q I r h
  obtain ⟨v, d, rfl, sh, hr, q⟩ := h
  obtain ⟨u, rfl, rx⟩ := vals1 r
  obtain ⟨as, rd, hs⟩ := hr pins σ s u I rx
  cases rd with
  | none => exact P.repr_of_none ⟨.str _, H, I.tok _, ⟨_, rfl⟩, q⟩
  | bool b => exact P.repr_of_bool ⟨.str _, H, I.tok _, ⟨_, by cases b <;> rfl⟩, q⟩
  | int i t => exact P.repr_of_int (by simpa [PyData.showable] using sh.able) ⟨.str _, H, I.tok _, ⟨_, rfl⟩, q⟩
  | str x t => exact P.repr_of_str ⟨.str _, H, I.tok _, ⟨_, rfl⟩, q⟩ sh.len
  | list h1 h2 h3 h4 => exact repr_of_reads' (.list h1 h2 h3 h4) sh.able hs hg (by have := sh.dep; omega) (fun _ _ e => e) (fun h' u tk k => ⟨.str _, H, I.kept (t' := tk) k, ⟨_, rfl⟩, q⟩) sh.len
  | tuple h1 h2 h3 h4 => exact repr_of_reads' (.tuple h1 h2 h3 h4) sh.able hs hg (by have := sh.dep; omega) (fun _ _ e => e) (fun h' u tk k => ⟨.str _, H, I.kept (t' := tk) k, ⟨_, rfl⟩, q⟩) sh.len
  | dict h1 h2 h3 h4 h5 => exact repr_of_reads' (.dict h1 h2 h3 h4 h5) sh.able hs hg (by have := sh.dep; omega) (fun _ _ e => e) (fun h' u tk k => ⟨.str _, H, I.kept (t' := tk) k, ⟨_, rfl⟩, q⟩) sh.len
theorem topd_reads {pins : List (Addr × Obj)} {σ : L2.St} {H : Hp} {s : Shared} {U W : Addr → Prop} (I : Inv X pins σ H s) {v : V} {d : PyData} {u : Value} (h : TopD U W H v d) (hd : d.hasDict = false) (r : RelV v u) : ∃ as, Reads s.heap u d as := by
  cases h with
  | of h => exact dat_reads I h hd r
  | lst _ h k =>
    cases r
    obtain ⟨its, rv, ⟨o, n, ho, hc, hx, hdt⟩, _⟩ := I.list (SqL.of h)
    obtain ⟨as, ra⟩ := dats_reads I k (by simpa [PyData.hasDict] using hd) rv
    exact ⟨_, .list ho hc hdt (by simpa using ra)⟩
  | dic _ _ _ => simp [PyData.hasDict] at hd
  | dit _ _ _ => simp [PyData.hasDict] at hd
theorem q_repr (hg : X.A.guards = some []) (hu : X.A.units + 65 < cLine) : CallQ X (.builtin "repr") reprQ := by
  refine ⟨⟨_, call_repr hg hu, fun {fr O σ ρ H vs ds Q} A h q => ?_⟩, fun ds => ?_⟩
  · unfold reprQ at q
    split at q
    · rename_i es
      cases h with
      | cons h r =>
        cases r
        obtain ⟨p, rfl, hh⟩ := (topd_of h).dict
        rcases hh with ⟨kvs, a, b⟩ | ⟨kvs, fs, e, a, b⟩
        · exact (datK_none b).elim
        · cases e
          refine ⟨.ref p, .dict _, rfl, q.1.1, fun pins σ s u I r => ?_, q.2 _ H (Same.refl H) (.str _)⟩
          cases r
          obtain ⟨z1, z2⟩ := dit_reads I a b q.1.2
          exact ⟨[p], z1, fun _ m => z2 (List.mem_singleton.mp m).symm⟩
    · cases h with
      | cons h r =>
        cases r
        refine ⟨_, _, rfl, q.1.1, fun pins σ s u I r => ?_, q.2 _ H (Same.refl H) (.str _)⟩
        obtain ⟨as, z⟩ := topd_reads I (topd_of h) q.1.2 r
        exact ⟨as, z, fun h => by rw [q.1.2] at h; cases h⟩
    · exact q.elim
  · unfold reprQ
    split <;> first | exact mono_gd _ | exact mono_bad
end
end Lq
namespace Lq
open PySem L2
/-! ### zip, enumerate, texts walked -/
section
variable {X : Cx} {tg iter : Expr} {pos tpos p : Pos} {elts : List Expr} {kk : Nat}
theorem its_pair {b : Bool} {fr : Fr} {O : List (Option Addr)} {σ : St} {ρ : Rho} {H : Hp} {J : It} {f g : Nat → Option V} {ds : List PyData} {Gd : Hp → Prop} (A : At fr O σ ρ H) (w : Walk J ds.length Gd (YPair f g)) (hG : ∀ H2, (if b = true then Kept fr O H H2 else Ex fr.pl H H2) → Gd H2)
    (h : ∀ i x y, i < ds.length → f i = some x → g i = some y → ∃ d e, ds[i]? = some (.tuple [d, e]) ∧ Dat (Wd fr O) H x d ∧ Dat (Wd fr O) H y e) : Its b fr O H J ds := by
  refine ⟨Gd, _, w, hG, fun i Ha x Hb W hi k hW y => ?_⟩
  obtain ⟨T, u, v, rfl, hT, rfl, h1, h2⟩ := y
  obtain ⟨d, e, hd, k1, k2⟩ := h i u v hi h1 h2
  obtain ⟨g1, g2⟩ := A.via k
  have sm := Cf.same_new hT (HO.tup [u, v])
  exact ⟨sm, _, hd, .tup upd_same (.cons ((k1.to hW g1 g2).same sm) (.cons ((k2.to hW g1 g2).same sm) .nil))⟩
def zipD (a b : List PyData) : List PyData := List.zipWith (fun x y => .tuple [x, y]) a b
def zipW : List PyData → Wp (List PyData)
  | [.list a, .list b] => ret (zipD a b)
  | [.tuple a, .tuple b] => ret (zipD a b)
  | _ => bad
theorem mono_zipW (ds : List PyData) : Mono (zipW ds) := by
  unfold zipW
  split <;> first | exact mono_ret _ | exact mono_bad
theorem zipD_len (a b : List PyData) : (zipD a b).length = min a.length b.length := by simp [zipD]
theorem zipD_get {a b : List PyData} {i : Nat} {x y : PyData} (h : a[i]? = some x) (k : b[i]? = some y) : (zipD a b)[i]? = some (.tuple [x, y]) := by simp [zipD, List.getElem?_zipWith, h, k]
theorem walk_zipT {K : PySem.W.Frag} {a b : Addr} {xs ys : List V} {n : Nat} (hn : n = min xs.length ys.length) : Walk (RZ.ItzT K a b) n (fun H => SqT K H a xs ∧ SqT K H b ys) (YPair (fun i => xs[i]?) (fun i => ys[i]?)) := by
  subst hn
  refine ⟨fun i _ hi q => ?_, fun _ q => ⟨xs, ys, q.1, q.2, by omega⟩, fun i H v H' _ q y => ?_⟩
  · have h1 : i < xs.length := by omega
    have h2 : i < ys.length := by omega
    exact ⟨xs, ys, xs[i], ys[i], q.1, q.2, by simp [h1], by simp [h2]⟩
  · obtain ⟨T, x, z, h1, h2, h3, h4, h5⟩ := y
    exact ⟨T, x, z, h1, h2, h3, h4 xs q.1, h5 ys q.2⟩
theorem i_zip {b : Bool} {e1 e2 : Expr} {ka : Rho → Wp (List PyData)} (hm : X.mg "zip" = none) (ha : A X true [e1, e2] ka) (hg : Gl X "zip" := by rfl)
    (hs : starEach [e1, e2] X.env = (false, eval e1 X.env) :: starEach [e2] X.env := by rfl) (hpl : (backTo pos (starEach [e2] X.env)).any (·.1) = false := by rfl) : I X b (.Tuple elts kk tpos) (.Call (.Name "zip" p) [e1, e2] [] pos) (iCall zipW ka) := by
  refine ⟨pi_imp (RZ.pi_zipA hg hm ha.pa hs hpl) fun σ H R ⟨fr, O, ρ, A, q⟩ => ?_, fun ρ => mono_bnd (ha.mo ρ) mono_zipW⟩
  refine ⟨fr, O, ρ, A, ha.mo ρ _ _ (fun ds k vs H1 e1 g1 => ?_) q⟩
  have A1 := A.ex e1
  unfold zipW at k
  split at k
  · cases g1 with
    | cons h r => cases r with
      | cons h2 r =>
        cases r
        have h : Dat (Wd fr O) H1 _ _ := h
        have h2 : Dat (Wd fr O) H1 _ _ := h2
        cases h with
        | @lst pa va _ na ka1 da => cases h2 with
          | @lst pb vb _ nb kb db =>
            refine ⟨pa, pb, va, vb, rfl, .inl ⟨SqL.of ka1, SqL.of kb, k _ H1 e1 ?_⟩⟩
            refine its_pair A1 (walk_zip (xs := va) (ys := vb) (by rw [zipD_len, da.length, db.length])) (fun H2 kk => ⟨?_, ?_⟩) fun i x y hi hx hy => ?_
            · exact SqL.of ((A1.via kk).2 _ _ na ka1)
            · exact SqL.of ((A1.via kk).2 _ _ nb kb)
            · obtain ⟨d1, z1, z2⟩ := da.getV hx
              obtain ⟨d2, y1, y2⟩ := db.getV hy
              exact ⟨d1, d2, zipD_get z1 y1, z2, y2⟩
  · cases g1 with
    | cons h r => cases r with
      | cons h2 r =>
        cases r
        have h : Dat (Wd fr O) H1 _ _ := h
        have h2 : Dat (Wd fr O) H1 _ _ := h2
        cases h with
        | @tup pa va _ ka1 da => cases h2 with
          | @tup pb vb _ kb db =>
            refine ⟨pa, pb, va, vb, rfl, .inr ⟨SqT.of ka1, SqT.of kb, k _ H1 e1 ?_⟩⟩
            refine its_pair A1 (walk_zipT (xs := va) (ys := vb) (by rw [zipD_len, da.length, db.length])) (fun H2 kk => ⟨?_, ?_⟩) fun i x y hi hx hy => ?_
            · exact SqT.of ((A1.via kk).1 _ _ ka1)
            · exact SqT.of ((A1.via kk).1 _ _ kb)
            · obtain ⟨d1, z1, z2⟩ := da.getV hx
              obtain ⟨d2, y1, y2⟩ := db.getV hy
              exact ⟨d1, d2, zipD_get z1 y1, z2, y2⟩
  · exact False.elim k
/-- enumerate(list) -/
def enumD (a : List PyData) : List PyData := a.mapIdx fun i x => .tuple [.int (i : Int), x]
def enumW : List PyData → Wp (List PyData)
  | [.list a] => ret (enumD a)
  | _ => bad
theorem mono_enumW (ds : List PyData) : Mono (enumW ds) := by
  unfold enumW
  split <;> first | exact mono_ret _ | exact mono_bad
theorem enumD_len (a : List PyData) : (enumD a).length = a.length := by simp [enumD]
theorem i_enum {b : Bool} {e1 : Expr} {ka : Rho → Wp (List PyData)} (hm : X.mg "enumerate" = none) (ha : A X true [e1] ka) (hg : Gl X "enumerate" := by rfl)
    (hs : starEach [e1] X.env = [(false, eval e1 X.env)] := by rfl) : I X b (.Tuple elts kk tpos) (.Call (.Name "enumerate" p) [e1] [] pos) (iCall enumW ka) := by
  refine ⟨pi_imp (pi_enum hg hm ha.pa hs) fun σ H R ⟨fr, O, ρ, A, q⟩ => ?_, fun ρ => mono_bnd (ha.mo ρ) mono_enumW⟩
  refine ⟨fr, O, ρ, A, ha.mo ρ _ _ (fun ds k vs H1 e1 g1 => ?_) q⟩
  have A1 := A.ex e1
  unfold enumW at k
  split at k
  · cases g1 with
    | cons h r =>
      cases r
      have h : Dat (Wd fr O) H1 _ _ := h
      cases h with
      | @lst pa va _ na ka1 da =>
        refine ⟨pa, va, rfl, SqL.of ka1, k _ H1 e1 ?_⟩
        have w := walk_enum (K := X.K) (a := pa) (xs := va)
        rw [da.length, ← enumD_len] at w
        refine its_pair A1 w (fun H2 kk => SqL.of ((A1.via kk).2 _ _ na ka1)) fun i x y hi hx hy => ?_
        cases hx
        obtain ⟨d2, y1, y2⟩ := da.getV hy
        exact ⟨.int (i : Nat), d2, by simp [enumD, y1], .int _, y2⟩
  · exact False.elim k
/-- a text, sign by sign -/
def signs (x : Str) : List PyData := x.cps.toList.map fun c => .str ⟨#[c]⟩
def signsW : PyData → Wp (List PyData)
  | .str x => ret (signs x)
  | _ => bad
theorem mono_signsW (d : PyData) : Mono (signsW d) := by
  unfold signsW
  split <;> first | exact mono_ret _ | exact mono_bad
def iStr (f : Rho → Wp PyData) : Rho → Wp (List PyData) := fun ρ => bnd (f ρ) signsW
theorem i_str {b : Bool} {e : Expr} {f : Rho → Wp PyData} (h : E X false e f) : I X b tg e (iStr f) := by
  refine ⟨pi_imp (pi_str h.pe) fun σ H R ⟨fr, O, ρ, A, q⟩ => ?_, fun ρ => mono_bnd (h.mo ρ) mono_signsW⟩
  refine ⟨fr, O, ρ, A, h.mo ρ _ _ (fun d k v H1 e1 g1 => ?_) q⟩
  unfold signsW at k
  split at k
  · rename_i x
    cases (show TopD _ _ _ _ _ from g1).str
    refine ⟨x, rfl, k _ H1 e1 ⟨fun _ => True, fun i H v H' => H' = H ∧ ∃ c, x.cps[i]? = some c ∧ v = .str ⟨#[c]⟩, ?_, fun _ _ => trivial, fun i Ha u Hb W hi k hW y => ?_⟩⟩
    · have w := walk_str (z := x)
      have e : x.cps.size = (signs x).length := by simp [signs]
      rw [e] at w
      exact w
    · obtain ⟨rfl, c, hc, rfl⟩ := y
      exact ⟨Same.refl _, .str ⟨#[c]⟩, by simp [signs, hc], .str _⟩
  · exact False.elim k
end
end Lq
namespace Lq
open PySem L2
/-! ### constructors and terms as data -/
def consD (cs : List (Str × Nat)) : PyData := .tuple (cs.map fun c => .tuple [.str c.1, .int (c.2 : Int)])
mutual
def tmD : Cf.Tm → PyData
  | .var n => .int n
  | .node w ps => .tuple (.str w :: tmsD ps)
def tmsD : List Cf.Tm → List PyData
  | [] => []
  | t :: ts => tmD t :: tmsD ts
end
section
variable {U : Addr → Prop} {H : Hp}
theorem dat_int {v : V} {i : Int} (h : Dat U H v (.int i)) : v = .int i := by cases h; rfl
theorem dat_str {v : V} {x : Str} (h : Dat U H v (.str x)) : v = .str x := by cases h; rfl
theorem dat_tup {v : V} {ds : List PyData} (h : Dat U H v (.tuple ds)) : ∃ p vs, v = .ref p ∧ H p = some (.tup vs) ∧ Dats U H vs ds := by
  cases h with
  | tup a b => exact ⟨_, _, rfl, a, b⟩
theorem dat_lst {v : V} {ds : List PyData} (h : Dat U H v (.list ds)) : ∃ p vs, v = .ref p ∧ ¬ U p ∧ H p = some (.lst vs) ∧ Dats U H vs ds := by
  cases h with
  | lst n a b => exact ⟨_, _, rfl, n, a, b⟩
theorem dats_nil {vs : List V} (h : Dats U H vs []) : vs = [] := by cases h; rfl
theorem dats_cons {vs : List V} {d : PyData} {ds : List PyData} (h : Dats U H vs (d :: ds)) : ∃ v us, vs = v :: us ∧ Dat U H v d ∧ Dats U H us ds := by
  cases h with
  | cons a b => exact ⟨_, _, rfl, a, b⟩
theorem dats_ints : ∀ {ns : List Int} {vs : List V}, Dats U H vs (ns.map .int) → vs = ns.map V.int
  | [], _, h => dats_nil h
  | n :: ns, _, h => by
    obtain ⟨v, us, rfl, a, b⟩ := dats_cons h
    rw [dat_int a, dats_ints b]; rfl
theorem ints_dats : ∀ (ns : List Int), Dats U H (ns.map V.int) (ns.map .int)
  | [] => .nil
  | _ :: ns => .cons (.int _) (ints_dats ns)
theorem strs_dats : ∀ (ws : List Str), Dats U H (ws.map V.str) (ws.map .str)
  | [] => .nil
  | _ :: ws => .cons (.str _) (strs_dats ws)
theorem cons_at : ∀ {cs : List (Str × Nat)} {vs : List V}, Dats U H vs (cs.map fun c => PyData.tuple [.str c.1, .int (c.2 : Int)]) → ∃ ps : List Addr, vs = ps.map V.ref ∧ Paired (Cf.PairAt H) ps cs
  | [], _, h => ⟨[], dats_nil h, .nil⟩
  | c :: cs, _, h => by
    obtain ⟨v, us, rfl, a, b⟩ := dats_cons h
    obtain ⟨p, ws, rfl, hp, a⟩ := dat_tup a
    obtain ⟨v1, w1, rfl, a1, a⟩ := dats_cons a
    obtain ⟨v2, w2, rfl, a2, a⟩ := dats_cons a
    rw [dat_str a1, dat_int a2, dats_nil a] at hp
    obtain ⟨ps, rfl, kk⟩ := cons_at b
    exact ⟨p :: ps, rfl, .cons hp kk⟩
theorem dat_cons {v : V} {cs : List (Str × Nat)} (h : Dat U H v (consD cs)) : ∃ p, v = .ref p ∧ Cf.ConsAt H p cs := by
  obtain ⟨p, vs, rfl, hp, a⟩ := dat_tup h
  obtain ⟨ps, rfl, k⟩ := cons_at a
  exact ⟨p, rfl, ps, hp, k⟩
theorem at_cons : ∀ {ps : List Addr} {cs : List (Str × Nat)}, Paired (Cf.PairAt H) ps cs → Dats U H (ps.map V.ref) (cs.map fun c => PyData.tuple [.str c.1, .int (c.2 : Int)])
  | _, _, .nil => .nil
  | _, _, .cons h r => .cons (.tup h (.cons (.str _) (.cons (.int _) .nil))) (at_cons r)
theorem cons_dat {p : Addr} {cs : List (Str × Nat)} (h : Cf.ConsAt H p cs) : Dat U H (.ref p) (consD cs) := by
  obtain ⟨ps, hp, k⟩ := h
  exact .tup hp (at_cons k)
mutual
theorem tm_dat : ∀ {v : V} {t : Cf.Tm}, Cf.TmAt H v t → Dat U H v (tmD t)
  | _, _, .var n => .int n
  | _, _, .node h r => .tup h (.cons (.str _) (tms_dat r))
theorem tms_dat : ∀ {v : List V} {t : List Cf.Tm}, Cf.TmsAt H v t → Dats U H v (tmsD t)
  | _, _, .nil => .nil
  | _, _, .cons h r => .cons (tm_dat h) (tms_dat r)
end
mutual
theorem dat_tm : ∀ {v : V} (t : Cf.Tm), Dat U H v (tmD t) → Cf.TmAt H v t
  | _, .var n, h => by rw [dat_int h]; exact .var n
  | _, .node w ps, h => by
    obtain ⟨p, vs, rfl, hp, a⟩ := dat_tup h
    obtain ⟨v1, w1, rfl, a1, a⟩ := dats_cons a
    rw [dat_str a1] at hp
    exact .node hp (dats_tms ps a)
theorem dats_tms : ∀ {v : List V} (t : List Cf.Tm), Dats U H v (tmsD t) → Cf.TmsAt H v t
  | _, [], h => by rw [dats_nil h]; exact .nil
  | _, t :: ts, h => by
    obtain ⟨v1, w1, rfl, a1, a⟩ := dats_cons h
    exact .cons (dat_tm t a1) (dats_tms ts a)
end
end
section
variable {P : Program} {w : World} {K : PySem.W.Frag} {mg : Str → Option Value} {base : Heap}
def mCons : List PyData → Wp PyData
  | [] => fun Q => ∀ cs, Cf.ConsOk cs → Q (consD cs)
  | _ => bad
theorem conv_cons {j : Nat} (C : Cf.At P w K mg base "_law_constructors" j ["pool"] Cf.spCons) : Cf.At P w K mg base "_law_constructors" j ["pool"] (spQP 0 mCons) := by
  refine at_imp C fun vs H Q E h => ?_
  obtain ⟨ds, U, a, c, us, rfl, h1, hp, ha, hU, h2, R, hm, hi⟩ := h
  cases h2 with
  | cons _ _ => cases h1
  | nil => exact ⟨a, c, rfl, hp, fun cs p H' ok n hc hp' e => hi _ (hm cs ok) _ _ (ex_but e hp') (cons_dat hc)⟩
def mTerm (n : Nat) (ds : List PyData) : Wp PyData := fun Q => ∃ cs ns, ∃ d : Nat, ds = [consD cs, .list (ns.map .int), .int d] ∧ Cf.ConsOk cs ∧ ns.length ≤ 1000 ∧ 1 ≤ d ∧ d ≤ n ∧ ∀ t, Cf.TmOver cs ns d t → Q (tmD t)
theorem conv_term {j n : Nat} (C : Cf.At P w K mg base "_law_term" j ["pool", "constructors", "numbers", "deep"] (Cf.spTerm K n)) : Cf.At P w K mg base "_law_term" j ["pool", "constructors", "numbers", "deep"] (spQP 3 (mTerm n)) := by
  refine at_imp C fun vs H Q E h => ?_
  obtain ⟨ds, U, a, c, us, rfl, h1, hp, ha, hU, h2, R, ⟨cs, ns, d, rfl, m1, m2, m3, m4, m5⟩, hi⟩ := h
  obtain ⟨v1, w1, rfl, a1, h3⟩ := dats_cons h2
  obtain ⟨v2, w2, rfl, a2, h4⟩ := dats_cons h3
  obtain ⟨v3, w3, rfl, a3, h5⟩ := dats_cons h4
  obtain ⟨cp, rfl, hc⟩ := dat_cons a1
  obtain ⟨np, xs, rfl, nu, hn, b2⟩ := dat_lst a2
  rw [dats_ints b2] at hn
  have e3 := dats_nil h5
  subst e3
  rw [dat_int a3]
  exact ⟨a, c, cp, np, cs, ns, d, rfl, hp, hc, m1, SqL.of hn, fun z => nu (by rw [z]; exact ha), m2, m3, m4, fun v t H' ht ho hp' e => hi _ (m5 t ho) _ _ (ex_but e hp') (tm_dat ht)⟩
end
end Lq
namespace Lq
open PySem L2
/-! ### drawn words as data -/
section
variable {P : Program} {w : World} {K : PySem.W.Frag} {mg : Str → Option Value} {base : Heap}
theorem dats_strs {U : Addr → Prop} {H : Hp} : ∀ {ns : List Str} {vs : List V}, Dats U H vs (ns.map .str) → vs = ns.map V.str
  | [], _, h => dats_nil h
  | n :: ns, _, h => by
    obtain ⟨v, us, rfl, a, b⟩ := dats_cons h
    rw [dat_str a, dats_strs b]; rfl
def mWords : List PyData → Wp PyData
  | [.int n] => fun Q => (0 ≤ n ∧ n ≤ 100) ∧ ∀ ws : List Str, (ws.length : Int) = n → ws.Nodup → (∀ w ∈ ws, Cf.WordOk w) → Q (.list (ws.map .str))
  | _ => bad
theorem conv_words {j : Nat} (C : Cf.At P w K mg base "_law_words" j ["pool", "many"] Cf.spWords) : Cf.At P w K mg base "_law_words" j ["pool", "many"] (spQP 1 mWords) := by
  refine at_imp C fun vs H Q E h => ?_
  obtain ⟨ds, U, a, c, us, rfl, h1, hp, ha, hU, h2, R, hm, hi⟩ := h
  cases h2 with
  | nil => cases h1
  | cons x y =>
    cases y with
    | cons _ _ => cases h1
    | nil =>
      cases x with
      | int n =>
        obtain ⟨⟨n0, n1⟩, hm⟩ := hm
        obtain ⟨k, rfl⟩ := Int.eq_ofNat_of_zero_le n0
        refine ⟨a, c, k, rfl, hp, by omega, fun ws p H' l nd ok np hp' hP e => hi _ (hm ws (by omega) nd ok) _ _ (ex_but e hP) (.lst (fun u => hU p u np) hp' (strs_dats ws))⟩
      | non => exact False.elim hm
      | bl _ => exact False.elim hm
      | str _ => exact False.elim hm
      | tup _ _ => exact False.elim hm
      | lst _ _ _ => exact False.elim hm
      | dic _ _ _ => exact False.elim hm
      | dit _ _ _ => exact False.elim hm
end
end Lq
namespace Lq
open PySem L2
/-! ### {k: v, ..} -/
def mergeP (es more : List (PyData × PyData)) : List (PyData × PyData) := more.foldl (fun acc p => putP acc p.1 p.2) es
theorem merge_k {W : Addr → Prop} {H : Hp} {more : List (Key × V)} : ∀ {ms : List (PyData × PyData)} {kvs : List (Key × V)} {es : List (PyData × PyData)}, DatK W H more ms → DatK W H kvs es → DatK W H (mergeK kvs more) (mergeP es ms) := by
  induction more with
  | nil => intro ms kvs es h k; cases h; exact k
  | cons p more ih => intro ms kvs es h k; cases h with | @cons key _ _ _ _ hd r => (have z := ih r (put_k (k := key) k hd); exact z)
def ppNil : Rho → Wp (List (PyData × PyData)) := fun _ => ret []
def ppCons (fk fv : Rho → Wp PyData) (r : Rho → Wp (List (PyData × PyData))) : Rho → Wp (List (PyData × PyData)) := fun ρ => bnd (fk ρ) fun y => bnd (fv ρ) fun z => bnd (r ρ) fun es => bnd (keyW y) fun j => ret ((kD j, z) :: es)
structure PP (X : Cx) (pos : Pos) (keys : List (Option Expr)) (vals : List Expr) (f : Rho → Wp (List (PyData × PyData))) : Prop where
  ex : ∃ trs, PPs X pos keys vals trs ∧ ∀ {fr : Fr} {O : List (Option Addr)} {σ : St} {ρ : Rho} {H : Hp} {Q : List (V × V) → Hp → Prop}, At fr O σ ρ H →
    (f ρ fun es => ∀ (kvs : List (Key × V)) H', Ex fr.pl H H' → DatK (Wd fr O) H' kvs es → Q (kvs.map fun kv => (kV kv.1, kv.2)) H') → tPairs trs σ H Q
  mo : ∀ ρ, Mono (f ρ)
section
variable {X : Cx} {pos : Pos}
theorem pp_nil : PP X pos [] [] ppNil := ⟨⟨[], pps_nil, fun A q => q [] _ A.refl .nil⟩, fun _ => mono_ret _⟩
theorem pp_cons {k v : Expr} {ks : List (Option Expr)} {vs : List Expr} {fk fv : Rho → Wp PyData} {r : Rho → Wp (List (PyData × PyData))} (hk : E X true k fk) (hv : E X true v fv) (hr : PP X pos ks vs r) : PP X pos (some k :: ks) (v :: vs) (ppCons fk fv r) := by
  obtain ⟨trs, h1, h2⟩ := hr.ex
  refine ⟨⟨_, pps_cons hk.pe hv.pe h1, fun {fr O σ ρ H Q} A q => ?_⟩, fun ρ => mono_bnd (hk.mo ρ) fun _ => mono_bnd (hv.mo ρ) fun _ => mono_bnd (hr.mo ρ) fun _ => mono_bnd (mono_keyW _) fun _ => mono_ret _⟩
  refine ⟨fr, O, ρ, A, hk.mo ρ _ _ (fun y k1 x H1 e1 g1 => ?_) q⟩
  have A1 := A.ex e1
  refine ⟨fr, O, ρ, A1, hv.mo ρ _ _ (fun z k2 u H2 e2 g2 => ?_) k1⟩
  have A2 := A1.ex e2
  refine h2 A2 (hr.mo ρ _ _ (fun es k3 kvs H3 e3 dk => ?_) k2)
  obtain ⟨j, rfl, k4⟩ := keyW_ok k3
  have ex : x = kV j := key_at (U := fun _ => False) (.of (show Dat (Wd fr O) H1 x (kD j) from g1))
  subst ex
  exact k4 ((j, u) :: kvs) H3 ((e1.trans e2).trans e3) (.cons (A2.gd (g := true) e3 g2) dk)
/-- a new thing stands apart while what is put into it is made -/
theorem At.under {fr : Fr} {O : List (Option Addr)} {σ : St} {ρ : Rho} {H : Hp} (A : At fr O σ ρ H) {D : Addr} (nD : H D = none) (o : HO) :
    At ⟨fun b => fr.U b ∨ b = D, fun b => some b ∈ O ∨ ∃ c, fr.pl = some (b, c), fr.pl, upd H D o⟩ O σ ρ (upd H D o) := by
  have e : Ex fr.pl H (upd H D o) := Ex.new A nD
  refine ⟨?_, fun _ _ _ h => h, fun a c z => ⟨e.pool a c z, .inr ⟨c, z⟩, .inl (A.pool a c z).2.2⟩, fun p m => ?_, A.nd, fun b u => ?_, fun _ h => h⟩
  · obtain ⟨v1, v2⟩ := A.via (b := false) (H' := upd H D o) e
    refine A.sl.to (fun q n h z => ?_) v1 v2 fun p o m h => e.keep p o (fun a c z => ((A.own p m).2.1 a c z).1) h
    rcases z with (z | z) | z
    · exact n (.inl z)
    · exact h (by rw [z]; exact nD)
    · exact n (.inr z)
  · refine ⟨⟨fun u => u.elim (A.own p m).1.1 fun z => ?_, .inl (.inl m)⟩, ((A.ex e).own p m).2⟩
    exact A.wd (.inr m) (by rw [z]; exact nD)
  · rcases u with u | u
    · exact e.there b (A.wd (.inl u))
    · show upd H D o b ≠ none
      rw [u, upd_same]; exact Option.some_ne_none _
def eDisp (f : Rho → Wp (List (PyData × PyData))) : Rho → Wp PyData := fun ρ => bnd (f ρ) fun es => gd (es.length ≤ 15) (.dict (mergeP [] es))
theorem e_disp {g : Bool} {keys : List (Option Expr)} {vals : List Expr} {f : Rho → Wp (List (PyData × PyData))} (h : PP X pos keys vals f) (hall : keys.all (·.isSome) = true := by rfl) (hl : keys.length = vals.length := by rfl) (h0 : keys ≠ [] := by exact fun z => by cases z) (h15 : keys.length ≤ 15 := by decide) :
    E X g (.Dict keys vals pos) (eDisp f) := by
  obtain ⟨trs, h1, h2⟩ := h.ex
  refine E.tr ⟨pe_imp (pe_disp h1 hall hl h0 h15) fun σ H Q ⟨fr, O, ρ, A, q⟩ => ?_, fun ρ => mono_bnd (h.mo ρ) fun _ => mono_gd _⟩
  intro D nD
  have B := A.under nD (.dK [])
  have eD : Ex fr.pl H (upd H D (.dK [])) := Ex.new A nD
  have Dpool : ∀ a c, fr.pl = some (a, c) → D ≠ a ∧ D ≠ c := fun a c e => by
    obtain ⟨h1, h2⟩ := pool_two (A.pool a c e).1
    exact ⟨fun z => h1 (by rw [← z]; exact nD), fun z => h2 (by rw [← z]; exact nD)⟩
  refine h2 B (h.mo ρ _ _ (fun es k kvs H' e dk => ?_) q)
  have hD : H' D = some (.dK []) := e.keep D _ (fun a c z => (Dpool a c z).1) upd_same
  refine ⟨hD, kvs, rfl, by rw [datK_len dk]; exact k.1, ?_⟩
  have m := merge_k dk (DatK.nil (U := _) (H := H'))
  have eT : Ex fr.pl H (upd H' D (.dK (mergeK [] kvs))) := by
    have e2 := eD.trans e
    refine ⟨fun b o n h => ?_, fun a c z => pool_up (e2.pool a c z) (Dpool a c z).1 (Dpool a c z).2, fun b h => ?_⟩
    · rw [upd_ne (ne_of_none h nD)]; exact e2.keep b o n h
    · by_cases z : b = D
      · rw [z, upd_same]; exact Option.some_ne_none _
      · rw [upd_ne z]; exact e2.there b h
  refine k.2 _ _ eT (Dat.dic (fun w => A.wd w nD) upd_same (m.to (fun q n h z => ?_) (fun q vs h => ?_) fun q o n h => ?_))
  · rcases z with z | z
    · exact n (.inl (.inl z))
    · exact n (.inr z)
  · rw [upd_ne (ne_of h hD (by intro z; cases z))]; exact h
  · rw [upd_ne (fun z => n (.inl (.inr z)))]; exact h
end
end Lq
namespace Lq
open PySem PySem.Spec PyProof.Rows L2
/-! ### list(d.values()) -/
theorem kv_get {kvs : List (Key × V)} {vs : List (Key × Value)} (r : KV kvs vs) : ∀ {j : Nat} {k : Key} {v : Value}, vs[j]? = some (k, v) → ∃ x, (kvs.map (·.2))[j]? = some x ∧ RelV x v := by
  induction r with
  | nil => intro j k v h; simp at h
  | @cons p q ps qs h t ih =>
    intro j k v e
    cases j with
    | zero =>
      have e : q = (k, v) := by simpa using e
      subst e
      exact ⟨p.2, rfl, h.2⟩
    | succ j =>
      obtain ⟨x, a, b⟩ := ih (j := j) (k := k) (v := v) (by simpa using e)
      exact ⟨x, by simpa using a, b⟩
section
variable {X : Cx} {o : Expr} {td : TE} {p apos cpos pos : Pos}
def tListVals (td : TE) : TE := fun σ H Q => td σ H fun x H1 => ∃ d kvs, x = .ref d ∧ H1 d = some (.dK kvs) ∧ ∀ q, H1 q = none → Q (.ref q) (upd H1 q (.lst (kvs.map (·.2))))
theorem pe_listVals (hc : X.calm = true) (hg : Gl X "list") (hm : X.mg "list" = none) (ho : PE X o td) (hbase : attributeBase o "values" X.env (eval o X.env) = eval o X.env := by rfl) (hline : (apos.endLine == cpos.line) = true := by rfl)
    (na : starEach [.Call (.Attribute o "values" apos) [] [] cpos] X.env = (false, eval (.Call (.Attribute o "values" apos) [] [] cpos) X.env) :: starEach [] X.env := by rfl) : PE X (.Call (.Name "list" p) [.Call (.Attribute o "values" apos) [] [] cpos] [] pos) (tListVals td) := by
  refine ⟨fun pins s σ H Q I h => ?_⟩
  refine Call_ (ld_blt I hg hm boot_list (PyProof.Rows.callWith_type1 (PyProof.Rows.args_cons ?_ na) na))
  refine wpAny_Call_method (T := "dict") (id := "dict.values") hbase rfl hline F.plainAttrs_dict F.slot_dict_values F.type_dict_values (thn (ho.run pins s σ H _ I h) fun u s1 ⟨x, H1, I1, rx, d, kvs, ex, hd, q⟩ => ?_)
  subst ex
  obtain rfl : u = Value.ref d := rx
  obtain ⟨z, lo, vs, rk, hdd⟩ := (show ObjOk X.prog X.w H1 s1.heap d (.dK kvs) from I1.hok d _ hd)
  obtain ⟨ep, hat⟩ := hdd.dictAt
  have hl : kvs.length = vs.length := Paired.length rk
  refine ⟨hdd.typeIs, hdd.mapOf.noDict, ?_⟩
  have I2 : Inv X pins σ H1 { s1 with heap := s1.heap.push { cls := .type "dict_values", data := .fields #[.ref d] } } := I1.kept (t' := s1.toks) fun b ob q => Heap.get?_push_of_some _ q
  refine PySem.method_meetsIn F.slot_dict_values F.entry_dict_values rfl (PySem.evalArgs_none ⟨rfl, hdd.typeIs, F.args_dict_values_1 _, _, meets_dict_values (mixKind X.prog X.w) d lo, ⟨vs, hdd⟩, ?_⟩)
  refine PyProof.Rows.args_nil ?_
  refine PySem.W.kdl_call (PySem.W.kdl_values (knd := mixKind X.prog X.w) (kvs := vs) (ep := ep) (d := d)) (I2.ok.hd hc) ⟨⟨_, Heap.get?_push_size _ rfl, rfl, rfl⟩, hat.push _⟩ (by rw [← hl]; exact z) fun h' tk acc' c' hkeep hS hacc => ?_
  refine ⟨.ref _, upd H1 _ (.lst (kvs.map (·.2))), I2.laid hkeep (Nat.le_refl _) (show ObjOk X.prog X.w _ _ _ (.lst (kvs.map (·.2))) from ⟨?_, acc'.toList, c', ?_, ?_⟩), rfl, q _ (I2.hok.fresh (Nat.le_refl _))⟩
  · rw [List.length_map]; exact z
  · have el : acc'.toList.length = acc'.size := by simp
    refine vals_of_at (by rw [List.length_map, el, hacc.1, hl]) fun j x w h1 h2 => ?_
    obtain ⟨k, hi⟩ := hacc.2 j w (by rw [← Array.getElem?_toList]; exact h2)
    obtain ⟨y, e1, e2⟩ := kv_get rk hi
    rw [h1] at e1
    cases e1
    exact e2
  · rw [Array.toArray_toList]; exact hS
def valsQ : PyData → Wp PyData
  | .dict ((.none, _) :: _) => bad
  | .dict es => ret (.list (es.map (·.2)))
  | _ => bad
theorem mono_valsQ (d : PyData) : Mono (valsQ d) := by
  unfold valsQ
  split <;> first | exact mono_ret _ | exact mono_bad
theorem datK_vals {W : Addr → Prop} {H : Hp} : ∀ {kvs : List (Key × V)} {es : List (PyData × PyData)}, DatK W H kvs es → Dats W H (kvs.map (·.2)) (es.map (·.2))
  | _, _, .nil => .nil
  | _, _, .cons h r => .cons h (datK_vals r)
def eListVals (f : Rho → Wp PyData) : Rho → Wp PyData := fun ρ => bnd (f ρ) valsQ
theorem e_listVals {g : Bool} {f : Rho → Wp PyData} (hc : X.calm = true) (hm : X.mg "list" = none) (ho : E X false o f) (hg : Gl X "list" := by rfl) (hbase : attributeBase o "values" X.env (eval o X.env) = eval o X.env := by rfl) (hline : (apos.endLine == cpos.line) = true := by rfl)
    (na : starEach [.Call (.Attribute o "values" apos) [] [] cpos] X.env = (false, eval (.Call (.Attribute o "values" apos) [] [] cpos) X.env) :: starEach [] X.env := by rfl) : E X g (.Call (.Name "list" p) [.Call (.Attribute o "values" apos) [] [] cpos] [] pos) (eListVals f) := by
  refine E.tr ⟨pe_imp (pe_listVals hc hg hm ho.pe hbase hline na) fun σ H Q ⟨fr, O, ρ, A, q⟩ => ?_, fun ρ => mono_bnd (ho.mo ρ) mono_valsQ⟩
  refine ⟨fr, O, ρ, A, ho.mo ρ _ _ (fun d k v H1 e1 g1 => ?_) q⟩
  have A1 := A.ex e1
  unfold valsQ at k
  split at k
  · exact k.elim
  · obtain ⟨b, rfl, hh⟩ := (topd_of g1).dict
    rename_i es hes
    rcases hh with ⟨kvs, a, b⟩ | ⟨kvs, fs, e, a, b⟩
    · exact ⟨_, kvs, rfl, a, fun r n => k _ _ (e1.trans (A1.same (dat_new n))) (Dat.lst (wd_new A1 n) upd_same ((datK_vals b).same (dat_new n)))⟩
    · exact (hes _ _ (by rw [e])).elim
  · exact k.elim
end
end Lq
namespace Lq
open PySem L2
/-! ### a tuple some times over; a + b as a new list -/
section
variable {X : Cx}
def mulTQ : PyData → PyData → Wp PyData
  | .tuple ds, .int k => gd (ds ≠ [] ∧ 2 ≤ k ∧ k ≤ 1000 ∧ ds.length ≤ 1000) (.tuple (List.replicate k.toNat ds).flatten)
  | _, _ => bad
theorem mono_mulTQ (d e : PyData) : Mono (mulTQ d e) := by
  unfold mulTQ
  split <;> first | exact mono_gd _ | exact mono_bad
theorem dats_rep {W : Addr → Prop} {H : Hp} {vs : List V} {ds : List PyData} (h : Dats W H vs ds) : ∀ n : Nat, Dats W H (List.replicate n vs).flatten (List.replicate n ds).flatten
  | 0 => .nil
  | n + 1 => by
    rw [List.replicate_succ, List.replicate_succ, List.flatten_cons, List.flatten_cons]
    exact h.append (dats_rep h n)
theorem q_mulT : OpQ X (binaryOp .Mult) mulTQ := by
  refine ⟨⟨_, op_repT, fun {fr O σ ρ H x y d e Q} A hx hy q => ?_⟩, mono_mulTQ⟩
  unfold mulTQ at q
  split at q
  · obtain ⟨p, vs, rfl, a, b⟩ := hx.tup
    cases hy.int
    obtain ⟨⟨h1, h2, h3, h4⟩, q⟩ := q
    refine ⟨p, _, vs, rfl, rfl, SqT.of a, fun z => h1 ?_, h2, h3, by rw [b.length]; exact h4, fun r n => ?_⟩
    · subst z; cases b; rfl
    · exact q _ _ (dat_new n) (.tup upd_same ((dats_rep b _).same (dat_new n)))
  · exact q.elim
variable {a b : Expr} {pos : Pos} {f k : Rho → Wp PyData}
/-- a list and a list: a new one -/
def catL : PyData → PyData → Wp (List PyData)
  | .list a, .list b => gd (a.length + b.length ≤ sizeLine) (a ++ b)
  | _, _ => bad
theorem mono_catL (d e : PyData) : Mono (catL d e) := by
  unfold catL
  split <;> first | exact mono_gd _ | exact mono_bad
def lAdd (f k : Rho → Wp PyData) : Rho → Wp (List PyData) := fun ρ => bnd (f ρ) fun d => bnd (k ρ) fun e => catL d e
theorem mono_lAdd (ha : ∀ ρ, Mono (f ρ)) (hb : ∀ ρ, Mono (k ρ)) (ρ : Rho) : Mono (lAdd f k ρ) := mono_bnd (ha ρ) fun d => mono_bnd (hb ρ) fun e => mono_catL d e
theorem f_add (ha : E X false a f) (hb : E X false b k) : EF X (.BinOp a .Add b pos) (lAdd f k) := by
  refine ⟨pe_imp (pe_op op_cat ha.pe hb.pe) fun σ H Q ⟨fr, O, ρ, A, q⟩ => ?_, mono_lAdd ha.mo hb.mo⟩
  refine ⟨fr, O, ρ, A, ha.mo ρ _ _ (fun d k1 x H1 e1 g1 => ?_) q⟩
  have A1 := A.ex e1
  refine ⟨fr, O, ρ, A1, hb.mo ρ _ _ (fun e k2 y H2 e2 g2 => ?_) k1⟩
  have A2 := A1.ex e2
  have g1 : TopD fr.U (Wd fr O) H2 x d := A1.gd (g := false) e2 g1
  have e12 := e1.trans e2
  have nn : ∀ {l}, H2 l = none → H l = none := fun {l} n => by
    cases z : H l with
    | none => rfl
    | some o => exact absurd n (e12.there l (by rw [z]; exact Option.some_ne_none _))
  have go : ∀ {vs : List V} {ds : List PyData} {l : Addr}, Dats (Wd fr O) H2 vs ds → H2 l = none → Dats (fun b => Wd fr O b ∨ b = l) (upd H2 l (.lst vs)) vs ds := fun {vs ds l} b n =>
    b.to (fun q n' h z => z.elim n' fun e => h (by rw [e]; exact n)) (fun q vs h => by rw [upd_ne (ne_of_none h n)]; exact h) fun q o _ h => by rw [upd_ne (ne_of_none h n)]; exact h
  have k2 : catL d e _ := k2
  unfold catL at k2
  split at k2
  · obtain ⟨p, vs, rfl, a1, b1⟩ := g1.list
    obtain ⟨p2, vs2, rfl, a2, b2⟩ := (topd_of g2).list
    exact ⟨p, p2, vs, vs2, rfl, rfl, a1, a2, by rw [b1.length, b2.length]; exact k2.1, fun l n => k2.2 l _ _ (nn n) (e12.trans (Ex.new A2 n)) upd_same (go (b1.append b2) n)⟩
  · exact False.elim k2
end
end Lq
namespace Lq
open PySem PySem.W L2 PyProof.Rows
/-! ### sorted(a list of alike data) -/
theorem vals_each : ∀ {vs : List V} {us : List Value} {ds : List PyData} , Vals vs us → vs.length = ds.length → EachIs (fun u (b : V × PyData) => RelV b.1 u) us (vs.zip ds)
  | _, _, [], .nil, _ => .nil
  | _, _, d :: ds, .cons r t, h => .cons r (vals_each t (Nat.succ.inj h))
  | _, _, [], .cons _ _, h => by simp at h
  | _, _, _ :: _, .nil, h => by simp at h
theorem each_vals : ∀ {us : List Value} {bs : List (V × PyData)}, EachIs (fun u (b : V × PyData) => RelV b.1 u) us bs → Vals (bs.map (·.1)) us
  | _, _, .nil => .nil
  | _, _, .cons r t => .cons r (each_vals t)
def srt (vs : List V) (ds : List PyData) : List (V × PyData) := (vs.zip ds).mergeSort (dataLe false (·.2))
def srtD (ds : List PyData) : List PyData := ds.mergeSort (dataLe false id)
theorem srt_snd {vs : List V} {ds : List PyData} (h : vs.length = ds.length) : (srt vs ds).map (·.2) = srtD ds := by
  have z := List.map_mergeSort (r := dataLe false fun b : V × PyData => b.2) (s := dataLe false id) (f := fun b => b.2) (l := vs.zip ds) (fun _ _ _ _ => rfl)
  have hm : (vs.zip ds).map (fun b => b.2) = ds := List.map_snd_zip (by omega)
  unfold srt srtD
  rw [z, hm]
section
variable {X : Cx}
def rSD (X : Cx) : List V → Hp → VK → Prop := fun xs H Q => ∃ l vs ds, xs = [.ref l] ∧ SqL X.K H l vs ∧ vs.length = ds.length ∧ (∀ (pins : List (Addr × Obj)) (σ : L2.St) (s : Shared) (us : List Value), Inv X pins σ H s → Vals vs us → ∃ as, ReadsAll s.heap us ds as) ∧ AllAlike ds ∧ Sortable ds ∧ (∀ d ∈ ds, d.depth ≤ 50) ∧
  ∀ p, H p = none → Q (.ref p) (upd H p (.lst ((srt vs ds).map (·.1))))
theorem call_sortedL (hu : X.A.units + 64 < cLine) : CallR X (.builtin "sorted") (rSD X) := by
  intro pins s σ H xs us Q I r h
  obtain ⟨l, vs, ds, rfl, hq, hl, hr, ha, hk, hd, q⟩ := h
  obtain ⟨u, rfl, rx⟩ := vals1 r
  cases rx
  obtain ⟨its, r', pl, hz⟩ := I.list hq
  have hlen := r'.length
  obtain ⟨as, ra⟩ := hr pins σ s its I r'
  have hm : (vs.zip ds).map (·.2) = ds := List.map_snd_zip (by omega)
  have hzl : (vs.zip ds).length = vs.length := by rw [List.length_zip]; omega
  refine sorted_data (bs := vs.zip ds) (enc := fun b : V × PyData => b.2) (R := fun u (b : V × PyData) => RelV b.1 u) pl.isList (vals_each r' hl) (readsAll_each (fun b : V × PyData => b.2) (by rw [hm]; exact ra)) (by rw [hm]; exact ha) (by rw [hm]; exact hk) (by omega) (fun b hb => ?_) fun out ho eo => ?_
  · have := hd b.2 (by rw [← hm]; exact List.mem_map_of_mem hb)
    omega
  · obtain ⟨c, hc⟩ := sortedAll_at s.heap its out.toArray
    exact ⟨.ref (s.heap.objs.size + 1), _, I.laid (t' := s.toks) (fun _ _ => sortedAll_old) (Nat.le_succ _) (show ObjOk X.prog X.w _ _ _ (.lst ((srt vs ds).map (·.1))) from ⟨by rw [List.length_map]; unfold srt; rw [List.length_mergeSort]; omega, out, c, each_vals eo, hc⟩), rfl, q _ (I.hok.fresh (Nat.le_succ _))⟩
theorem zip_dat {W : Addr → Prop} {H : Hp} : ∀ {vs : List V} {ds : List PyData}, Dats W H vs ds → ∀ b ∈ vs.zip ds, Dat W H b.1 b.2
  | _, _, .nil, b, h => by cases h
  | _, _, .cons a r, b, h => by
    rcases List.mem_cons.mp h with rfl | m
    · exact a
    · exact zip_dat r b m
theorem srt_dats {W : Addr → Prop} {H : Hp} {vs : List V} {ds : List PyData} (h : Dats W H vs ds) : Dats W H ((srt vs ds).map (·.1)) (srtD ds) := by
  have hl := h.length
  rw [← srt_snd hl]
  have hm : ∀ b ∈ srt vs ds, Dat W H b.1 b.2 := fun b hb => zip_dat h b ((List.mergeSort_perm _ _).mem_iff.mp hb)
  generalize srt vs ds = bs at hm
  induction bs with
  | nil => exact .nil
  | cons b bs ih => exact .cons (hm b List.mem_cons_self) (ih fun x m => hm x (List.mem_cons_of_mem _ m))
end
end Lq
namespace Lq
open PySem PySem.W L2 PyProof.Rows
/-! ### sorted(a dict whose keys are tuples) -/
theorem each_flat {h : Heap} : ∀ {us : List Value} {bs : List (V × PyData)}, ReadsAll h us (bs.map fun b => b.2) [] → EachIs (fun u (b : V × PyData) => Reads h u b.2 []) us bs
  | _, [], r => by
    have r' : ReadsAll h _ [] _ := r
    cases r'
    exact .nil
  | us, b :: bs, r => by
    have r' : ReadsAll h us (b.2 :: bs.map fun b => b.2) [] := r
    generalize ha : ([] : List Addr) = as at r'
    cases r' with
    | cons h1 h2 =>
      obtain ⟨e1, e2⟩ := List.append_eq_nil_iff.mp ha.symm
      subst e1; subst e2
      exact .cons h1 (each_flat h2)
section
variable {X : Cx}
def rSDT (X : Cx) : List V → Hp → VK → Prop := fun xs H Q => ∃ d kvs ds, xs = [V.ref d] ∧ Rd H d (.dT kvs) ∧ kvs.length = ds.length ∧ (∀ bs, IsKeys H kvs bs → Dats (fun _ => False) H (bs.map V.ref) ds) ∧ flatTs ds = true ∧ AllAlike ds ∧ Sortable ds ∧ (∀ d ∈ ds, d.depth ≤ 50) ∧
  ∀ p bs, H p = none → IsKeys H kvs bs → Q (.ref p) (upd H p (.lst ((srt (bs.map V.ref) ds).map (·.1))))
theorem call_sortedT (hcalm : X.calm = true) (hu : X.A.units + 64 < cLine) : CallR X (.builtin "sorted") (rSDT X) := by
  intro pins s σ H xs us Q I r h
  obtain ⟨d, kvs, ds, rfl, hd, hkl, hdk, hnd, ha, hk, hdp, q⟩ := h
  obtain ⟨u, rfl, rx⟩ := r.one
  cases rx
  obtain ⟨z, hs, ks, pr, o, es, ep, ho, hx, hdt, he, hn⟩ := (show ObjOk X.prog X.w H s.heap d (.dT kvs) from hd.ok I.hok)
  have l1 : es.size = ks.length := size_of_entries he
  have l2 : kvs.length = ks.length := Paired.length pr
  refine Calls.call_function_entry PyProof.Rows.kind_sorted PyProof.Rows.plain_sorted PyProof.Rows.entry_sorted (PyProof.Rows.args_sorted1 _) ?_
  unfold Builtin.«sorted»
  refine wpAny_bind (m := checkCount "sorted" 1 1 _) (wpAny_pure ?_)
  refine wpAny_bind (PySem.W.kdu_collect (A := X.A.in1) (kdl_raw hs hx hdt) (I.ok.hd hcalm) ho (by omega) fun h' tk acc' kp it => ?_)
  have ea : acc'.toList = ks.map fun x => Value.ref x.2.1 := by
    have hl : acc'.toList.length = ks.length := by rw [Array.length_toList, it.1]; exact l1
    apply List.ext_getElem?
    intro j
    rw [List.getElem?_map]
    cases hj : acc'.toList[j]? with
    | none =>
      have h1 := List.getElem?_eq_none_iff.mp hj
      rw [List.getElem?_eq_none (by omega)]
      all_goals rfl
    | some v =>
      obtain ⟨en, hen, hv⟩ := it.2 j v (by rw [← Array.getElem?_toList]; exact hj)
      have qe := entry_at he j
      rw [hen] at qe
      cases hb : ks[j]? with
      | none =>
        rw [hb] at qe
        exact nomatch (show some en = none from qe)
      | some b =>
        rw [hb] at qe
        have e2 : en = entryOfKey (tupleKind (mixKind X.prog X.w)) b := Option.some.inj qe
        rw [hv, e2]
        all_goals rfl
  have eb : acc'.toList = (ks.map fun x => x.2.1).map Value.ref := by rw [ea, List.map_map]; all_goals rfl
  have rv : Vals ((ks.map fun x => x.2.1).map V.ref) acc'.toList := by rw [eb]; exact vals_refs _
  have hkeys : IsKeys H kvs (ks.map fun x => x.2.1) := isKeys_of pr
  have hD := hdk _ hkeys
  have hl : ((ks.map fun x => x.2.1).map V.ref).length = ds.length := hD.length
  have hal : acc'.toList.length = ds.length := by rw [← rv.length]; exact hl
  have ra := dats_reads0 I hD hnd rv
  have hzl : (((ks.map fun x => x.2.1).map V.ref).zip ds).length = ds.length := by rw [List.length_zip]; omega
  have hm : (((ks.map fun x => x.2.1).map V.ref).zip ds).map (fun b => b.2) = ds := List.map_snd_zip (by omega)
  have I1 : Inv X pins σ H { s with heap := h', toks := tk } := I.kept kp
  refine wpAny_bind (wpAny_newList ?_ (by omega))
  have hoL : (h'.push (seqObj "list" acc'.toList.toArray 0)).get? h'.objs.size = some (seqObj "list" acc'.toList.toArray 0) := Heap.get?_push_size _ rfl
  show wpAny _ _ _ _ _ { s with heap := h'.push (seqObj "list" acc'.toList.toArray 0), toks := tk }
  have kp2 : ∀ b o, s.heap.get? b = some o → (h'.push (seqObj "list" acc'.toList.toArray 0)).get? b = some o := fun b o e => Heap.get?_push_of_some _ (kp b o e)
  have er := each_flat (bs := ((ks.map fun x => x.2.1).map V.ref).zip ds) (us := acc'.toList) (h := s.heap) (by rw [hm]; exact ra)
  refine wpAny_bind (wpAny_holding (list_sort_data (s := { s with heap := h'.push (seqObj "list" acc'.toList.toArray 0), toks := tk }) (bs := ((ks.map fun x => x.2.1).map V.ref).zip ds) (enc := fun b : V × PyData => b.2) (R := fun u (b : V × PyData) => RelV b.1 u) hoL (vals_each rv hl) (er.mono fun v b r => ⟨[], PyProof.Rows.Reads.keeps kp2 r, List.not_mem_nil⟩) (by rw [hm]; exact ha) (by rw [hm]; exact hk) (by omega) (fun b hb => ?_) fun out ho' eo => ?_))
  · have := hdp b.2 (by rw [← hm]; exact List.mem_map_of_mem hb)
    have : X.A.in1.units = X.A.units + 1 := rfl
    omega
  obtain ⟨e', he'⟩ := PyProof.Rows.sortedHeap_at (vs := acc'.toList) (out := out.toArray) hoL
  refine wpAny_pure ⟨_, rfl, .ref h'.objs.size, _, I1.laid (t' := tk) (fun b u e => ?_) (Nat.le_refl _) (show ObjOk X.prog X.w _ _ _ (.lst ((srt ((ks.map fun x => x.2.1).map V.ref) ds).map (·.1))) from ⟨by rw [List.length_map]; unfold srt; rw [List.length_mergeSort]; omega, out, e', each_vals eo, he'⟩), rfl, q _ _ (I1.hok.fresh (Nat.le_refl _)) hkeys⟩
  have hb : b < h'.objs.size := Heap.lt_size e
  rw [PyProof.Rows.sortedHeap_old (Nat.ne_of_lt hb) (by rw [size_push']; exact Nat.lt_succ_of_lt hb)]
  exact Heap.get?_push_of_some _ e
structure SortOk (ds : List PyData) : Prop where
  alike : AllAlike ds
  able : Sortable ds
  dep : ∀ d ∈ ds, d.depth ≤ 50
def sortedQ : List PyData → Wp PyData
  | [.dict ((.none, _) :: es)] => gd (SortOk (es.map (·.1)) ∧ flatTs (es.map (·.1)) = true) (.list (srtD (es.map (·.1))))
  | [.list ds] => gd (SortOk ds ∧ PyData.hasDictAll ds = false) (.list (srtD ds))
  | _ => bad
theorem q_sorted (hc : X.calm = true) (hu65 : X.A.units + 65 < cLine) : CallQ X (.builtin "sorted") sortedQ := by
  have hu : X.A.units + 64 < cLine := by omega
  refine ⟨⟨_, (call_sortedL hu).or (call_sortedT hc hu), fun {fr O σ ρ H vs ds Q} A h q => ?_⟩, fun ds => ?_⟩
  · unfold sortedQ at q
    split at q
    · rename_i es
      cases h with
      | cons h r =>
        cases r
        obtain ⟨p, rfl, hh⟩ := (topd_of h).dict
        rcases hh with ⟨kvs, a, b⟩ | ⟨kvs, fs, e, a, b⟩
        · exact (datK_none b).elim
        · cases e
          obtain ⟨⟨⟨c1, c2, c4⟩, c3⟩, q⟩ := q
          exact .inr ⟨p, kvs, _, rfl, .inl a, by rw [List.length_map]; exact datT_len b, fun bs k => datT_keys (Same.refl H) b k, c3, c1, c2, c4, fun l bs n k => q _ _ (dat_new n) (.lst (wd_new A n) upd_same (srt_dats (datT_keys (dat_new n) b k)))⟩
    · cases h with
      | cons h r =>
        cases r
        obtain ⟨p, vs, rfl, a, b⟩ := (topd_of h).list
        obtain ⟨⟨⟨c1, c2, c4⟩, c3⟩, q⟩ := q
        exact .inl ⟨p, vs, _, rfl, SqL.of a, b.length, fun pins σ s us I r => dats_reads I b c3 r, c1, c2, c4, fun l n => q _ _ (dat_new n) (.lst (wd_new A n) upd_same ((srt_dats b).same (dat_new n)))⟩
    · exact q.elim
  · unfold sortedQ
    split <;> first | exact mono_gd _ | exact mono_bad
end
end Lq
namespace Cr
open PySem PySem.Spec PyProof.Rows L2
/-! ### d.items() of a dict whose keys are tuples -/
/-- the items of the locked dict at d, each a new pair -/
def ItiT (d : Addr) (o : Obj) (kvs : List (List Key × V)) : It :=
  ⟨fun i H => H d = some (.frz o (.dT kvs)) ∧ i < kvs.length, fun i H x H' => ∃ T k v q, kvs[i]? = some (k, v) ∧ x = .ref T ∧ H T = none ∧ H q = some (.tup (k.map kV)) ∧ H' = upd H T (.tup [.ref q, v]), fun i H => H d = some (.frz o (.dT kvs)) ∧ kvs.length ≤ i⟩
theorem frzT2 {X : Cx} {pins : List (Addr × Obj)} {σ : L2.St} {H : Hp} {s : Shared} {d : Addr} {o : Obj} {kvs : List (List Key × V)} (I : Inv X pins σ H s) (h : H d = some (.frz o (.dT kvs))) :
    (d == sysModules) = false ∧ s.heap.get? d = some o ∧ o.ExactDict ∧ ∃ (es : Array DictEntry) (ep : Nat), o.data = .dict es ep ∧ es.size = kvs.length ∧
      ∀ (i : Nat) (k : List Key) (v : V), kvs[i]? = some (k, v) → ∃ (en : DictEntry) (q : Addr), es[i]? = some en ∧ en.key = .ref q ∧ H q = some (.tup (k.map kV)) ∧ RelV v en.val := by
  obtain ⟨hd, z, hs, xs, pr, o', es, ep, ho, hx, hdt, he, _⟩ := I.hok d _ h
  rw [hd] at ho
  cases ho
  refine ⟨hs, hd, hx, es, ep, hdt, ?_, fun i k v e => ?_⟩
  · have l1 : es.size = xs.length := size_of_entries he
    have l2 : kvs.length = xs.length := Paired.length pr
    omega
  · obtain ⟨b, hb, e1, e2, e3⟩ := paired_get pr e
    have q := entry_at he i
    rw [hb] at q
    exact ⟨_, b.2.1, q, rfl, e2, e3⟩
theorem turn_itemsT {P : Program} {w : World} {K : PySem.W.Frag} {d : Addr} {o : Obj} {es : Array DictEntry} {ep : Nat} {kvs : List (List Key × V)} {elts : List Expr} {kk : Nat} {tpos : Pos} (it : Addr) (hod : o.data = .dict es ep) :
    Turn P w K (.Tuple elts kk tpos) (ItiT d o kvs) [it] it (fun i h => ∃ ok ov, IsItemIter h it d i es.size ep ok ov) where
  mem := by simp
  obj := fun i h st b hb => by
    have e : b = it := by simpa using hb
    subst e
    obtain ⟨ok, ov, e⟩ := st
    exact ⟨_, e, fun v z => nomatch z⟩
  keep := fun i h h' st k => let ⟨ok, ov, e⟩ := st; ⟨ok, ov, k it (by simp) _ e⟩
  item := by
    intro X hP hw hK hc i pins s σ H E I hf st hg
    subst hP hw hK
    obtain ⟨hd, hi⟩ := hg
    obtain ⟨hs, hgd, hx, es', ep', hdt, hsz, ent⟩ := frzT2 I hd
    obtain ⟨rfl, rfl⟩ := dict_ep hod hdt
    obtain ⟨⟨k, v⟩, hkv⟩ : ∃ p, kvs[i]? = some p := ⟨kvs[i], List.getElem?_eq_getElem hi⟩
    obtain ⟨en, q, hen, hkey, hq, ru⟩ := ent i k v hkv
    obtain ⟨ok, ov, he⟩ := st
    have hlt : it < s.heap.objs.size := Heap.lt_size he
    have hi2 : i < es'.size := by omega
    have hen2 : es'[i] = en := by
      have := Array.getElem?_eq_getElem hi2
      rw [this] at hen
      exact Option.some.inj hen
    refine DT.nextI he ⟨o, hgd, hx, hdt⟩ hi2 fun h' ho hT hz hk => ?_
    rw [hen2] at ho hT
    refine ⟨_, rfl, wpAny_letOwnedTupleGo_items (s := { s with heap := h' }) ho fun h'' he' sb => ?_⟩
    have hT2 : h''.get? s.heap.objs.size = some { cls := .type "tuple", data := .seq #[en.key, en.val] } := (sb.2 _ (Nat.ne_of_gt hlt)).trans hT
    have new : ObjOk X.prog X.w (upd H s.heap.objs.size (.tup [.ref q, v])) h'' s.heap.objs.size (.tup [.ref q, v]) :=
      ⟨by show 2 ≤ sizeLine; decide, [en.key, en.val], .cons hkey (.cons ru .nil), ⟨_, hT2, rfl, _, rfl⟩⟩
    have I1 : Inv X pins σ (upd H s.heap.objs.size (.tup [.ref q, v])) { s with heap := h'' } :=
      I.turnedNew (t' := s.toks) (ch := [it]) (fun b ob hb e => (sb.2 b (by simpa using hb)).trans (hk b ob (by simpa using hb) e)) hf (Nat.le_refl _) new
    refine ⟨.ref s.heap.objs.size, _, I1, rfl, ⟨_, k, v, q, hkv, rfl, I.hok.fresh (Nat.le_refl _), hq, rfl⟩, ⟨en.key, en.val, ?_⟩, fun b hb => ?_⟩
    · exact he'
    · have e : b = it := by simpa using hb
      rw [e, upd_ne (Nat.ne_of_lt hlt)]
      exact (hf it (by simp)).1
  done := by
    intro X hP hw hK hc i pins s σ H E I hf st hg
    subst hP hw hK
    obtain ⟨hd, hi⟩ := hg
    obtain ⟨f0, f1, f2, f3, f4, f5⟩ := hf it (by simp)
    obtain ⟨hs, hgd, hx, es', ep', hdt, hsz, ent⟩ := frzT2 I hd
    obtain ⟨rfl, rfl⟩ := dict_ep hod hdt
    obtain ⟨ok, ov, he⟩ := st
    exact DT.endI (I.ok.hd hc) he ⟨o, hgd, hx, hdt⟩ (by omega) fun h' eb => ⟨rfl, I.turned (t' := s.toks) (fun b ob hb e => eb b ob hb e) f0 f1 f3 f4 f5⟩
  self := fun A i s Q E st h => let ⟨_, _, e⟩ := st; PySem.W.kcp_self e h
def iItemsT (td : TE) : TI := fun σ H R => td σ H fun x H1 => ∃ d o kvs, x = .ref d ∧ H1 d = some (.frz o (.dT kvs)) ∧ R (ItiT d o kvs) H1
section
variable {X : Cx} {tg e : Expr} {td : TE} {apos cpos : Pos}
theorem pi_itemsT {elts : List Expr} {kk : Nat} {tpos : Pos} (he : PE X e td) (hbase : attributeBase e "items" X.env (eval e X.env) = eval e X.env := by rfl) (hline : (apos.endLine == cpos.line) = true := by rfl) :
    PI X (.Tuple elts kk tpos) (.Call (.Attribute e "items" apos) [] [] cpos) (iItemsT td) := by
  refine ⟨fun pins s σ H R I h => ?_⟩
  refine wpAny_Call_method (T := "dict") (id := "dict.items") hbase rfl hline F.plainAttrs_dict F.slot_dict_items F.type_dict_items (thn (he.run pins s σ H _ I h) fun u s1 ⟨x, H1, I1, rx, d, o, kvs, ex, hd, q⟩ => ?_)
  subst ex
  obtain rfl : u = Value.ref d := rx
  obtain ⟨hs, hgd, hx, es, ep, hdt, hsz, ent⟩ := frzT2 I1 hd
  have raw : DT.Raw s1.heap d es ep := ⟨o, hgd, hx, hdt⟩
  refine ⟨raw.typeIs, fun a ea => by cases ea; exact ⟨o, hgd, hx.2.1⟩, ?_⟩
  have I2 : Inv X pins σ H1 { s1 with heap := s1.heap.push { cls := .type "dict_items", data := .fields #[.ref d] } } := I1.kept (t' := s1.toks) fun b ob q => Heap.get?_push_of_some _ q
  have fin : wpAny (model X.prog X.w) X.A (pyIter (.ref s1.heap.objs.size)) (PIE X pins σ (.Tuple elts kk tpos) R) X.xe { s1 with heap := s1.heap.push { cls := .type "dict_items", data := .fields #[.ref d] } } := by
    refine DT.iterI (d := d) (es := es) (ep := ep) ⟨_, Heap.get?_push_size _ rfl, rfl, rfl⟩ (raw.push _) (pi_one (tk := s1.toks) I2 _ (turn_itemsT _ hdt) ⟨.none, .none, ?_⟩ q)
    exact Heap.get?_push_size _ rfl
  show wpAny _ _ (callWith cpos (.builtin "dict.items") [.ref d] [] []) _ X.xe s1
  exact method_meetsIn F.slot_dict_items F.entry_dict_items rfl (PySem.evalArgs_none ⟨rfl, raw.typeIs, F.args_dict_items_1 _, _, DT.meetsItems (es := es) (ep := ep) hs, raw, fin⟩)
end
end Cr
namespace Lq
open PySem L2
/-! ### [.. for (..) in d.items()], d an own dict whose keys are tuples and whose values are whole numbers -/
theorem lc_body {k : PyData → Rho → Wp Rho} {t : Rho → Wp Bool} {f : Rho → Wp PyData} {vs ws : List Nat} (mk : ∀ d ρ, Mono (k d ρ)) (mt : ∀ ρ, Mono (t ρ)) (mf : ∀ ρ, Mono (f ρ)) (hws : ∀ w ∈ ws, w ∈ vs) {σ : St} {H H1 : Hp} {Q : VK} {fr : Fr} {O : List (Option Addr)} {ρ : Rho} {ds : List PyData} {J : It}
    (A : At fr O σ ρ H) (e1 : Ex fr.pl H H1) (it : Its false fr O H1 J ds) (hz : ds.length ≤ sizeLine) (hno : noOwn ρ vs = true)
    (q : wLc k t f ds (wipeR ρ vs) fun zs => ∀ p us H', H p = none → Ex fr.pl H H' → H' p = some (.lst us) → Dats (fun b => Wd fr O b ∨ b = p) H' us zs → Q (.ref p) H') : tLc (fun _ _ R => R J H1) (tgOf ws k) (ttOf t) (teOf true f) vs σ H Q := by
  have A1 := A.ex e1
  intro D nD
  obtain ⟨Gd, Y, w, hG, hY⟩ := it.ex
  have nD0 : H D = none := by
    cases z : H D with
    | none => rfl
    | some o => exact absurd nD (e1.there D (by rw [z]; exact Option.some_ne_none _))
  have Dpool : ∀ a c, fr.pl = some (a, c) → D ≠ a ∧ D ≠ c := fun a c e => by
    obtain ⟨h1, h2⟩ := pool_two (A1.pool a c e).1
    exact ⟨fun z => h1 (by rw [← z]; exact nD), fun z => h2 (by rw [← z]; exact nD)⟩
  refine lc_it w (fun i H' => ∃ acc ys, H' D = some (.lst acc) ∧ acc.length ≤ i ∧ Dats (fun b => Wd fr O b ∨ b = D) H' acc ys ∧ Ex fr.pl H1 H' ∧
      wLc k t f (ds.drop i) (wipeR ρ vs) fun zs => ∀ p us H', H p = none → Ex fr.pl H H' → H' p = some (.lst us) → Dats (fun b => Wd fr O b ∨ b = p) H' us (ys ++ zs) → Q (.ref p) H')
    ⟨[], [], upd_same, Nat.le_refl _, .nil, Ex.new A1 nD, q⟩ (fun i H' _ p => ?_) (fun i x H' Hb hi p y => ?_) (fun H' p => ?_)
  · obtain ⟨acc, ys, p1, p2, p3, p4, p5⟩ := p
    exact hG H' p4
  · obtain ⟨acc, ys, p1, p2, p3, p4, p5⟩ := p
    let fr2 : Fr := ⟨fun b => fr.U b ∨ b = D, fun b => some b ∈ O ∨ ∃ c, fr.pl = some (b, c), fr.pl, Hb⟩
    have hW : ∀ q, ¬ Wd fr O q → H1 q ≠ none → ¬ Wd fr2 O q := fun q n h z => by
      rcases z with (z | z) | z
      · exact n (.inl z)
      · exact h (by rw [z]; exact nD)
      · exact n (.inr z)
    obtain ⟨sm, d, hd, hx⟩ := hY i H' x Hb (Wd fr2 O) hi p4 hW y
    have A2 := A1.ex p4
    have A3 := A2.ex (A2.same sm)
    have pb : Hb D = some (.lst acc) := sm _ _ p1
    have e14 : Ex fr.pl H1 Hb := p4.trans (A2.same sm)
    obtain ⟨v1, v2⟩ := A1.via (b := false) (H' := Hb) e14
    have B : At fr2 O (L2.wipe σ vs) (wipeR ρ vs) Hb := by
      refine ⟨Slots.wipe (A1.sl.to hW v1 v2 fun p o m h => e14.keep p o (fun a c z => ((A1.own p m).2.1 a c z).1) h) vs hno, fun _ _ _ h => h, fun a c e => ⟨e14.pool a c e, .inr ⟨c, e⟩, .inl (A1.pool a c e).2.2⟩, fun p m => ?_, A1.nd, fun b u => ?_, fun _ h => h⟩
      · refine ⟨⟨fun u => u.elim (A1.own p m).1.1 fun e => ?_, .inl (.inl m)⟩, (A3.own p m).2⟩
        exact A1.wd (.inr m) (by rw [e]; exact nD)
      · rcases u with u | u
        · exact e14.there b (A1.wd (.inl u))
        · show Hb b ≠ none
          rw [u, pb]; exact Option.some_ne_none _
    have e : ds.drop i = d :: ds.drop (i + 1) := by
      obtain ⟨h1, h2⟩ := List.getElem?_eq_some_iff.mp hd
      rw [List.drop_eq_getElem_cons hi, h2]
    rw [e] at p5
    refine ⟨fr2, O, _, d, B, hx, mk _ _ _ _ (fun ρ1 k1 σ1 O1 ag B1 => ?_) p5⟩
    refine ⟨wipe_agree ag hws, fr2, O1, ρ1, B1, mt _ _ _ (fun b k2 H3 e3 => ?_) k1⟩
    have B2 := B1.ex e3
    have kD : ∀ {Ha Hb' : Hp}, Ex fr.pl Ha Hb' → Ha D = some (.lst acc) → Hb' D = some (.lst acc) := fun ex h => ex.keep D _ (fun a c z => (Dpool a c z).1) h
    have WD : ∀ a c, fr.pl = some (a, c) → (Wd fr O a ∨ a = D) := fun a c z => .inl (.inl (A1.pool a c z).2.2)
    have q3 : H3 D = some (.lst acc) := kD e3 pb
    have d3 : Dats (fun b => Wd fr O b ∨ b = D) H3 acc ys := Dats.ex e3 (fun a c z => ⟨WD a c z, e14.pool a c z⟩) (p3.same sm)
    have e13 : Ex fr.pl H1 H3 := e14.trans e3
    have hlt : acc.length < sizeLine := by omega
    cases b with
    | true =>
      have k2 : bnd (f ρ1) _ _ := k2
      refine iteT ⟨fr2, O1, ρ1, B2, mf _ _ _ (fun yd k3 v H4 e4 g4 => ?_) k2⟩
      have q4 : H4 D = some (.lst acc) := kD e4 q3
      have d4 : Dats (fun b => Wd fr O b ∨ b = D) H4 acc ys := Dats.ex e4 (fun a c z => ⟨WD a c z, e13.pool a c z⟩) d3
      have e14' : Ex fr.pl H1 H4 := e13.trans e4
      have dv : Dat (fun b => Wd fr O b ∨ b = D) H4 v yd := (show Dat (Wd fr2 O1) H4 v yd from g4).to (fun q n _ z => by
        rcases z with (z | z) | z
        · exact n (.inl (.inl z))
        · obtain ⟨j, hj⟩ := List.mem_iff_getElem?.mp z
          have m := own_out A1.sl hno hj
          exact n (.inr (List.mem_of_getElem? ((ag.oeq j fun w => m (hws j w)).trans hj)))
        · exact n (.inl (.inr z))) (fun _ _ => id) fun _ _ _ => id
      have move : ∀ {us : List V} {zs : List PyData} {o : HO}, Dats (fun b => Wd fr O b ∨ b = D) H4 us zs → Dats (fun b => Wd fr O b ∨ b = D) (upd H4 D o) us zs := fun h =>
        h.to (fun _ n _ => n) (fun q vs h => by rw [upd_ne (ne_of h q4 (by intro z; cases z))]; exact h) fun q o n h => by rw [upd_ne (fun z => n (.inr z))]; exact h
      refine ⟨acc, q4, hlt, acc ++ [v], ys ++ [yd], upd_same, by rw [List.length_append]; exact Nat.succ_le_succ p2, move (d4.snoc dv), ?_, ?_⟩
      · refine ⟨fun b o n h => ?_, fun a c z => pool_up (e14'.pool a c z) (Dpool a c z).1 (Dpool a c z).2, fun b h => ?_⟩
        · rw [upd_ne (ne_of_none h nD)]; exact e14'.keep b o n h
        · by_cases z : b = D
          · rw [z, upd_same]; exact Option.some_ne_none _
          · rw [upd_ne z]; exact e14'.there b h
      · refine mono_wLc mk mt mf _ _ _ _ (fun zs h => ?_) k3
        rw [List.append_assoc]
        exact h
    | false =>
      have k2 : wLc k t f (ds.drop (i + 1)) (wipeR ρ vs) _ := k2
      exact iteF ⟨acc, ys, q3, by omega, d3, e13, k2⟩
  · obtain ⟨acc, ys, p1, p2, p3, p4, p5⟩ := p
    rw [List.drop_length] at p5
    have p5 := (show ∀ p us H', _ from p5) D acc H' nD0 (e1.trans p4) p1
    rw [List.append_nil] at p5
    exact p5 p3
def pairD (e : PyData × PyData) : PyData := .tuple [e.1, e.2]
def fLcIt (i : Nat) (k : PyData → Rho → Wp Rho) (t : Rho → Wp Bool) (f : Rho → Wp PyData) (vs : List Nat) : Rho → Wp (List PyData) :=
  fun ρ => bnd (slDT ρ[i]?) fun es Q => (es.length ≤ sizeLine ∧ noOwn (ρ.set i .un) vs = true ∧ ∀ e ∈ es, ∃ n : Int, e.2 = .int n) ∧ wLc k t f (es.map pairD) (wipeR (ρ.set i .un) vs) Q
theorem mono_fLcIt {i : Nat} {k : PyData → Rho → Wp Rho} {t : Rho → Wp Bool} {f : Rho → Wp PyData} {vs : List Nat} (mk : ∀ d ρ, Mono (k d ρ)) (mt : ∀ ρ, Mono (t ρ)) (mf : ∀ ρ, Mono (f ρ)) (ρ : Rho) : Mono (fLcIt i k t f vs ρ) :=
  mono_bnd (mono_slDT _) fun _ _ _ h q => ⟨q.1, mono_wLc mk mt mf _ _ _ _ h q.2⟩
theorem datT_get {W : Addr → Prop} {H : Hp} : ∀ {kvs : List (List Key × V)} {es : List (PyData × PyData)} {i : Nat} {k : List Key} {v : V}, DatT W H kvs es → kvs[i]? = some (k, v) → ∃ e, es[i]? = some (.tuple (k.map kD), e) ∧ Dat W H v e
  | _, _, _, _, _, .nil, h => by simp at h
  | _, _, 0, _, _, .cons a _, h => by simp at h; obtain ⟨rfl, rfl⟩ := h; exact ⟨_, rfl, a⟩
  | _, _, i + 1, _, _, .cons _ r, h => datT_get (i := i) r (by simpa using h)
theorem walk_itemsT {d : Addr} {o : Obj} {kvs : List (List Key × V)} : Walk (Cr.ItiT d o kvs) kvs.length (fun H => H d = some (.frz o (.dT kvs))) (fun i Ha x Hb => ∃ T k v q, kvs[i]? = some (k, v) ∧ x = V.ref T ∧ Ha T = none ∧ Ha q = some (.tup (k.map kV)) ∧ Hb = upd Ha T (.tup [.ref q, v])) :=
  ⟨fun _ _ hi q => ⟨q, hi⟩, fun _ q => ⟨q, Nat.le_refl _⟩, fun _ _ _ _ _ _ y => y⟩
/-- the state while the dict of slot i is locked -/
theorem At.lock {fr : Fr} {O : List (Option Addr)} {σ : St} {ρ : Rho} {H : Hp} (A : At fr O σ ρ H) {i : Nat} {p : Addr} {kvs : List (List Key × V)} (h1 : O[i]? = some (some p)) (h2 : σ[i]? = some (some (.ref p))) (h3 : H p = some (.dT kvs)) (od : Obj) :
    At ⟨fun b => fr.U b ∨ b = p, fun b => some b ∈ O.set i none ∨ ∃ c, fr.pl = some (b, c), fr.pl, upd H p (.frz od (.dT kvs))⟩ (O.set i none) σ (ρ.set i .un) (upd H p (.frz od (.dT kvs))) := by
  have mp : some p ∈ O := List.mem_of_getElem? h1
  have sub : ∀ {j : Nat} {q : Addr}, (O.set i none)[j]? = some (some q) → O[j]? = some (some q) ∧ j ≠ i := fun {j q} e => by
    rw [List.getElem?_set] at e
    split at e
    · split at e <;> simp at e
    · rename_i hne
      exact ⟨e, fun z => hne z.symm⟩
  have ne : ∀ q, some q ∈ O.set i none → some q ∈ O ∧ q ≠ p := fun q m => by
    obtain ⟨j, hj⟩ := List.mem_iff_getElem?.mp m
    obtain ⟨a, b⟩ := sub hj
    exact ⟨List.mem_of_getElem? a, fun z => b (A.nd j i p (by rw [← z]; exact a) h1)⟩
  have other : ∀ b o, b ≠ p → H b = some o → upd H p (.frz od (.dT kvs)) b = some o := fun b o n h => by rw [upd_ne n]; exact h
  have tn : ∀ b (xs : List V), H b = some (.tup xs) → b ≠ p := fun b xs h => ne_of h h3 (by intro z; cases z)
  have pl : ∀ a c, fr.pl = some (a, c) → p ≠ a ∧ p ≠ c := fun a c e => (A.own p mp).2.1 a c e
  refine ⟨?_, fun _ _ _ h => h, fun a c e => ⟨pool_up (A.pool a c e).1 (pl a c e).1 (pl a c e).2, .inr ⟨c, e⟩, .inl (A.pool a c e).2.2⟩, fun q m => ?_, fun j l q a b => A.nd j l q (sub a).1 (sub b).1, fun b u => ?_, fun _ h => h⟩
  · have s1 := A.sl.set (SlotAt.un (some (.ref p))) i
    rw [set_self h2] at s1
    refine s1.to (fun q n _ z => n ?_) (fun b xs h => other b _ (tn b xs h) h) (fun b o n h => other b o (fun z => n (.inr (by rw [z]; exact mp))) h) fun b o m h => other b o (ne b m).2 h
    rcases z with (z | z) | z
    · exact .inl z
    · exact .inr (by rw [z]; exact mp)
    · exact .inr (ne q z).1
  · obtain ⟨a, b⟩ := ne q m
    obtain ⟨c1, c2, o, c3, c4⟩ := A.own q a
    exact ⟨⟨fun u => u.elim c1.1 b, .inl (.inl m)⟩, c2, o, other q o b c3, c4⟩
  · by_cases z : b = p
    · rw [z]; show upd H p _ p ≠ none; rw [upd_same]; exact Option.some_ne_none _
    · show upd H p _ b ≠ none
      rw [upd_ne z]
      exact A.wd (.inl (u.elim id fun y => absurd y z))
section
variable {X : Cx} {elt : Expr} {elts : List Expr} {kk : Nat} {tpos apos cpos : Pos} {x : Str} {px : Pos} {ifs : List Expr} {scope : Scope} {own : List (Str × Nat)} {pos : Pos} {k : PyData → Rho → Wp Rho} {t : Rho → Wp Bool} {f : Rho → Wp PyData} {ws : List Nat}
theorem f_lcIt (i : Nat) (hc : X.calm = true) (hN : X.N.Nodup) (ok : BlkOk X.N X.env.scope scope own) (hg : ∀ (s : Shared) (H : Hp) (C : Addr) (cl : List (Str × Addr)) (fp : List Addr), G (X.blk s H scope (compEnvC scope cl C X.env) fp) ws (.Tuple elts kk tpos) k)
    (ht : ∀ (s : Shared) (H : Hp) (C : Addr) (cl : List (Str × Addr)) (fp : List Addr), TTs (X.blk s H scope (compEnvC scope cl C X.env) fp) ifs t) (he : ∀ (s : Shared) (H : Hp) (C : Addr) (cl : List (Str × Addr)) (fp : List Addr), E (X.blk s H scope (compEnvC scope cl C X.env) fp) true elt f)
    (hx : X.N[i]? = some x := by rfl) (hv : Vis X.env.scope x := by first | exact Or.inl rfl | exact Or.inr (Or.inl rfl) | exact Or.inr (Or.inr rfl)) (hd : (x == ("__debug__" : Str)) = false := by decide) (hcd : (x == ("__classdict__" : Str)) = false := by decide)
    (hbase : attributeBase (.Name x px) "items" X.env (eval (.Name x px) X.env) = eval (.Name x px) X.env := by rfl) (hline : (apos.endLine == cpos.line) = true := by rfl)
    (hws : ∀ w ∈ ws, w ∈ own.map (·.2) := by decide) (hs : ∀ y, foldedSetIterable (.Call (.Attribute (.Name x px) "items" apos) [] [] cpos) X.env y = pure y := by intro _; rfl) :
    EF X (.ListComp elt [⟨.Tuple elts kk tpos, .Call (.Attribute (.Name x px) "items" apos) [] [] cpos, ifs, 0⟩] scope pos) (fLcIt i k t f (own.map (·.2))) := by
  have mk := (hg X.s_0 X.H_0 0 [] []).mo
  have mt := (ht X.s_0 X.H_0 0 [] []).mo
  have mf := (he X.s_0 X.H_0 0 [] []).mo
  refine ⟨pe_imp (pe_lock (pe_lc hc hN (Cr.pi_itemsT (pe_var hx hv hd hcd) hbase hline) ok (fun s H C cl fp => (hg s H C cl fp).pg) (fun s H C cl fp => (ht s H C cl fp).pt) (fun s H C cl fp => (he s H C cl fp).pe) hs)) fun σ H Q ⟨fr, O, ρ, A, q⟩ => ?_, mono_fLcIt mk mt mf⟩
  obtain ⟨p, kvs, es, _, h1, h2, h3, h4, ⟨q1, q2, q3⟩, q⟩ := A.ditO (i := i) q
  refine ⟨p, .dT kvs, h3, trivial, fun od => ⟨.ref p, h2, p, od, kvs, rfl, upd_same, ?_⟩⟩
  have B := A.lock h1 h2 h3 od
  have mp : some p ∈ O := List.mem_of_getElem? h1
  have pl : ∀ a c, fr.pl = some (a, c) → p ≠ a ∧ p ≠ c := fun a c e => (A.own p mp).2.1 a c e
  have hl := datT_len h4
  have IT : Its false ⟨fun b => fr.U b ∨ b = p, fun b => some b ∈ O.set i none ∨ ∃ c, fr.pl = some (b, c), fr.pl, upd H p (.frz od (.dT kvs))⟩ (O.set i none) (upd H p (.frz od (.dT kvs))) (Cr.ItiT p od kvs) (es.map pairD) := by
    refine ⟨_, _, by rw [List.length_map, ← hl]; exact walk_itemsT, fun H3 e => ?_, fun j Ha y Hb W hj eA hW yy => ?_⟩
    · have e : Ex fr.pl (upd H p (.frz od (.dT kvs))) H3 := e
      exact e.keep p _ (fun a c z => (pl a c z).1) upd_same
    · obtain ⟨T, kq, v, q', e1, e2, e3, e4, e5⟩ := yy
      obtain ⟨d, f1, f2⟩ := datT_get h4 e1
      obtain ⟨n, hn⟩ := q3 _ (List.mem_of_getElem? f1)
      simp only at hn
      subst hn
      have ev := dat_int f2
      subst ev
      subst e5
      subst e2
      refine ⟨dat_new e3, .tuple [.tuple (kq.map kD), .int n], by rw [List.getElem?_map, f1]; rfl, .tup upd_same (.cons (.tup (vs := kq.map kV) ?_ (dats_kV kq)) (.cons (.int n) .nil))⟩
      rw [upd_ne (ne_of_none e4 e3)]
      exact e4
  refine lc_body (Q := fun v H' => H' p = some (.frz od (.dT kvs)) ∧ Q v (upd H' p (.dT kvs))) mk mt mf hws B B.refl IT (by rw [List.length_map]; exact q1) q2 (mono_wLc mk mt mf _ _ _ _ (fun zs h D us H' n e g1 g2 => ?_) q)
  have e : Ex fr.pl (upd H p (.frz od (.dT kvs))) H' := e
  have np : D ≠ p := fun z => by rw [z, upd_same] at n; cases n
  have nD : H D = none := by rw [upd_ne np] at n; exact n
  refine ⟨e.keep p _ (fun a c z => (pl a c z).1) upd_same, h D us _ nD ⟨fun b o m g => ?_, fun a c z => pool_up (e.pool a c z) (pl a c z).1 (pl a c z).2, fun b m => ?_⟩ (by rw [upd_ne np]; exact g1) ?_⟩
  · by_cases z : b = p
    · rw [z] at g ⊢
      rw [h3] at g
      rw [upd_same]; exact g
    · rw [upd_ne z]
      exact e.keep b o m (by rw [upd_ne z]; exact g)
  · by_cases z : b = p
    · rw [z, upd_same]; exact Option.some_ne_none _
    · rw [upd_ne z]
      exact e.there b (by rw [upd_ne z]; exact m)
  · refine g2.to (fun q n _ z => n ?_) (fun b xs g => ?_) (fun b o n g => ?_)
    · rcases z with (z | z) | z
      · exact .inl (.inl (.inl z))
      · by_cases y : q = p
        · exact .inl (.inl (.inr y))
        · obtain ⟨j, hj⟩ := List.mem_iff_getElem?.mp z
          have ij : i ≠ j := fun w => y (by rw [← w, h1] at hj; exact (Option.some.inj (Option.some.inj hj)).symm)
          exact .inl (.inr (List.mem_of_getElem? (i := j) (by rw [List.getElem?_set_ne ij]; exact hj)))
      · exact .inr z
    · have hp : H' p = some (.frz od (.dT kvs)) := e.keep p _ (fun a c z => (pl a c z).1) upd_same
      rw [upd_ne (ne_of g hp (by intro z; cases z))]
      exact g
    · rw [upd_ne fun z => n (.inl (.inl (.inr z)))]
      exact g
end
end Lq
namespace Lq
open PySem L2
abbrev s_l_same : Stmt := Cf.top 3
theorem sc_l_same : FnScope ["actual", "due", "k"] ["actual", "due"] (defScope s_l_same) := ⟨rfl, rfl, rfl, by decide +kernel, rfl, by decide +kernel, by decide +kernel⟩
def b_l_same (c_l_same : List PyData → Wp PyData) : Rho → Wp Out :=
  (sSeq (sIf (tEither (tTru (eIsi "tuple" (eVar 1))) (tTru (eIsi "list" (eVar 1)))) (sSeq (sIf (tEither (tT (eOp neQ (eIsi "tuple" (eVar 1)) (eIsi "tuple" (eVar 0)))) (tEither (tT (eOp neQ (eIsi "list" (eVar 1)) (eIsi "list" (eVar 0)))) (tT (eOp neQ (eCall lenQ (aCons (eVar 0) aNil)) (eCall lenQ (aCons (eVar 1) aNil)))))) (sRet (eC (.bool false))) sNil)
  (sRet (eOp eqQ (eCall lenQ (aCons (eL (fLc (iCall rng1 (aCons (eCall lenQ (aCons (eVar 1) aNil)) aNil)) (gN 2) (tNo (tTru (eFn c_l_same (aCons (eOp ixQ (eVar 0) (eVar 2)) (aCons (eOp ixQ (eVar 1) (eVar 2)) aNil))))) (eVar 2) [2])) aNil)) (eC (.int 0))))) sNil)
  (sSeq (sIf (tT (eOp isQ (eVar 1) (eC .none))) (sRet (eOp isQ (eVar 0) (eC .none))) sNil)
  (sSeq (sIf (tEither (tTru (eIsi "bool" (eVar 1))) (tTru (eIsi "bool" (eVar 0)))) (sRet (eBoth (eIsi "bool" (eVar 1)) (eBoth (eIsi "bool" (eVar 0)) (eOp eqQ (eVar 0) (eVar 1))))) sNil)
  (sSeq (sIf (tTru (eIsi "int" (eVar 1))) (sRet (eBoth (eIsi "int" (eVar 0)) (eOp eqQ (eVar 0) (eVar 1)))) sNil)
  (sRet (eBoth (eIsi "str" (eVar 0)) (eOp eqQ (eVar 0) (eVar 1))))))))
section
variable {P : Program} {w : World} {K : PySem.W.Frag} {mg : Str → Option Value} {base : Heap}
theorem q_l_same1 {f : Addr} {fd : FuncData} {lv j_l_same : Nat} {c_l_same : List PyData → Wp PyData} (F : Fun K "_law_same" "_law_same" s_l_same f fd) (B : Cf.Blt mg) (C_l_same : Cf.At P w K mg base "_law_same" j_l_same ["actual", "due"] (spQ 2 c_l_same)) (L_l_same : j_l_same ≤ lv) :
    FnOk P w K mg base CX0 (lv + 1) f fd ["actual", "due"] (spQ 2 (runQ 3 (b_l_same c_l_same))) := by
  have nd := sc_l_same.nd
  exact fn_q F sc_l_same rfl fun cdv A outer s H E hr =>
  (ss_cons (s_if (TW.t (tw_or (t_tru (e_isi (e_var 1).tr B.isinstance B.tuple)) (tw_or1 (t_tru (e_isi (e_var 1).tr B.isinstance B.list))))) (ss_cons (s_if (TW.t (tw_or (t_cmp (q_ne hr.units) (e_isi (e_var 1).tr B.isinstance B.tuple) (e_isi (e_var 0).tr B.isinstance B.tuple)) (tw_or (t_cmp (q_ne hr.units) (e_isi (e_var 1).tr B.isinstance B.list) (e_isi (e_var 0).tr B.isinstance B.list)) (tw_or1 (t_cmp (q_ne hr.units) (e_callB q_len B.len (a_cons (e_var 0).tr a_nil)) (e_callB q_len B.len (a_cons (e_var 1).tr a_nil))))))) (ss_one (s_ret e_bl)) ss_nil)
  (ss_one (s_ret (e_cmp (q_eq hr.units) (e_callB q_len B.len (a_cons (f_lc rfl nd (own := [("k", 2)]) (i_range1 B.range (a_cons (e_callB q_len B.len (a_cons (e_var 1).tr a_nil)) a_nil)) (blkOk_by (N := ["actual", "due", "k"]) (sc := defScope s_l_same) (by decide +kernel)) (fun _ _ _ _ _ => (g_name 2 nd)) (fun _ _ _ _ _ => ts_one (t_not (t_tru (e_call C_l_same (hr.mono L_l_same) (a_cons (e_ix q_ix (e_var 0).tr (e_var 2).tr) (a_cons (e_ix q_ix (e_var 1).tr (e_var 2).tr) a_nil)))))) (fun _ _ _ _ _ => (e_var 2))).toE a_nil)) e_int)))) ss_nil)
  (ss_cons (s_if (t_cmp q_is (e_var 1).tr e_non) (ss_one (s_ret (e_cmp q_is (e_var 0).tr e_non))) ss_nil)
  (ss_cons (s_if (TW.t (tw_or (t_tru (e_isi (e_var 1).tr B.isinstance B.bool)) (tw_or1 (t_tru (e_isi (e_var 0).tr B.isinstance B.bool))))) (ss_one (s_ret (e_and (e_isi (e_var 1).tr B.isinstance B.bool) (e_and (e_isi (e_var 0).tr B.isinstance B.bool) (e_one (e_cmp (q_eq hr.units) (e_var 0).tr (e_var 1).tr)))))) ss_nil)
  (ss_cons (s_if (t_tru (e_isi (e_var 1).tr B.isinstance B.int)) (ss_one (s_ret (e_and (e_isi (e_var 0).tr B.isinstance B.int) (e_one (e_cmp (q_eq hr.units) (e_var 0).tr (e_var 1).tr))))) ss_nil)
  (ss_one (s_ret (e_and (e_isi (e_var 0).tr B.isinstance B.str) (e_one (e_cmp (q_eq hr.units) (e_var 0).tr (e_var 1).tr)))))))))
def m_l_same : Nat → List PyData → Wp PyData
  | 0 => fun _ => bad
  | n + 1 => runQ 3 (b_l_same (m_l_same  n))
theorem q_l_same {f : Addr} {fd : FuncData} {lv  : Nat} (F : Fun K "_law_same" "_law_same" s_l_same f fd) (B : Cf.Blt mg) (bR : Binds K fd ["actual", "due"] []) (mR : mg "_law_same" = some (.ref f)) :
    ∀ n : Nat, FnOk P w K mg base CX0 (lv + n) f fd ["actual", "due"] (spQ 2 (m_l_same  n))
  | 0 => Cf.none_left fun vs H Q E h => by
    obtain ⟨ds, U, _, _, _, R, h, _⟩ := h
    exact h
  | n + 1 => q_l_same1 (lv := lv + n) F B ⟨f, fd, q_l_same F B bR mR   n, bR, F.kp, mR⟩ (Nat.le_refl _) 
end
end Lq
namespace Lq
open PySem L2
def M_l_same : List PyData → Wp PyData := m_l_same  10
end Lq
namespace Lq
open PySem L2
abbrev s_p_then : Stmt := Cf.top 1
theorem sc_p_then : FnScope ["first", "second", "found", "i", "j", "a", "start", "k", "b", "pair", "falls"] ["first", "second"] (defScope s_p_then) := ⟨rfl, rfl, rfl, by decide +kernel, rfl, by decide +kernel, by decide +kernel⟩
def b_p_then : Rho → Wp Out :=
  (sSeq (sDnewT 2)
  (sSeq (sFor (iSeq (eOp ixQ (eVar 0) (eC (.int 2)))) (gT (gsCons (gN 3) (gsCons (gN 4) (gsCons (gN 5) gsNil)))) (sFor (iSeq (eOp ixQ (eVar 1) (eC (.int 2)))) (gT (gsCons (gN 6) (gsCons (gN 7) (gsCons (gN 8) gsNil)))) (sIf (tT (eOp eqQ (eVar 6) (eVar 4))) (sSeq (sSet (gN 9) (eTup (aCons (eVar 3) (aCons (eVar 7) aNil))))
  (sPutT 2 (eVar 9) (eCall max3Q (aCons (eGet2 (eOwn 2) (eVar 9) (eC (.int 0))) (aCons (eVar 5) (aCons (eVar 8) aNil)))))) sNil)))
  (sRet (eTup (aCons (eOp ixQ (eVar 0) (eC (.int 0))) (aCons (eOp ixQ (eVar 1) (eC (.int 1))) (aCons (eCall tupleQ (aCons (eCall sortedQ (aCons (eL (fLcIt 2 (gT (gsCons (gT (gsCons (gN 3) (gsCons (gN 7) gsNil))) (gsCons (gN 10) gsNil))) tAll (eTup (aCons (eVar 3) (aCons (eVar 7) (aCons (eVar 10) aNil)))) [10, 3, 7])) aNil)) aNil)) aNil)))))))
section
variable {P : Program} {w : World} {K : PySem.W.Frag} {mg : Str → Option Value} {base : Heap}
theorem q_p_then {f : Addr} {fd : FuncData} {lv  : Nat} (F : Fun K "then" "then" s_p_then f fd) (B : Cf.Blt mg) :
    FnOk P w K mg base CX0 (lv + 1) f fd ["first", "second"] (spQ 2 (runQ 11 (b_p_then ))) := by
  have nd := sc_p_then.nd
  exact fn_q F sc_p_then rfl fun cdv A outer s H E hr =>
  (ss_cons (s_dnewT 2 nd)
  (ss_cons (s_for PassesOwn.never rfl (i_seq (e_ix q_ix (e_var 0).tr e_int)) (g_tup rfl (gs_cons (g_name 3 nd) (gs_cons (g_name 4 nd) (gs_cons (g_name 5 nd) gs_nil)))) (ss_one (s_for PassesOwn.never rfl (i_seq (e_ix q_ix (e_var 1).tr e_int)) (g_tup rfl (gs_cons (g_name 6 nd) (gs_cons (g_name 7 nd) (gs_cons (g_name 8 nd) gs_nil)))) (ss_one (s_if (t_cmp (q_eq hr.units) (e_var 6).tr (e_var 4).tr) (ss_cons (s_asg (e_tup (a_cons (e_var 3) (a_cons (e_var 7) a_nil))) (g_name 9 nd))
  (ss_one (s_putT 2 (hu_of hr) (e_callB (q_max3 rfl) B.max (a_cons (e_get2 (hu_of hr) (e_own 2) (e_var 9).tr e_int) (a_cons (e_var 5).tr (a_cons (e_var 8).tr a_nil)))) (e_var 9)))) ss_nil)))))
  (ss_one (s_ret (e_tup (a_cons (e_ix q_ix (e_var 0).tr e_int) (a_cons (e_ix q_ix (e_var 1).tr e_int) (a_cons (e_callTy q_tuple B.tuple (a_cons (e_callB (q_sorted rfl (hu65 hr)) B.sorted (a_cons (f_lcIt 2 rfl nd (own := [("falls", 10), ("i", 3), ("k", 7)]) (blkOk_by (N := ["first", "second", "found", "i", "j", "a", "start", "k", "b", "pair", "falls"]) (sc := defScope s_p_then) (by decide +kernel)) (fun _ _ _ _ _ => (g_tup rfl (gs_cons (g_tup rfl (gs_cons (g_name 3 nd) (gs_cons (g_name 7 nd) gs_nil))) (gs_cons (g_name 10 nd) gs_nil)))) (fun _ _ _ _ _ => ts_nil) (fun _ _ _ _ _ => (e_tup (a_cons (e_var 3) (a_cons (e_var 7) (a_cons (e_var 10) a_nil)))))).toE a_nil)) a_nil)) a_nil))))))))
end
end Lq
namespace Lq
open PySem L2
def M_p_then : List PyData → Wp PyData := runQ 11 (b_p_then )
end Lq
namespace Lq
open PySem L2
abbrev s_l_then : Stmt := Cf.top 9
theorem sc_l_then : FnScope ["first", "second", "ends", "one", "two", "key"] ["first", "second"] (defScope s_l_then) := ⟨rfl, rfl, rfl, by decide +kernel, rfl, by decide +kernel, by decide +kernel⟩
def b_l_then : Rho → Wp Out :=
  (sSeq (sDnewT 2)
  (sSeq (sFor (iSeq (eOp ixQ (eVar 0) (eC (.int 2)))) (gN 3) (sFor (iSeq (eOp ixQ (eVar 1) (eC (.int 2)))) (gN 4) (sIf (tT (eOp eqQ (eOp ixQ (eVar 3) (eC (.int 1))) (eOp ixQ (eVar 4) (eC (.int 0))))) (sSeq (sSet (gN 5) (eTup (aCons (eOp ixQ (eVar 3) (eC (.int 0))) (aCons (eOp ixQ (eVar 4) (eC (.int 1))) aNil))))
  (sPutT 2 (eVar 5) (eCall max3Q (aCons (eGet2 (eOwn 2) (eVar 5) (eC (.int 0))) (aCons (eOp ixQ (eVar 3) (eC (.int 2))) (aCons (eOp ixQ (eVar 4) (eC (.int 2))) aNil)))))) sNil)))
  (sRet (eTup (aCons (eOp ixQ (eVar 0) (eC (.int 0))) (aCons (eOp ixQ (eVar 1) (eC (.int 1))) (aCons (eCall tupleQ (aCons (eL (fLc (iSeq (eCall sortedQ (aCons (eOwn 2) aNil))) (gN 5) tAll (eOp addQ (eVar 5) (eTup (aCons (eDget (eOwn 2) (eVar 5)) aNil))) [5])) aNil)) aNil)))))))
section
variable {P : Program} {w : World} {K : PySem.W.Frag} {mg : Str → Option Value} {base : Heap}
theorem q_l_then {f : Addr} {fd : FuncData} {lv  : Nat} (F : Fun K "_law_then" "_law_then" s_l_then f fd) (B : Cf.Blt mg) :
    FnOk P w K mg base CX0 (lv + 1) f fd ["first", "second"] (spQ 2 (runQ 6 (b_l_then ))) := by
  have nd := sc_l_then.nd
  exact fn_q F sc_l_then rfl fun cdv A outer s H E hr =>
  (ss_cons (s_dnewT 2 nd)
  (ss_cons (s_for PassesOwn.never rfl (i_seq (e_ix q_ix (e_var 0).tr e_int)) (g_name 3 nd) (ss_one (s_for PassesOwn.never rfl (i_seq (e_ix q_ix (e_var 1).tr e_int)) (g_name 4 nd) (ss_one (s_if (t_cmp (q_eq hr.units) (e_ix q_ix (e_var 3).tr e_int) (e_ix q_ix (e_var 4).tr e_int)) (ss_cons (s_asg (e_tup (a_cons (e_ix q_ix (e_var 3).tr e_int) (a_cons (e_ix q_ix (e_var 4).tr e_int) a_nil))) (g_name 5 nd))
  (ss_one (s_putT 2 (hu_of hr) (e_callB (q_max3 rfl) B.max (a_cons (e_get2 (hu_of hr) (e_own 2) (e_var 5).tr e_int) (a_cons (e_ix q_ix (e_var 3).tr e_int) (a_cons (e_ix q_ix (e_var 4).tr e_int) a_nil)))) (e_var 5)))) ss_nil)))))
  (ss_one (s_ret (e_tup (a_cons (e_ix q_ix (e_var 0).tr e_int) (a_cons (e_ix q_ix (e_var 1).tr e_int) (a_cons (e_callTy q_tuple B.tuple (a_cons (f_lc rfl nd (own := [("key", 5)]) (i_seq (e_callB (q_sorted rfl (hu65 hr)) B.sorted (a_cons (e_own 2) a_nil))).weak (blkOk_by (N := ["first", "second", "ends", "one", "two", "key"]) (sc := defScope s_l_then) (by decide +kernel)) (fun _ _ _ _ _ => (g_name 5 nd)) (fun _ _ _ _ _ => ts_nil) (fun _ _ _ _ _ => (e_op q_add (e_var 5).tr (e_tup (a_cons (e_dget (hu_of hr) (e_own 2) (e_var 5).tr) a_nil))))).toE a_nil)) a_nil))))))))
end
end Lq
namespace Lq
open PySem L2
def M_l_then : List PyData → Wp PyData := runQ 6 (b_l_then )
end Lq
namespace Lq
open PySem L2
abbrev s_l_drawn_graph : Stmt := Cf.top 10
theorem sc_l_drawn_graph : FnScope ["pool", "one", "two", "row", "i", "j", "k"] ["pool", "one", "two"] (defScope s_l_drawn_graph) := ⟨rfl, rfl, rfl, by decide +kernel, rfl, by decide +kernel, by decide +kernel⟩
def b_l_drawn_graph (c_l_draw : List PyData → Wp PyData) : Rho → Wp Out :=
  (sSeq (sNew 3 (lLst aNil))
  (sSeq (sFor (iCall rng1 (aCons (eC (.int 3)) aNil)) (gN 4) (sFor (iCall rng1 (aCons (eC (.int 3)) aNil)) (gN 5) (sSeq (sSet (gN 6) (eFnP 0 c_l_draw (aCons (eC (.int 4)) aNil)))
  (sIf (tT (eOp ltQ (eVar 6) (eC (.int 2)))) (sApp 3 (eTup (aCons (eVar 4) (aCons (eVar 5) (aCons (eVar 6) aNil))))) sNil))))
  (sRet (eTup (aCons (eVar 1) (aCons (eVar 2) (aCons (eCall tupleQ (aCons (eOwn 3) aNil)) aNil)))))))
section
variable {P : Program} {w : World} {K : PySem.W.Frag} {mg : Str → Option Value} {base : Heap}
theorem q_l_drawn_graph {f : Addr} {fd : FuncData} {lv j_l_draw : Nat} {c_l_draw : List PyData → Wp PyData} (F : Fun K "_law_drawn_graph" "_law_drawn_graph" s_l_drawn_graph f fd) (B : Cf.Blt mg) (C_l_draw : Cf.At P w K mg base "_law_draw" j_l_draw ["pool", "many"] (spQP 1 c_l_draw)) (L_l_draw : j_l_draw ≤ lv) :
    FnOk P w K mg base CX0 (lv + 1) f fd ["pool", "one", "two"] (spQP 2 (runQP 7 (b_l_drawn_graph c_l_draw))) := by
  have nd := sc_l_drawn_graph.nd
  exact fn_qp F sc_l_drawn_graph rfl fun cdv A outer s H E hr =>
  (ss_cons (s_new 3 (f_lst a_nil) nd)
  (ss_cons (s_for PassesOwn.never rfl (i_range1 B.range (a_cons e_int a_nil)) (g_name 4 nd) (ss_one (s_for PassesOwn.never rfl (i_range1 B.range (a_cons e_int a_nil)) (g_name 5 nd) (ss_cons (s_asg (e_callP 0 C_l_draw (hr.mono L_l_draw) (a_cons e_int a_nil)) (g_name 6 nd))
  (ss_one (s_if (t_cmp q_lt (e_var 6).tr e_int) (ss_one (s_append 3 (e_tup (a_cons (e_var 4) (a_cons (e_var 5) (a_cons (e_var 6) a_nil)))))) ss_nil))))))
  (ss_one (s_ret (e_tup (a_cons (e_var 1) (a_cons (e_var 2) (a_cons (e_callTy q_tuple B.tuple (a_cons (e_own 3) a_nil)) a_nil))))))))
end
end Lq
namespace Lq
open PySem L2
def M_l_drawn_graph : List PyData → Wp PyData := runQP 7 (b_l_drawn_graph (mDraw))
end Lq
namespace Lq
open PySem L2
abbrev s_l_law : Stmt := Cf.top 11
theorem sc_l_law : FnScope ["script", "pool", "turn", "words", "one", "two", "three", "both"] ["script"] (defScope s_l_law) := ⟨rfl, rfl, rfl, by decide +kernel, rfl, by decide +kernel, by decide +kernel⟩
def b_l_law (c_l_words c_l_drawn_graph c_p_then c_l_same c_l_then : List PyData → Wp PyData) : Rho → Wp Out :=
  (sSeq (sFor (iCall rng1 (aCons (eC (.int 4)) aNil)) (gN 2) (sSeq (sSet (gN 3) (eFnP 1 c_l_words (aCons (eC (.int 4)) aNil)))
  (sSeq (sSet (gN 4) (eFnP 1 c_l_drawn_graph (aCons (eOp ixQ (eVar 3) (eC (.int 0))) (aCons (eOp ixQ (eVar 3) (eC (.int 1))) aNil))))
  (sSeq (sSet (gN 5) (eFnP 1 c_l_drawn_graph (aCons (eOp ixQ (eVar 3) (eC (.int 1))) (aCons (eOp ixQ (eVar 3) (eC (.int 2))) aNil))))
  (sSeq (sSet (gN 6) (eFnP 1 c_l_drawn_graph (aCons (eOp ixQ (eVar 3) (eC (.int 2))) (aCons (eOp ixQ (eVar 3) (eC (.int 3))) aNil))))
  (sSeq (sSet (gN 7) (eFn c_p_then (aCons (eVar 4) (aCons (eVar 5) aNil))))
  (sSeq (sIf (tEither (tNo (tTru (eFn c_l_same (aCons (eVar 7) (aCons (eFn c_l_then (aCons (eVar 4) (aCons (eVar 5) aNil))) aNil))))) (tNo (tTru (eFn c_l_same (aCons (eFn c_p_then (aCons (eVar 5) (aCons (eVar 6) aNil))) (aCons (eFn c_l_then (aCons (eVar 5) (aCons (eVar 6) aNil))) aNil)))))) (sRet (eC (.bool false))) sNil)
  (sIf (tNo (tTru (eFn c_l_same (aCons (eFn c_p_then (aCons (eVar 7) (aCons (eVar 6) aNil))) (aCons (eFn c_p_then (aCons (eVar 4) (aCons (eFn c_p_then (aCons (eVar 5) (aCons (eVar 6) aNil))) aNil))) aNil))))) (sRet (eC (.bool false))) sNil))))))))
  (sRet (eC (.bool true))))
section
variable {P : Program} {w : World} {K : PySem.W.Frag} {mg : Str → Option Value} {base : Heap}
theorem q_l_law {f : Addr} {fd : FuncData} {lv j_l_words j_l_drawn_graph j_p_then j_l_same j_l_then : Nat} {c_l_words c_l_drawn_graph c_p_then c_l_same c_l_then : List PyData → Wp PyData} (F : Fun K "law" "law" s_l_law f fd) (B : Cf.Blt mg) {j_pool : Nat} (C_pool : Cf.At P w K mg base "_law_pool" j_pool ["script"] (Cf.spPool K)) (L_pool : j_pool ≤ lv) (C_l_words : Cf.At P w K mg base "_law_words" j_l_words ["pool", "many"] (spQP 1 c_l_words)) (L_l_words : j_l_words ≤ lv) (C_l_drawn_graph : Cf.At P w K mg base "_law_drawn_graph" j_l_drawn_graph ["pool", "one", "two"] (spQP 2 c_l_drawn_graph)) (L_l_drawn_graph : j_l_drawn_graph ≤ lv) (C_p_then : Cf.At P w K mg base "then" j_p_then ["first", "second"] (spQ 2 c_p_then)) (L_p_then : j_p_then ≤ lv) (C_l_same : Cf.At P w K mg base "_law_same" j_l_same ["actual", "due"] (spQ 2 c_l_same)) (L_l_same : j_l_same ≤ lv) (C_l_then : Cf.At P w K mg base "_law_then" j_l_then ["first", "second"] (spQ 2 c_l_then)) (L_l_then : j_l_then ≤ lv) (ok : b_l_law c_l_words c_l_drawn_graph c_p_then c_l_same c_l_then (lawR 8 1) (fun o => o = .rt (.bool true))) :
    Cr.RunsG P w K mg base (lv + 1) f fd ["script"] (Cf.spLaw K) := by
  have nd := sc_l_law.nd
  exact fn_lawG (i := 1) F sc_l_law (by decide) (fun cdv A outer s H E hg hr => ⟨_, _, rfl, s_pool 1 C_pool (hr.mono L_pool) nd,
  (ss_cons (s_for PassesOwn.never rfl (i_range1 B.range (a_cons e_int a_nil)) (g_name 2 nd) (ss_cons (s_asg (e_callP 1 C_l_words (hr.mono L_l_words) (a_cons e_int a_nil)) (g_name 3 nd))
  (ss_cons (s_asg (e_callP 1 C_l_drawn_graph (hr.mono L_l_drawn_graph) (a_cons (e_ix q_ix (e_var 3).tr e_int) (a_cons (e_ix q_ix (e_var 3).tr e_int) a_nil))) (g_name 4 nd))
  (ss_cons (s_asg (e_callP 1 C_l_drawn_graph (hr.mono L_l_drawn_graph) (a_cons (e_ix q_ix (e_var 3).tr e_int) (a_cons (e_ix q_ix (e_var 3).tr e_int) a_nil))) (g_name 5 nd))
  (ss_cons (s_asg (e_callP 1 C_l_drawn_graph (hr.mono L_l_drawn_graph) (a_cons (e_ix q_ix (e_var 3).tr e_int) (a_cons (e_ix q_ix (e_var 3).tr e_int) a_nil))) (g_name 6 nd))
  (ss_cons (s_asg (e_call C_p_then (hr.mono L_p_then) (a_cons (e_var 4) (a_cons (e_var 5) a_nil))) (g_name 7 nd))
  (ss_cons (s_if (TW.t (tw_or (t_not (t_tru (e_call C_l_same (hr.mono L_l_same) (a_cons (e_var 7) (a_cons (e_call C_l_then (hr.mono L_l_then) (a_cons (e_var 4) (a_cons (e_var 5) a_nil))) a_nil))))) (tw_or1 (t_not (t_tru (e_call C_l_same (hr.mono L_l_same) (a_cons (e_call C_p_then (hr.mono L_p_then) (a_cons (e_var 5) (a_cons (e_var 6) a_nil))) (a_cons (e_call C_l_then (hr.mono L_l_then) (a_cons (e_var 5) (a_cons (e_var 6) a_nil))) a_nil)))))))) (ss_one (s_ret e_bl)) ss_nil)
  (ss_one (s_if (t_not (t_tru (e_call C_l_same (hr.mono L_l_same) (a_cons (e_call C_p_then (hr.mono L_p_then) (a_cons (e_var 7) (a_cons (e_var 6) a_nil))) (a_cons (e_call C_p_then (hr.mono L_p_then) (a_cons (e_var 4) (a_cons (e_call C_p_then (hr.mono L_p_then) (a_cons (e_var 5) (a_cons (e_var 6) a_nil))) a_nil))) a_nil))))) (ss_one (s_ret e_bl)) ss_nil)))))))))
  (ss_one (s_ret e_bl)))⟩) ok
end
end Lq
namespace Lq
open PySem L2
def M_l_law : Rho → Wp Out := b_l_law (mWords) (M_l_drawn_graph) (M_p_then) (M_l_same) (M_l_then)
end Lq
namespace Cf
open PySem L2
mutual
def Tm.size : Tm → Nat
  | .var _ => 1
  | .node _ ps => 1 + Tm.sizes ps
def Tm.sizes : List Tm → Nat
  | [] => 0
  | t :: ts => t.size + Tm.sizes ts
end
mutual
def Tm.high : Tm → Nat
  | .var _ => 1
  | .node _ ps => 1 + Tm.highs ps
def Tm.highs : List Tm → Nat
  | [] => 0
  | t :: ts => max t.high (Tm.highs ts)
end
mutual
def Tm.occ : Tm → List Int
  | .var n => [n]
  | .node _ ps => Tm.occs ps
def Tm.occs : List Tm → List Int
  | [] => []
  | t :: ts => t.occ ++ Tm.occs ts
end
theorem Tm.size_pos (t : Tm) : 0 < t.size := by
  cases t with
  | var n => exact Nat.succ_pos 0
  | node w ps => show 0 < 1 + Tm.sizes ps; omega
theorem Tm.high_pos (t : Tm) : 0 < t.high := by
  cases t with
  | var n => exact Nat.succ_pos 0
  | node w ps => show 0 < 1 + Tm.highs ps; omega
theorem Tm.sizes_append : ∀ (ts rs : List Tm), Tm.sizes (ts ++ rs) = Tm.sizes ts + Tm.sizes rs
  | [], rs => by show Tm.sizes rs = 0 + Tm.sizes rs; omega
  | t :: ts, rs => by
    show t.size + Tm.sizes (ts ++ rs) = t.size + Tm.sizes ts + Tm.sizes rs
    rw [Tm.sizes_append ts rs]; omega
theorem Tm.sizes_rev : ∀ ts : List Tm, Tm.sizes ts.reverse = Tm.sizes ts
  | [] => rfl
  | t :: ts => by
    rw [List.reverse_cons, Tm.sizes_append, Tm.sizes_rev ts]
    show Tm.sizes ts + (t.size + 0) = t.size + Tm.sizes ts
    omega
theorem Tm.sizes_len : ∀ ts : List Tm, ts.length ≤ Tm.sizes ts
  | [] => Nat.le_refl _
  | t :: ts => by
    have h := t.size_pos
    have ih := Tm.sizes_len ts
    show ts.length + 1 ≤ t.size + Tm.sizes ts
    omega
theorem Tm.occs_append : ∀ (ts rs : List Tm), Tm.occs (ts ++ rs) = Tm.occs ts ++ Tm.occs rs
  | [], rs => rfl
  | t :: ts, rs => by
    show t.occ ++ Tm.occs (ts ++ rs) = (t.occ ++ Tm.occs ts) ++ Tm.occs rs
    rw [Tm.occs_append ts rs, List.append_assoc]
mutual
theorem Tm.occ_len : ∀ t : Tm, t.occ.length ≤ t.size
  | .var n => Nat.le_refl _
  | .node w ps => by
    have h := Tm.occs_len ps
    show (Tm.occs ps).length ≤ 1 + Tm.sizes ps
    omega
theorem Tm.occs_len : ∀ ts : List Tm, (Tm.occs ts).length ≤ Tm.sizes ts
  | [] => Nat.le_refl _
  | t :: ts => by
    have h := Tm.occ_len t
    have h2 := Tm.occs_len ts
    show (t.occ ++ Tm.occs ts).length ≤ t.size + Tm.sizes ts
    rw [List.length_append]
    omega
end
theorem Tm.occs_take {ps : List Tm} {i : Nat} {t : Tm} (h : ps[i]? = some t) : Tm.occs (ps.take (i + 1)) = Tm.occs (ps.take i) ++ t.occ := by
  rw [List.take_add_one, h, Tm.occs_append]
  show _ ++ (t.occ ++ []) = _
  rw [List.append_nil]
theorem Tm.size_mem : ∀ {ps : List Tm} {t : Tm}, t ∈ ps → t.size ≤ Tm.sizes ps
  | p :: ps, t, h => by
    show t.size ≤ p.size + Tm.sizes ps
    rcases List.mem_cons.mp h with rfl | h
    · omega
    · have := Tm.size_mem h; omega
theorem Tm.high_mem : ∀ {ps : List Tm} {t : Tm}, t ∈ ps → t.high ≤ Tm.highs ps
  | p :: ps, t, h => by
    show t.high ≤ max p.high (Tm.highs ps)
    rcases List.mem_cons.mp h with rfl | h
    · omega
    · have := Tm.high_mem h; omega
theorem sum_sizes : ∀ ps : List Tm, (ps.map fun p => (p.size : Int)).sum = ((Tm.sizes ps : Nat) : Int)
  | [] => rfl
  | p :: ps => by
    rw [List.map_cons, List.sum_cons, sum_sizes ps]
    show (p.size : Int) + ((Tm.sizes ps : Nat) : Int) = ((p.size + Tm.sizes ps : Nat) : Int)
    omega
theorem max_highs {ps : List Tm} {m : Int} (h : m ∈ ps.map fun p => (p.high : Int)) (g : ∀ y ∈ ps.map (fun p => (p.high : Int)), y ≤ m) : m = ((Tm.highs ps : Nat) : Int) := by
  obtain ⟨t, ht, rfl⟩ := List.mem_map.mp h
  have h1 := Tm.high_mem ht
  have h2 : ∀ (qs : List Tm), (∀ x ∈ qs, (x.high : Int) ≤ (t.high : Int)) → Tm.highs qs ≤ t.high := by
    intro qs
    induction qs with
    | nil => intro _; exact Nat.zero_le _
    | cons q r ih =>
      intro z
      have a := z q List.mem_cons_self
      have b := ih fun x hx => z x (List.mem_cons_of_mem _ hx)
      show max q.high (Tm.highs r) ≤ t.high
      omega
  have h3 := h2 ps fun x hx => g _ (List.mem_map.mpr ⟨x, hx, rfl⟩)
  omega
/-- the different ones, in the order in which they come first -/
def addNew (acc : List Int) (n : Int) : List Int := if n ∈ acc then acc else acc ++ [n]
def firsts (ns : List Int) : List Int := ns.foldl addNew []
theorem firsts_take {ns : List Int} {i : Nat} {n : Int} (h : ns[i]? = some n) : firsts (ns.take (i + 1)) = addNew (firsts (ns.take i)) n := by
  unfold firsts
  rw [List.take_add_one, h, List.foldl_append]
  rfl
theorem addNew_len (acc : List Int) (n : Int) : (addNew acc n).length ≤ acc.length + 1 := by
  unfold addNew
  split
  · exact Nat.le_succ _
  · rw [List.length_append]; exact Nat.le_refl _
theorem firsts_len (ns : List Int) : (firsts ns).length ≤ ns.length := by
  have h : ∀ (ns acc : List Int), (ns.foldl addNew acc).length ≤ acc.length + ns.length := by
    intro ns
    induction ns with
    | nil => intro acc; exact Nat.le_refl _
    | cons n r ih =>
      intro acc
      have h1 := ih (addNew acc n)
      have h2 := addNew_len acc n
      show (r.foldl addNew (addNew acc n)).length ≤ acc.length + (r.length + 1)
      omega
  have e := h ns []
  rw [List.length_nil, Nat.zero_add] at e
  exact e
mutual
def Tm.sub (f : Int → Tm) : Tm → Tm
  | .var n => f n
  | .node w ps => .node w (Tm.subs f ps)
def Tm.subs (f : Int → Tm) : List Tm → List Tm
  | [] => []
  | t :: ts => t.sub f :: Tm.subs f ts
end
theorem Tm.subs_map (f : Int → Tm) : ∀ ts : List Tm, Tm.subs f ts = ts.map fun t => t.sub f
  | [] => rfl
  | t :: ts => congrArg (t.sub f :: ·) (Tm.subs_map f ts)
def onv (σ : List (Int × Tm)) (n : Int) : Tm := (σ.lookup n).getD (.var n)
/-! renaming of variables -/
mutual
theorem Tm.sub_congr {f g : Int → Tm} : ∀ t : Tm, (∀ n ∈ t.occ, f n = g n) → t.sub f = t.sub g
  | .var n, h => h n (List.mem_singleton.mpr rfl)
  | .node w ps, h => by
    show Tm.node w (Tm.subs f ps) = Tm.node w (Tm.subs g ps)
    rw [Tm.subs_congr ps h]
theorem Tm.subs_congr {f g : Int → Tm} : ∀ ts : List Tm, (∀ n ∈ Tm.occs ts, f n = g n) → Tm.subs f ts = Tm.subs g ts
  | [], _ => rfl
  | t :: ts, h => by
    show t.sub f :: Tm.subs f ts = t.sub g :: Tm.subs g ts
    rw [Tm.sub_congr t fun n hn => h n (List.mem_append_left _ hn), Tm.subs_congr ts fun n hn => h n (List.mem_append_right _ hn)]
end
def ren (r : Int → Int) : Tm → Tm := Tm.sub fun n => .var (r n)
mutual
theorem ren_sub (r : Int → Int) (g : Int → Tm) : ∀ t : Tm, (ren r t).sub g = t.sub fun n => g (r n)
  | .var n => rfl
  | .node w ps => by
    show Tm.node w (Tm.subs g (Tm.subs (fun n => .var (r n)) ps)) = Tm.node w (Tm.subs (fun n => g (r n)) ps)
    rw [rens_sub r g ps]
theorem rens_sub (r : Int → Int) (g : Int → Tm) : ∀ ts : List Tm, Tm.subs g (Tm.subs (fun n => .var (r n)) ts) = Tm.subs (fun n => g (r n)) ts
  | [] => rfl
  | t :: ts => by
    have h1 := ren_sub r g t
    have h2 := rens_sub r g ts
    show (t.sub fun n => .var (r n)).sub g :: Tm.subs g (Tm.subs (fun n => .var (r n)) ts) = _
    rw [h2]
    exact congrArg (· :: _) h1
end
mutual
theorem ren_occ (r : Int → Int) : ∀ t : Tm, (ren r t).occ = t.occ.map r
  | .var n => rfl
  | .node w ps => rens_occ r ps
theorem rens_occ (r : Int → Int) : ∀ ts : List Tm, Tm.occs (Tm.subs (fun n => .var (r n)) ts) = (Tm.occs ts).map r
  | [] => rfl
  | t :: ts => by
    have h1 := ren_occ r t
    have h2 := rens_occ r ts
    show (t.sub fun n => .var (r n)).occ ++ Tm.occs (Tm.subs (fun n => .var (r n)) ts) = (t.occ ++ Tm.occs ts).map r
    rw [h2, List.map_append]
    exact congrArg (· ++ _) h1
end
mutual
theorem ren_size (r : Int → Int) : ∀ t : Tm, (ren r t).size = t.size
  | .var n => rfl
  | .node w ps => congrArg (1 + ·) (rens_size r ps)
theorem rens_size (r : Int → Int) : ∀ ts : List Tm, Tm.sizes (Tm.subs (fun n => .var (r n)) ts) = Tm.sizes ts
  | [] => rfl
  | t :: ts => by
    have h1 := ren_size r t
    have h2 := rens_size r ts
    show (t.sub fun n => .var (r n)).size + Tm.sizes (Tm.subs (fun n => .var (r n)) ts) = t.size + Tm.sizes ts
    rw [h2]
    exact congrArg (· + _) h1
end
mutual
theorem ren_high (r : Int → Int) : ∀ t : Tm, (ren r t).high = t.high
  | .var n => rfl
  | .node w ps => congrArg (1 + ·) (rens_high r ps)
theorem rens_high (r : Int → Int) : ∀ ts : List Tm, Tm.highs (Tm.subs (fun n => .var (r n)) ts) = Tm.highs ts
  | [] => rfl
  | t :: ts => by
    have h1 := ren_high r t
    have h2 := rens_high r ts
    show max (t.sub fun n => .var (r n)).high (Tm.highs (Tm.subs (fun n => .var (r n)) ts)) = max t.high (Tm.highs ts)
    rw [h2]
    exact congrArg (fun x => max x _) h1
end
/-! the numbers 0, 1, 2, .. of the different ones of a list -/
def numFrom (k : Nat) : List Int → List (Int × Tm)
  | [] => []
  | n :: r => (n, .var (k : Int)) :: numFrom (k + 1) r
def posFrom (k : Nat) : List Int → Int → Int
  | [], n => n
  | m :: r, n => if n = m then (k : Int) else posFrom (k + 1) r n
theorem onv_num : ∀ (xs : List Int) (k : Nat) (n : Int), onv (numFrom k xs) n = .var (posFrom k xs n)
  | [], _, _ => rfl
  | m :: r, k, n => by
    have ih := onv_num r (k + 1) n
    unfold onv at ih ⊢
    show (((m, Tm.var (k : Int)) :: numFrom (k + 1) r).lookup n).getD (.var n) = .var (if n = m then (k : Int) else posFrom (k + 1) r n)
    rw [List.lookup_cons]
    by_cases e : n = m
    · subst e
      rw [beq_self_eq_true, if_pos rfl]
      rfl
    · rw [beq_eq_false_iff_ne.mpr e, if_neg e]
      exact ih
theorem numFrom_snoc : ∀ (xs : List Int) (k : Nat) (n : Int), numFrom k (xs ++ [n]) = numFrom k xs ++ [(n, .var ((k + xs.length : Nat) : Int))]
  | [], _, _ => rfl
  | m :: r, k, n => by
    show (m, Tm.var (k : Int)) :: numFrom (k + 1) (r ++ [n]) = (m, Tm.var (k : Int)) :: (numFrom (k + 1) r ++ [(n, .var ((k + (r.length + 1) : Nat) : Int))])
    rw [numFrom_snoc r (k + 1) n]
    have e : k + 1 + r.length = k + (r.length + 1) := by omega
    rw [e]
theorem pos_map {r : Int → Int} {n : Int} : ∀ (xs : List Int) (k : Nat), n ∈ xs → (∀ m ∈ xs, r n = r m → n = m) → posFrom k (xs.map r) (r n) = posFrom k xs n
  | m :: xs, k, h, inj => by
    show (if r n = r m then (k : Int) else posFrom (k + 1) (xs.map r) (r n)) = if n = m then (k : Int) else posFrom (k + 1) xs n
    by_cases e : n = m
    · subst e; rw [if_pos rfl, if_pos rfl]
    · rw [if_neg e, if_neg fun z => e (inj m List.mem_cons_self z)]
      exact pos_map xs (k + 1) ((List.mem_cons.mp h).resolve_left e) fun m' hm z => inj m' (List.mem_cons_of_mem _ hm) z
theorem pos_ge : ∀ (xs : List Int) (k : Nat) (n : Int), n ∈ xs → (k : Int) ≤ posFrom k xs n
  | m :: xs, k, n, h => by
    show (k : Int) ≤ if n = m then (k : Int) else posFrom (k + 1) xs n
    by_cases e : n = m
    · rw [if_pos e]; exact Int.le_refl _
    · rw [if_neg e]
      have := pos_ge xs (k + 1) n ((List.mem_cons.mp h).resolve_left e)
      omega
theorem pos_inj : ∀ (xs : List Int) (k : Nat) (n m : Int), n ∈ xs → m ∈ xs → posFrom k xs n = posFrom k xs m → n = m
  | x :: xs, k, n, m, hn, hm, h => by
    have h' : (if n = x then (k : Int) else posFrom (k + 1) xs n) = if m = x then (k : Int) else posFrom (k + 1) xs m := h
    by_cases e1 : n = x
    · by_cases e2 : m = x
      · rw [e1, e2]
      · rw [if_pos e1, if_neg e2] at h'
        have := pos_ge xs (k + 1) m ((List.mem_cons.mp hm).resolve_left e2)
        omega
    · by_cases e2 : m = x
      · rw [if_neg e1, if_pos e2] at h'
        have := pos_ge xs (k + 1) n ((List.mem_cons.mp hn).resolve_left e1)
        omega
      · rw [if_neg e1, if_neg e2] at h'
        exact pos_inj xs (k + 1) n m ((List.mem_cons.mp hn).resolve_left e1) ((List.mem_cons.mp hm).resolve_left e2) h'
theorem addNew_mem {acc : List Int} {n m : Int} : m ∈ addNew acc n ↔ m ∈ acc ∨ m = n := by
  unfold addNew
  by_cases h : n ∈ acc
  · rw [if_pos h]
    exact ⟨.inl, fun z => z.elim id fun e => e ▸ h⟩
  · rw [if_neg h, List.mem_append, List.mem_singleton]
theorem fold_mem : ∀ (ns acc : List Int) (m : Int), m ∈ ns.foldl addNew acc ↔ m ∈ acc ∨ m ∈ ns
  | [], acc, m => by simp
  | n :: r, acc, m => by
    show m ∈ r.foldl addNew (addNew acc n) ↔ _
    rw [fold_mem r, addNew_mem, List.mem_cons, or_assoc]
theorem firsts_mem {ns : List Int} {m : Int} : m ∈ firsts ns ↔ m ∈ ns := by
  unfold firsts
  rw [fold_mem]
  simp
theorem addNew_nd {acc : List Int} {n : Int} (h : acc.Nodup) : (addNew acc n).Nodup := by
  unfold addNew
  by_cases e : n ∈ acc
  · rw [if_pos e]; exact h
  · rw [if_neg e]
    exact List.nodup_append.mpr ⟨h, by simp, fun u hu v hv => by rw [List.mem_singleton.mp hv]; rintro rfl; exact e hu⟩
theorem fold_nd : ∀ (ns acc : List Int), acc.Nodup → (ns.foldl addNew acc).Nodup
  | [], _, h => h
  | n :: r, acc, h => fold_nd r _ (addNew_nd h)
theorem firsts_nd (ns : List Int) : (firsts ns).Nodup := fold_nd ns [] List.nodup_nil
theorem fold_map {r : Int → Int} : ∀ (ns acc : List Int), (∀ n ∈ ns, ∀ m ∈ acc ++ ns, r n = r m → n = m) → (ns.map r).foldl addNew (acc.map r) = (ns.foldl addNew acc).map r
  | [], acc, _ => rfl
  | n :: ns, acc, inj => by
    have e : addNew (acc.map r) (r n) = (addNew acc n).map r := by
      unfold addNew
      by_cases h : n ∈ acc
      · rw [if_pos h, if_pos (List.mem_map.mpr ⟨n, h, rfl⟩)]
      · rw [if_neg h, if_neg, List.map_append]
        · rfl
        · intro z
          obtain ⟨m, hm, e⟩ := List.mem_map.mp z
          exact h (inj n List.mem_cons_self m (List.mem_append_left _ hm) e.symm ▸ hm)
    show (ns.map r).foldl addNew (addNew (acc.map r) (r n)) = (ns.foldl addNew (addNew acc n)).map r
    rw [e]
    refine fold_map ns (addNew acc n) fun a ha m hm z => inj a (List.mem_cons_of_mem _ ha) m ?_ z
    rcases List.mem_append.mp hm with h | h
    · rcases addNew_mem.mp h with h | rfl
      · exact List.mem_append_left _ h
      · exact List.mem_append_right _ List.mem_cons_self
    · exact List.mem_append_right _ (List.mem_cons_of_mem _ h)
theorem firsts_map {r : Int → Int} {ns : List Int} (inj : ∀ n ∈ ns, ∀ m ∈ ns, r n = r m → n = m) : firsts (ns.map r) = (firsts ns).map r := fold_map ns [] fun n hn m hm z => inj n hn m (by simpa using hm) z
/-- terms with their variables numbered from 0 -/
def tidy (ts : List Tm) : List Tm := ts.map (ren (posFrom 0 (firsts (Tm.occs ts))))
theorem occ_sub {ts : List Tm} {t : Tm} {n : Int} (h : t ∈ ts) (hn : n ∈ t.occ) : n ∈ Tm.occs ts := by
  induction ts with
  | nil => cases h
  | cons p ps ih =>
    show n ∈ p.occ ++ Tm.occs ps
    rcases List.mem_cons.mp h with rfl | h
    · exact List.mem_append_left _ hn
    · exact List.mem_append_right _ (ih h)
theorem tidy_ren {r : Int → Int} {ts : List Tm} (inj : ∀ n ∈ Tm.occs ts, ∀ m ∈ Tm.occs ts, r n = r m → n = m) : tidy (ts.map (ren r)) = tidy ts := by
  have e : Tm.occs (ts.map (ren r)) = (Tm.occs ts).map r := by
    rw [← rens_occ, Tm.subs_map]
    rfl
  unfold tidy
  rw [e, firsts_map inj, List.map_map]
  refine List.map_congr_left fun t ht => ?_
  show (ren r t).sub (fun n => .var (posFrom 0 ((firsts (Tm.occs ts)).map r) n)) = t.sub (fun n => .var (posFrom 0 (firsts (Tm.occs ts)) n))
  rw [ren_sub]
  refine Tm.sub_congr t fun n hn => ?_
  have hm := occ_sub ht hn
  show Tm.var (posFrom 0 ((firsts (Tm.occs ts)).map r) (r n)) = Tm.var (posFrom 0 (firsts (Tm.occs ts)) n)
  rw [pos_map _ _ (firsts_mem.mpr hm) fun m hm' z => inj n hm m (firsts_mem.mp hm') z]
theorem tidy_tidy (ts : List Tm) : tidy (tidy ts) = tidy ts :=
  tidy_ren fun n hn m hm z => pos_inj _ 0 n m (firsts_mem.mpr hn) (firsts_mem.mpr hm) z
theorem tidy_subst (ts : List Tm) : (ts.map fun t => t.sub (onv (numFrom 0 (firsts (Tm.occs ts))))) = tidy ts := by
  unfold tidy ren
  refine List.map_congr_left fun t _ => Tm.sub_congr t fun n _ => onv_num _ _ _
theorem sizes_map {f : Tm → Tm} (h : ∀ t, (f t).size = t.size) : ∀ ts : List Tm, Tm.sizes (ts.map f) = Tm.sizes ts
  | [] => rfl
  | t :: ts => by
    show (f t).size + Tm.sizes (ts.map f) = t.size + Tm.sizes ts
    rw [h, sizes_map h ts]
theorem sizes_le {k : Nat} : ∀ ts : List Tm, (∀ t ∈ ts, t.size ≤ k) → Tm.sizes ts ≤ ts.length * k
  | [], _ => Nat.zero_le _
  | t :: ts, h => by
    have a := h t List.mem_cons_self
    have b := sizes_le ts fun x hx => h x (List.mem_cons_of_mem _ hx)
    show t.size + Tm.sizes ts ≤ (ts.length + 1) * k
    rw [Nat.succ_mul]
    omega
mutual
theorem over_occ {cs : List (Str × Nat)} {ns : List Int} : ∀ (t : Tm) (d : Nat), TmOver cs ns d t → ∀ n ∈ t.occ, n ∈ ns
  | .var m, d, h, n, hn => by
    cases d with
    | zero => exact h.elim
    | succ d =>
      rw [List.mem_singleton.mp hn]
      exact h
  | .node w ps, d, h, n, hn => by
    cases d with
    | zero => exact h.elim
    | succ d => exact overs_occ ps d h.2 n hn
theorem overs_occ {cs : List (Str × Nat)} {ns : List Int} : ∀ (ts : List Tm) (d : Nat), (∀ t ∈ ts, TmOver cs ns d t) → ∀ n ∈ Tm.occs ts, n ∈ ns
  | [], _, _, n, hn => by cases hn
  | t :: ts, d, h, n, hn => by
    rcases List.mem_append.mp hn with z | z
    · exact over_occ t d (h t List.mem_cons_self) n z
    · exact overs_occ ts d (fun x hx => h x (List.mem_cons_of_mem _ hx)) n z
end
end Cf
namespace Lq
open PySem L2
/-! ### the words by equations -/
theorem bnd_e {α β : Type} (m : Wp α) (k : α → Wp β) (Q : β → Prop) : bnd m k Q = m fun a => k a Q := propext Iff.rfl
theorem ret_e {α : Type} (a : α) (Q : α → Prop) : ret a Q = Q a := propext Iff.rfl
theorem gd_e {α : Type} (c : Prop) (a : α) (Q : α → Prop) : gd c a Q = (c ∧ Q a) := propext Iff.rfl
theorem bad_e {α : Type} (Q : α → Prop) : bad Q = False := propext Iff.rfl
theorem runQ_e (N : Nat) (body : Rho → Wp Out) (ds : List PyData) (Q : PyData → Prop) : runQ N body ds Q = body (ds.map Sl.val ++ List.replicate (N - ds.length) .un) (endQ Q) := propext Iff.rfl
theorem runQP_e (N : Nat) (body : Rho → Wp Out) (ds : List PyData) (Q : PyData → Prop) : runQP N body ds Q = body (.pool :: (ds.map Sl.val ++ List.replicate (N - (ds.length + 1)) .un)) (endQ Q) := propext Iff.rfl
theorem slV_e (d : PyData) (Q : PyData → Prop) : slV (some (.val d)) Q = Q d := propext Iff.rfl
theorem slO_e (ds : List PyData) (Q : PyData → Prop) : slO (some (.lst ds)) Q = Q (.list ds) := propext Iff.rfl
theorem slO_d (ds : List (PyData × PyData)) (Q : PyData → Prop) : slO (some (.dic ds)) Q = Q (.dict ds) := propext Iff.rfl
theorem slO_t (ds : List (PyData × PyData)) (Q : PyData → Prop) : slO (some (.dit ds)) Q = Q (.dict ((.none, .none) :: ds)) := propext Iff.rfl
theorem slP_e (Q : Unit → Prop) : slP (some .pool) Q = Q () := propext Iff.rfl
theorem slD_e (ds : List (PyData × PyData)) (Q : List (PyData × PyData) → Prop) : slD (some (.dic ds)) Q = Q ds := propext Iff.rfl
theorem slDT_e (ds : List (PyData × PyData)) (Q : List (PyData × PyData) → Prop) : slDT (some (.dit ds)) Q = Q ds := propext Iff.rfl
theorem slL_e (ds : List PyData) (Q : List PyData → Prop) : slL (some (.lst ds)) Q = Q ds := propext Iff.rfl
theorem gN_e (i : Nat) (d : PyData) (ρ : Rho) (Q : Rho → Prop) : gN i d ρ Q = Q (ρ.set i (.val d)) := propext Iff.rfl
theorem gT_e (k : List PyData → Rho → Wp Rho) (ds : List PyData) (ρ : Rho) (Q : Rho → Prop) : gT k (.tuple ds) ρ Q = k ds ρ Q := propext Iff.rfl
theorem gsCons_e (k : PyData → Rho → Wp Rho) (l : List PyData → Rho → Wp Rho) (d : PyData) (ds : List PyData) (ρ : Rho) (Q : Rho → Prop) : gsCons k l (d :: ds) ρ Q = k d ρ fun ρ' => l ds ρ' Q := propext Iff.rfl
theorem gsNil_e (ρ : Rho) (Q : Rho → Prop) : gsNil [] ρ Q = Q ρ := propext ⟨fun h => h.2, fun h => ⟨rfl, h⟩⟩
theorem sSet_e (k : PyData → Rho → Wp Rho) (f : Rho → Wp PyData) (ρ : Rho) (Q : Out → Prop) : sSet k f ρ Q = f ρ fun d => k d ρ fun ρ' => Q (.nx ρ') := propext Iff.rfl
theorem sSetIx_e (i : Nat) (fk fe : Rho → Wp PyData) (ρ : Rho) (Q : Out → Prop) : sSetIx i fk fe ρ Q = fe ρ fun z => slL ρ[i]? fun ds => fk ρ fun y => atW (match y with
  | .int n => ixN ds.length n
  | _ => none) fun j => Q (.nx (ρ.set i (.lst (ds.set j z)))) := propext Iff.rfl
theorem fLc_e (fi : Rho → Wp (List PyData)) (k : PyData → Rho → Wp Rho) (t : Rho → Wp Bool) (f : Rho → Wp PyData) (vs : List Nat) (ρ : Rho) (Q : List PyData → Prop) : fLc fi k t f vs ρ Q = fi ρ fun ds => (ds.length ≤ sizeLine ∧ noOwn ρ vs = true) ∧ wLc k t f ds (wipeR ρ vs) Q := propext Iff.rfl
theorem fDc_e (fi : Rho → Wp (List PyData)) (k : PyData → Rho → Wp Rho) (t : Rho → Wp Bool) (fk fv : Rho → Wp PyData) (vs : List Nat) (ρ : Rho) (Q : List (PyData × PyData) → Prop) : fDc fi k t fk fv vs ρ Q = fi ρ fun ds => (ds.length ≤ sizeLine ∧ noOwn ρ vs = true) ∧ wDc k t fk fv ds (wipeR ρ vs) [] Q := propext Iff.rfl
theorem eRg1_e (l : Bool) (f : Rho → Wp PyData) (ρ : Rho) (Q : PyData → Prop) : eRg1 l f ρ Q = f ρ fun d => (match d with
  | .int n => rgW 0 n l
  | _ => bad) Q := propext ⟨fun h => h, fun h => h⟩
theorem rgW_e (a b : Int) (l : Bool) (Q : PyData → Prop) : rgW a b l Q = (RgOk a b ∧ Q (if l = true then .list (upto a (b - a).toNat) else .tuple (upto a (b - a).toNat))) := propext Iff.rfl
theorem tyQ_e (neg : Bool) (T : String) (d : PyData) (Q : PyData → Prop) : tyQ neg T d Q = (tyD d ≠ "dict" ∧ Q (.bool (if neg then !decide (tyD d = T) else decide (tyD d = T)))) := propext Iff.rfl
theorem signsW_e (x : Str) (Q : List PyData → Prop) : signsW (.str x) Q = Q (signs x) := propext Iff.rfl
theorem zipWl_e (a b : List PyData) (Q : List PyData → Prop) : zipW [.list a, .list b] Q = Q (zipD a b) := propext Iff.rfl
theorem zipWt_e (a b : List PyData) (Q : List PyData → Prop) : zipW [.tuple a, .tuple b] Q = Q (zipD a b) := propext Iff.rfl
theorem enumWl_e (a : List PyData) (Q : List PyData → Prop) : enumW [.list a] Q = Q (enumD a) := propext Iff.rfl
theorem bolsOf_map (bs : List Bool) : bolsOf (bs.map .bool) = some bs := by
  induction bs with
  | nil => rfl
  | cons b bs ih => simp only [List.map_cons, bolsOf, ih]; rfl
theorem allQl_e (bs : List Bool) (Q : PyData → Prop) : allQ [.list (bs.map .bool)] Q = Q (.bool (bs.all id)) := by
  show bolsW (bs.map .bool) (fun ns => Q (.bool (ns.all id))) = _
  unfold bolsW; rw [bolsOf_map]; exact propext Iff.rfl
theorem anyQl_e (bs : List Bool) (Q : PyData → Prop) : anyQ [.list (bs.map .bool)] Q = Q (.bool (bs.any id)) := by
  show bolsW (bs.map .bool) (fun ns => Q (.bool (ns.any id))) = _
  unfold bolsW; rw [bolsOf_map]; exact propext Iff.rfl
theorem inS1_e (neg : Bool) (c : Nat) (z : Str) (Q : PyData → Prop) : inQ neg (.str ⟨#[c]⟩) (.str z) Q = Q (.bool (if neg then !decide (c ∈ z.cps.toList) else decide (c ∈ z.cps.toList))) := propext Iff.rfl
theorem endQ_rt_e (Q : PyData → Prop) (d : PyData) : endQ Q (.rt d) = Q d := propext Iff.rfl
theorem endQ_nx_e (Q : PyData → Prop) (ρ : Rho) : endQ Q (.nx ρ) = Q .none := propext Iff.rfl
theorem sSeq_e (f k : Rho → Wp Out) (ρ : Rho) (Q : Out → Prop) : sSeq f k ρ Q = (bnd (f ρ) (thenO k)) Q := propext Iff.rfl
theorem sNil_e (ρ : Rho) (Q : Out → Prop) : sNil ρ Q = (ret (.nx ρ)) Q := propext Iff.rfl
theorem eVar_e (i : Nat) (ρ : Rho) (Q : PyData → Prop) : eVar i ρ Q = (slV ρ[i]?) Q := propext Iff.rfl
theorem eOwn_e (i : Nat) (ρ : Rho) (Q : PyData → Prop) : eOwn i ρ Q = (slO ρ[i]?) Q := propext Iff.rfl
theorem eC_e (d : PyData) (ρ : Rho) (Q : PyData → Prop) : eC d ρ Q = (ret d) Q := propext Iff.rfl
theorem eOp_e (o : PyData → PyData → Wp PyData) (f k : Rho → Wp PyData) (ρ : Rho) (Q : PyData → Prop) : eOp o f k ρ Q = (bnd (f ρ) fun d => bnd (k ρ) fun e => o d e) Q := propext Iff.rfl
theorem eTup_e (k : Rho → Wp (List PyData)) (ρ : Rho) (Q : PyData → Prop) : eTup k ρ Q = (bnd (k ρ) fun ds => gd (ds.length ≤ sizeLine) (.tuple ds)) Q := propext Iff.rfl
theorem aNil_e (ρ : Rho) (Q : List PyData → Prop) : aNil ρ Q = (ret []) Q := propext Iff.rfl
theorem aCons_e (f : Rho → Wp PyData) (k : Rho → Wp (List PyData)) (ρ : Rho) (Q : List PyData → Prop) : aCons f k ρ Q = (bnd (f ρ) fun d => bnd (k ρ) fun ds => ret (d :: ds)) Q := propext Iff.rfl
theorem sRet_e (f : Rho → Wp PyData) (ρ : Rho) (Q : Out → Prop) : sRet f ρ Q = (bnd (f ρ) fun d => ret (.rt d)) Q := propext Iff.rfl
theorem sIf_e (c : Rho → Wp Bool) (f k : Rho → Wp Out) (ρ : Rho) (Q : Out → Prop) : sIf c f k ρ Q = (bnd (c ρ) fun b => if b = true then f ρ else k ρ) Q := propext Iff.rfl
theorem sExpr_e (f : Rho → Wp PyData) (ρ : Rho) (Q : Out → Prop) : sExpr f ρ Q = (bnd (f ρ) fun _ => ret (.nx ρ)) Q := propext Iff.rfl
theorem tT_e (f : Rho → Wp PyData) (ρ : Rho) (Q : Bool → Prop) : tT f ρ Q = (bnd (f ρ) asB) Q := propext Iff.rfl
theorem tTru_e (f : Rho → Wp PyData) (ρ : Rho) (Q : Bool → Prop) : tTru f ρ Q = (bnd (f ρ) tru) Q := propext Iff.rfl
theorem tNo_e (f : Rho → Wp Bool) (ρ : Rho) (Q : Bool → Prop) : tNo f ρ Q = (bnd (f ρ) fun b => ret (!b)) Q := propext Iff.rfl
theorem tBoth_e (f k : Rho → Wp Bool) (ρ : Rho) (Q : Bool → Prop) : tBoth f k ρ Q = (bnd (f ρ) fun b => if b = true then k ρ else ret false) Q := propext Iff.rfl
theorem tEither_e (f k : Rho → Wp Bool) (ρ : Rho) (Q : Bool → Prop) : tEither f k ρ Q = (bnd (f ρ) fun b => if b = true then ret true else k ρ) Q := propext Iff.rfl
theorem eBoth_e (f k : Rho → Wp PyData) (ρ : Rho) (Q : PyData → Prop) : eBoth f k ρ Q = (bnd (f ρ) fun d => bnd (tru d) fun b => if b = true then k ρ else ret d) Q := propext Iff.rfl
theorem eEither_e (f k : Rho → Wp PyData) (ρ : Rho) (Q : PyData → Prop) : eEither f k ρ Q = (bnd (f ρ) fun d => bnd (tru d) fun b => if b = true then ret d else k ρ) Q := propext Iff.rfl
theorem eNo_e (f : Rho → Wp PyData) (ρ : Rho) (Q : PyData → Prop) : eNo f ρ Q = (bnd (f ρ) fun d => bnd (tru d) fun b => ret (.bool (!b))) Q := propext Iff.rfl
theorem eIf_e (c : Rho → Wp Bool) (f k : Rho → Wp PyData) (ρ : Rho) (Q : PyData → Prop) : eIf c f k ρ Q = (bnd (c ρ) fun b => if b = true then f ρ else k ρ) Q := propext Iff.rfl
theorem eCall_e (o : List PyData → Wp PyData) (k : Rho → Wp (List PyData)) (ρ : Rho) (Q : PyData → Prop) : eCall o k ρ Q = (bnd (k ρ) o) Q := propext Iff.rfl
theorem eFn_e (m : List PyData → Wp PyData) (k : Rho → Wp (List PyData)) (ρ : Rho) (Q : PyData → Prop) : eFn m k ρ Q = (bnd (k ρ) fun ds => up (m ds)) Q := propext Iff.rfl
theorem eFnP_e (i : Nat) (m : List PyData → Wp PyData) (k : Rho → Wp (List PyData)) (ρ : Rho) (Q : PyData → Prop) : eFnP i m k ρ Q = (bnd (slP ρ[i]?) fun _ => bnd (k ρ) fun ds => up (m ds)) Q := propext Iff.rfl
theorem eSl_e (f : Rho → Wp PyData) (l h : Rho → Wp (Option Int)) (ρ : Rho) (Q : PyData → Prop) : eSl f l h ρ Q = (bnd (f ρ) fun d => bnd (l ρ) fun lo => bnd (h ρ) fun hi => slQ d lo hi) Q := propext Iff.rfl
theorem aPart_e (f : Rho → Wp PyData) (ρ : Rho) (Q : Option Int → Prop) : aPart f ρ Q = (bnd (f ρ) intOf) Q := propext Iff.rfl
theorem noPart_e (ρ : Rho) (Q : Option Int → Prop) : noPart ρ Q = (ret none) Q := propext Iff.rfl
theorem eIsi_e (T : String) (f : Rho → Wp PyData) (ρ : Rho) (Q : PyData → Prop) : eIsi T f ρ Q = (bnd (f ρ) fun d => bnd (atW (isiD d T)) fun b => ret (.bool b)) Q := propext Iff.rfl
theorem eTy_e (neg : Bool) (T : String) (f : Rho → Wp PyData) (ρ : Rho) (Q : PyData → Prop) : eTy neg T f ρ Q = (bnd (f ρ) (tyQ neg T)) Q := propext Iff.rfl
theorem eGet1_e (fo fi : Rho → Wp PyData) (ρ : Rho) (Q : PyData → Prop) : eGet1 fo fi ρ Q = (bnd (fo ρ) fun d => bnd (gd (tyD d = "dict") ()) fun _ => bnd (fi ρ) fun k => bnd (dgetW d k) fun r => ret (r.getD .none)) Q := propext Iff.rfl
theorem eGet2_e (fo fi fe : Rho → Wp PyData) (ρ : Rho) (Q : PyData → Prop) : eGet2 fo fi fe ρ Q = (bnd (fo ρ) fun d => bnd (gd (tyD d = "dict") ()) fun _ => bnd (fi ρ) fun k => bnd (fe ρ) fun x => bnd (dgetW d k) fun r => ret (r.getD x)) Q := propext Iff.rfl
theorem eDget_e (fo fi : Rho → Wp PyData) (ρ : Rho) (Q : PyData → Prop) : eDget fo fi ρ Q = (bnd (fo ρ) fun d => bnd (fi ρ) fun k => bnd (dgetW d k) atW) Q := propext Iff.rfl
theorem eDin_e (neg : Bool) (fi fo : Rho → Wp PyData) (ρ : Rho) (Q : PyData → Prop) : eDin neg fi fo ρ Q = (bnd (fi ρ) fun k => bnd (fo ρ) fun d => bnd (dgetW d k) fun r => ret (.bool (if neg then !r.isSome else r.isSome))) Q := propext Iff.rfl
theorem sDnew_e (i : Nat) (ρ : Rho) (Q : Out → Prop) : sDnew i ρ Q = (ret (.nx (ρ.set i (.dic [])))) Q := propext Iff.rfl
theorem sPut_e (i : Nat) (fk fe : Rho → Wp PyData) (ρ : Rho) (Q : Out → Prop) : sPut i fk fe ρ Q = (bnd (fe ρ) fun z => bnd (slD ρ[i]?) fun es => bnd (fk ρ) fun y => gd (es.length < sizeLine ∧ keyP y ≠ none) (.nx (ρ.set i (.dic (putP es y z))))) Q := propext Iff.rfl
theorem sNew_e (i : Nat) (f : Rho → Wp (List PyData)) (ρ : Rho) (Q : Out → Prop) : sNew i f ρ Q = (bnd (f ρ) fun ds => ret (.nx (ρ.set i (.lst ds)))) Q := propext Iff.rfl
theorem lLst_e (k : Rho → Wp (List PyData)) (ρ : Rho) (Q : List PyData → Prop) : lLst k ρ Q = (bnd (k ρ) fun ds => gd (ds.length ≤ sizeLine) ds) Q := propext Iff.rfl
theorem sApp_e (i : Nat) (f : Rho → Wp PyData) (ρ : Rho) (Q : Out → Prop) : sApp i f ρ Q = (bnd (slL ρ[i]?) fun ds => bnd (f ρ) fun d => gd (ds.length < sizeLine) (.nx (ρ.set i (.lst (ds ++ [d]))))) Q := propext Iff.rfl
theorem eL_e (f : Rho → Wp (List PyData)) (ρ : Rho) (Q : PyData → Prop) : eL f ρ Q = (bnd (f ρ) fun ds => ret (.list ds)) Q := propext Iff.rfl
theorem sPop_e (i : Nat) (k : PyData → Rho → Wp Rho) (ρ : Rho) (Q : Out → Prop) : sPop i k ρ Q = (bnd (slL ρ[i]?) fun ds => bnd (atW ds.getLast?) fun d => bnd (k d (ρ.set i (.lst ds.dropLast))) fun ρ' => ret (.nx ρ')) Q := propext Iff.rfl
theorem sExt_e (i : Nat) (f : Rho → Wp PyData) (ρ : Rho) (Q : Out → Prop) : sExt i f ρ Q = (bnd (slL ρ[i]?) fun ds => bnd (f ρ) fun d => bnd (items d) fun es => gd (ds.length + es.length ≤ sizeLine) (.nx (ρ.set i (.lst (ds ++ es))))) Q := propext Iff.rfl
theorem lList_e (f : Rho → Wp PyData) (ρ : Rho) (Q : List PyData → Prop) : lList f ρ Q = (bnd (f ρ) items) Q := propext Iff.rfl
theorem iSeq_e (fe : Rho → Wp PyData) (ρ : Rho) (Q : List PyData → Prop) : iSeq fe ρ Q = (bnd (fe ρ) items) Q := propext Iff.rfl
theorem iCall_e (o : List PyData → Wp (List PyData)) (k : Rho → Wp (List PyData)) (ρ : Rho) (Q : List PyData → Prop) : iCall o k ρ Q = (bnd (k ρ) o) Q := propext Iff.rfl
theorem eNeg_e (f : Rho → Wp PyData) (ρ : Rho) (Q : PyData → Prop) : eNeg f ρ Q = (bnd (f ρ) negQ) Q := propext Iff.rfl
theorem eChain_e (o o' : PyData → PyData → Wp PyData) (f k l : Rho → Wp PyData) (ρ : Rho) (Q : PyData → Prop) : eChain o o' f k l ρ Q = (bnd (f ρ) fun d => bnd (k ρ) fun e => bnd (o d e) fun z => bnd (asB z) fun c => if c = true then bnd (l ρ) fun i => o' e i else ret (.bool false)) Q := propext Iff.rfl
theorem eBack_e (f : Rho → Wp PyData) (h : Rho → Wp (Option Int)) (ρ : Rho) (Q : PyData → Prop) : eBack f h ρ Q = (bnd (f ρ) fun d => bnd (h ρ) (backQ d)) Q := propext Iff.rfl
theorem sFrz_e (i : Nat) (f : Rho → Wp Out) (ρ : Rho) (Q : Out → Prop) : sFrz i f ρ Q = (f (frzR i ρ)) Q := propext Iff.rfl
theorem sPutT_e (i : Nat) (fk fe : Rho → Wp PyData) (ρ : Rho) (Q : Out → Prop) : sPutT i fk fe ρ Q = (bnd (fe ρ) fun z => bnd (slDT ρ[i]?) fun es => bnd (fk ρ) fun y Q => ∃ ks, y = .tuple ks ∧ es.length < sizeLine ∧ keysP ks ≠ none ∧ Q (.nx (ρ.set i (.dit (putP es y z))))) Q := propext Iff.rfl
theorem sDnewT_e (i : Nat) (ρ : Rho) (Q : Out → Prop) : sDnewT i ρ Q = (ret (.nx (ρ.set i (.dit [])))) Q := propext Iff.rfl
theorem sFor_e (fi : Rho → Wp (List PyData)) (k : PyData → Rho → Wp Rho) (b : Rho → Wp Out) (ρ : Rho) (Q : Out → Prop) : sFor fi k b ρ Q = (bnd (fi ρ) fun ds => wFor k b ds ρ) Q := propext Iff.rfl
theorem eD_e (f : Rho → Wp (List (PyData × PyData))) (ρ : Rho) (Q : PyData → Prop) : eD f ρ Q = (bnd (f ρ) fun es => ret (.dict es)) Q := propext Iff.rfl
theorem tAll_e (ρ : Rho) (Q : Bool → Prop) : tAll ρ Q = (ret true) Q := propext Iff.rfl
theorem iStr_e (f : Rho → Wp PyData) (ρ : Rho) (Q : List PyData → Prop) : iStr f ρ Q = (bnd (f ρ) signsW) Q := propext Iff.rfl
end Lq
namespace Lq
open PySem L2
theorem eDisp_e (f : Rho → Wp (List (PyData × PyData))) (ρ : Rho) (Q : PyData → Prop) : eDisp f ρ Q = (bnd (f ρ) fun es => gd (es.length ≤ 15) (.dict (mergeP [] es))) Q := propext Iff.rfl
theorem ppCons_e (fk fv : Rho → Wp PyData) (r : Rho → Wp (List (PyData × PyData))) (ρ : Rho) (Q : List (PyData × PyData) → Prop) : ppCons fk fv r ρ Q = (bnd (fk ρ) fun y => bnd (fv ρ) fun z => bnd (r ρ) fun es => bnd (keyW y) fun j => ret ((kD j, z) :: es)) Q := propext Iff.rfl
theorem ppNil_e (ρ : Rho) (Q : List (PyData × PyData) → Prop) : ppNil ρ Q = (ret []) Q := propext Iff.rfl
end Lq
namespace Lq
open PySem L2
theorem eListVals_e (f : Rho → Wp PyData) (ρ : Rho) (Q : PyData → Prop) : eListVals f ρ Q = (bnd (f ρ) valsQ) Q := propext Iff.rfl
theorem lAdd_e (f k : Rho → Wp PyData) (ρ : Rho) (Q : List PyData → Prop) : lAdd f k ρ Q = (bnd (f ρ) fun d => bnd (k ρ) fun e => catL d e) Q := propext Iff.rfl
end Lq
namespace Lq
open PySem L2
theorem fLcIt_e (i : Nat) (k : PyData → Rho → Wp Rho) (t : Rho → Wp Bool) (f : Rho → Wp PyData) (vs : List Nat) (ρ : Rho) (Q : List PyData → Prop) : fLcIt i k t f vs ρ Q = slDT ρ[i]? fun es => (es.length ≤ sizeLine ∧ noOwn (ρ.set i .un) vs = true ∧ ∀ e ∈ es, ∃ n : Int, e.2 = .int n) ∧ wLc k t f (es.map pairD) (wipeR (ρ.set i .un) vs) Q := propext Iff.rfl
end Lq
namespace Lq
open PySem L2
/-! ### operators on known data -/
theorem asB_b (b : Bool) : asB (.bool b) = ret b := id rfl
theorem tru_n : tru .none = ret false := id rfl
theorem tru_b (b : Bool) : tru (.bool b) = ret b := id rfl
theorem tru_i (i : Int) : tru (.int i) = ret (i != 0) := id rfl
theorem tru_s (x : Str) : tru (.str x) = gd (x.length ≤ sizeLine) ((x.length : Int) != 0) := id rfl
theorem tru_l (ds : List PyData) : tru (.list ds) = ret (!ds.isEmpty) := id rfl
theorem tru_t (ds : List PyData) : tru (.tuple ds) = ret (!ds.isEmpty) := id rfl
theorem tru_d {es : List (PyData × PyData)} (h : marked es = false) : tru (.dict es) = ret (!es.isEmpty) := by
  cases es with
  | nil => rfl
  | cons e es =>
    cases e with
    | mk a b => cases a <;> first | rfl | cases h
theorem items_l (ds : List PyData) : items (.list ds) = ret ds := id rfl
theorem items_t (ds : List PyData) : items (.tuple ds) = ret ds := id rfl
theorem intOf_i (i : Int) : intOf (.int i) = ret (some i) := id rfl
theorem len_l (ds : List PyData) : lenQ [.list ds] = ret (.int (ds.length : Int)) := id rfl
theorem len_t (ds : List PyData) : lenQ [.tuple ds] = ret (.int (ds.length : Int)) := id rfl
theorem len_s (x : Str) : lenQ [.str x] = gd (x.length ≤ sizeLine) (.int (x.length : Int)) := id rfl
theorem len_d {es : List (PyData × PyData)} (h : marked es = false) : lenQ [.dict es] = ret (.int (es.length : Int)) := by
  cases es with
  | nil => rfl
  | cons e es =>
    cases e with
    | mk a b => cases a <;> first | rfl | cases h
theorem list_l (ds : List PyData) : listQ [.list ds] = ret (.list ds) := id rfl
theorem list_t (ds : List PyData) : listQ [.tuple ds] = ret (.list ds) := id rfl
theorem list_d {es : List (PyData × PyData)} (h : marked es = false) : listQ [.dict es] = ret (.list (es.map (·.1))) := by
  cases es with
  | nil => rfl
  | cons e es =>
    cases e with
    | mk a b => cases a <;> first | rfl | cases h
theorem tuple_l (ds : List PyData) : tupleQ [.list ds] = ret (.tuple ds) := id rfl
theorem tuple_t (ds : List PyData) : tupleQ [.tuple ds] = ret (.tuple ds) := id rfl
theorem ix_t (ds : List PyData) (i : Int) : ixQ (.tuple ds) (.int i) = atW (atI ds i) := id rfl
theorem ix_l (ds : List PyData) (i : Int) : ixQ (.list ds) (.int i) = atW (atI ds i) := id rfl
theorem ix_s (x : Str) (i : Int) : ixQ (.str x) (.int i) = bnd (atW (atI x.cps.toList i)) fun c => gd (x.length ≤ sizeLine) (.str ⟨#[c]⟩) := id rfl
theorem atW_s {α : Type} (a : α) : atW (some a) = ret a := id rfl
theorem add_i (i j : Int) : addQ (.int i) (.int j) = ret (.int (i + j)) := id rfl
theorem add_s (x y : Str) : addQ (.str x) (.str y) = gd (x.length + y.length ≤ sizeLine) (.str (x ++ y)) := id rfl
theorem add_t (a b : List PyData) : addQ (.tuple a) (.tuple b) = gd (a.length + b.length ≤ sizeLine) (.tuple (a ++ b)) := id rfl
theorem add_l (a b : List PyData) : addQ (.list a) (.list b) = gd (a.length + b.length ≤ sizeLine) (.list (a ++ b)) := id rfl
theorem sub_i (i j : Int) : subQ (.int i) (.int j) = ret (.int (i - j)) := id rfl
theorem mul_i (i j : Int) : mulQ (.int i) (.int j) = gd (CMul i j) (.int (i * j)) := id rfl
theorem mod_i (i j : Int) : modQ (.int i) (.int j) = gd (0 < j) (.int (i % j)) := id rfl
theorem fdiv_i (i j : Int) : fdivQ (.int i) (.int j) = gd (CDiv i j) (.int (i / j)) := id rfl
theorem pow_i (i j : Int) : powQ (.int i) (.int j) = gd (CPow i j) (.int (i ^ j.toNat)) := id rfl
theorem neg_i (i : Int) : negQ (.int i) = ret (.int (-i)) := id rfl
theorem lt_i (i j : Int) : ltQ (.int i) (.int j) = ret (.bool (decide (i < j))) := id rfl
theorem le_i (i j : Int) : leQ (.int i) (.int j) = ret (.bool (decide (i ≤ j))) := id rfl
theorem gt_i (i j : Int) : gtQ (.int i) (.int j) = ret (.bool (decide (j < i))) := id rfl
theorem ge_i (i j : Int) : geQ (.int i) (.int j) = ret (.bool (decide (j ≤ i))) := id rfl
theorem lt_s (x y : Str) : ltQ (.str x) (.str y) = ret (.bool (decide (x.cps.toList < y.cps.toList))) := id rfl
theorem le_s (x y : Str) : leQ (.str x) (.str y) = ret (.bool (!decide (y.cps.toList < x.cps.toList))) := id rfl
theorem is_n (d : PyData) : isQ d .none = ret (.bool (isNone d)) := id rfl
theorem isNot_n (d : PyData) : isNotQ d .none = ret (.bool (!isNone d)) := id rfl
theorem isN_n : isNone .none = true := id rfl
theorem isN_b (b : Bool) : isNone (.bool b) = false := id rfl
theorem isN_i (b : Int) : isNone (.int b) = false := id rfl
theorem isN_s (b : Str) : isNone (.str b) = false := id rfl
theorem isN_l (b : List PyData) : isNone (.list b) = false := id rfl
theorem isN_t (b : List PyData) : isNone (.tuple b) = false := id rfl
theorem isN_d (b : List (PyData × PyData)) : isNone (.dict b) = false := id rfl
theorem eq_ii (i j : Int) : eqQ (.int i) (.int j) = ret (.bool (decide (i = j))) := id rfl
theorem eq_ss (i j : Str) : eqQ (.str i) (.str j) = ret (.bool (decide (i = j))) := id rfl
theorem eq_bb (i j : Bool) : eqQ (.bool i) (.bool j) = ret (.bool (decide (i = j))) := id rfl
theorem eq_is (i : Int) (j : Str) : eqQ (.int i) (.str j) = ret (.bool false) := id rfl
theorem eq_si (i : Str) (j : Int) : eqQ (.str i) (.int j) = ret (.bool false) := id rfl
theorem eq_nn : eqQ .none .none = ret (.bool true) := id rfl
theorem eq_ni (j : Int) : eqQ .none (.int j) = ret (.bool false) := id rfl
theorem eq_in (j : Int) : eqQ (.int j) .none = ret (.bool false) := id rfl
theorem eq_ns (j : Str) : eqQ .none (.str j) = ret (.bool false) := id rfl
theorem eq_sn (j : Str) : eqQ (.str j) .none = ret (.bool false) := id rfl
theorem eq_tt (a b : List PyData) : eqQ (.tuple a) (.tuple b) = gd (SeqAt.shaped (.tuple a) = true ∧ SeqAt.shaped (.tuple b) = true) (.bool (PyData.eqv (.tuple a) (.tuple b))) := id rfl
theorem eq_ll (a b : List PyData) : eqQ (.list a) (.list b) = gd (SeqAt.shaped (.list a) = true ∧ SeqAt.shaped (.list b) = true) (.bool (PyData.eqv (.list a) (.list b))) := id rfl
theorem ne_ii (i j : Int) : neQ (.int i) (.int j) = ret (.bool (!decide (i = j))) := id rfl
theorem ne_ss (i j : Str) : neQ (.str i) (.str j) = ret (.bool (!decide (i = j))) := id rfl
theorem ne_bb (i j : Bool) : neQ (.bool i) (.bool j) = ret (.bool (!decide (i = j))) := id rfl
theorem ne_is (i : Int) (j : Str) : neQ (.int i) (.str j) = ret (.bool true) := id rfl
theorem ne_si (i : Str) (j : Int) : neQ (.str i) (.int j) = ret (.bool true) := id rfl
theorem ne_nn : neQ .none .none = ret (.bool false) := id rfl
theorem ne_ni (j : Int) : neQ .none (.int j) = ret (.bool true) := id rfl
theorem ne_in (j : Int) : neQ (.int j) .none = ret (.bool true) := id rfl
theorem ne_ns (j : Str) : neQ .none (.str j) = ret (.bool true) := id rfl
theorem ne_sn (j : Str) : neQ (.str j) .none = ret (.bool true) := id rfl
theorem ne_tt (a b : List PyData) : neQ (.tuple a) (.tuple b) = gd (SeqAt.shaped (.tuple a) = true ∧ SeqAt.shaped (.tuple b) = true) (.bool (!PyData.eqv (.tuple a) (.tuple b))) := id rfl
theorem ne_ll (a b : List PyData) : neQ (.list a) (.list b) = gd (SeqAt.shaped (.list a) = true ∧ SeqAt.shaped (.list b) = true) (.bool (!PyData.eqv (.list a) (.list b))) := id rfl
theorem in_l {x : PyData} {ds : List PyData} (neg : Bool) (h : (flatD x && ds.all flatD) = true) : inQ neg x (.list ds) = ret (.bool (if neg then !inF x ds else inF x ds)) := by
  cases x <;> exact if_pos h
theorem in_t {x : PyData} {ds : List PyData} (neg : Bool) (h : flatD x = true ∧ ds.all flatD = true) : inQ neg x (.tuple ds) = ret (.bool (if neg then !inF x ds else inF x ds)) := by
  have e : inQ neg x (.tuple ds) = gd (flatD x = true ∧ ds.all flatD = true) (.bool (if neg then !inF x ds else inF x ds)) := by cases x <;> rfl
  rw [e]
  funext Q
  exact propext ⟨fun z => z.2, fun z => ⟨h, z⟩⟩
theorem ints_of : ∀ ns : List Int, intsOf (ns.map .int) = some ns
  | [] => rfl
  | n :: ns => by
    show (intsOf (ns.map .int)).map (n :: ·) = _
    rw [ints_of ns]; rfl
theorem intsW_of (ns : List Int) : intsW (ns.map .int) = ret ns := by
  unfold intsW; rw [ints_of]
theorem sum_l (ds : List PyData) : sumQ [.list ds] = bnd (intsW ds) fun ns => ret (.int ns.sum) := id rfl
theorem max_l (ds : List PyData) : maxQ [.list ds] = bnd (intsW ds) fun ns Q => 0 < ns.length ∧ ∀ m, m ∈ ns → (∀ y, y ∈ ns → y ≤ m) → Q (.int m) := id rfl
theorem max_2 (i j : Int) : maxQ [.int i, .int j] = ret (.int (if j > i then j else i)) := id rfl
theorem min_2 (i j : Int) : minQ [.int i, .int j] = ret (.int (if j < i then j else i)) := id rfl
theorem int_i (i : Int) : intQ [.int i] = ret (.int i) := id rfl
theorem int_b (b : Bool) : intQ [.bool b] = ret (.int (if b then 1 else 0)) := id rfl
theorem rng1_i (j : Int) : rng1 [.int j] = gd (-(2 ^ 62) ≤ j ∧ j < 2 ^ 62) (upto 0 j.toNat) := id rfl
theorem rng2_i (i j : Int) : rng2 [.int i, .int j] = gd (-(2 ^ 62) ≤ i ∧ i < 2 ^ 62 ∧ -(2 ^ 62) ≤ j ∧ j < 2 ^ 62) (upto i (j - i).toNat) := id rfl
theorem sl_t (ds : List PyData) (lo hi : Option Int) : slQ (.tuple ds) lo hi = ret (.tuple (cutD ds lo hi)) := id rfl
theorem sl_l (ds : List PyData) (lo hi : Option Int) : slQ (.list ds) lo hi = ret (.list (cutD ds lo hi)) := id rfl
theorem sl_s (x : Str) (lo hi : Option Int) : slQ (.str x) lo hi = gd (x.length ≤ sizeLine) (.str (cutS x lo hi)) := id rfl
theorem back_l (ds : List PyData) : backQ (.list ds) none = ret (.list ds.reverse) := id rfl
theorem back_t (ds : List PyData) : backQ (.tuple ds) none = ret (.tuple ds.reverse) := id rfl
theorem back_0 (d : PyData) (ds : List PyData) : backQ (.tuple (d :: ds)) (some 0) = ret (.tuple ds.reverse) := by
  funext Q
  exact propext ⟨fun h => h.2, fun h => ⟨⟨rfl, Nat.succ_pos _⟩, h⟩⟩
theorem dget_k {es : List (PyData × PyData)} (h : marked es = false) (k : PyData) : dgetW (.dict es) k = gd (keyP k ≠ none) (lookP es k) := by
  show (if marked es = true then dgT es.tail k else gd (keyP k ≠ none) (lookP es k)) = _
  rw [h]; rfl
theorem dget_i {es : List (PyData × PyData)} (h : marked es = false) (k : Int) : dgetW (.dict es) (.int k) = ret (lookP es (.int k)) := by
  rw [dget_k h]; funext Q; exact propext ⟨fun z => z.2, fun z => ⟨(fun e => by cases e), z⟩⟩
theorem dget_s {es : List (PyData × PyData)} (h : marked es = false) (k : Str) : dgetW (.dict es) (.str k) = ret (lookP es (.str k)) := by
  rw [dget_k h]; funext Q; exact propext ⟨fun z => z.2, fun z => ⟨(fun e => by cases e), z⟩⟩
theorem keyP_i (i : Int) : keyP (.int i) = some (.inl i) := id rfl
theorem keyP_s (i : Str) : keyP (.str i) = some (.inr i) := id rfl
theorem keyW_i (i : Int) : keyW (.int i) = ret (.inl i) := id rfl
theorem keyW_s (i : Str) : keyW (.str i) = ret (.inr i) := id rfl
theorem kD_i (i : Int) : kD (.inl i) = .int i := id rfl
theorem kD_s (i : Str) : kD (.inr i) = .str i := id rfl
theorem ty_n : tyD .none = "NoneType" := id rfl
theorem ty_b (b : Bool) : tyD (.bool b) = "bool" := id rfl
theorem ty_i (b : Int) : tyD (.int b) = "int" := id rfl
theorem ty_s (b : Str) : tyD (.str b) = "str" := id rfl
theorem ty_l (b : List PyData) : tyD (.list b) = "list" := id rfl
theorem ty_t (b : List PyData) : tyD (.tuple b) = "tuple" := id rfl
theorem ty_d (b : List (PyData × PyData)) : tyD (.dict b) = "dict" := id rfl
theorem thenO_nx (k : Rho → Wp Out) (ρ : Rho) : thenO k (.nx ρ) = k ρ := id rfl
theorem thenO_rt (k : Rho → Wp Out) (d : PyData) : thenO k (.rt d) = ret (.rt d) := id rfl
theorem thenO_bk (k : Rho → Wp Out) (ρ : Rho) : thenO k (.bk ρ) = ret (.bk ρ) := id rfl
theorem thenO_ct (k : Rho → Wp Out) (ρ : Rho) : thenO k (.ct ρ) = ret (.ct ρ) := id rfl
theorem endQ_rt (Q : PyData → Prop) (d : PyData) : endQ Q (.rt d) = Q d := id rfl
theorem endQ_nx (Q : PyData → Prop) (ρ : Rho) : endQ Q (.nx ρ) = Q .none := id rfl
theorem gd_true {α : Type} {c : Prop} (h : c) (a : α) : gd c a = ret a := by
  funext Q; exact propext ⟨fun z => z.2, fun z => ⟨h, z⟩⟩
end Lq
namespace Lq
open PySem L2
/-! ### reading mirrors -/
theorem ite_ap {α : Type} {c : Prop} [Decidable c] (m n : Wp α) (Q : α → Prop) : (if c then m else n) Q = if c then m Q else n Q := by split <;> rfl
theorem kit_NoneType_bool : kitB "NoneType" "bool" = some false := by decide +kernel
theorem kit_NoneType_int : kitB "NoneType" "int" = some false := by decide +kernel
theorem kit_NoneType_str : kitB "NoneType" "str" = some false := by decide +kernel
theorem kit_NoneType_list : kitB "NoneType" "list" = some false := by decide +kernel
theorem kit_NoneType_tuple : kitB "NoneType" "tuple" = some false := by decide +kernel
theorem kit_bool_bool : kitB "bool" "bool" = some true := by decide +kernel
theorem kit_bool_int : kitB "bool" "int" = some true := by decide +kernel
theorem kit_bool_str : kitB "bool" "str" = some false := by decide +kernel
theorem kit_bool_list : kitB "bool" "list" = some false := by decide +kernel
theorem kit_bool_tuple : kitB "bool" "tuple" = some false := by decide +kernel
theorem kit_int_bool : kitB "int" "bool" = some false := by decide +kernel
theorem kit_int_int : kitB "int" "int" = some true := by decide +kernel
theorem kit_int_str : kitB "int" "str" = some false := by decide +kernel
theorem kit_int_list : kitB "int" "list" = some false := by decide +kernel
theorem kit_int_tuple : kitB "int" "tuple" = some false := by decide +kernel
theorem kit_str_bool : kitB "str" "bool" = some false := by decide +kernel
theorem kit_str_int : kitB "str" "int" = some false := by decide +kernel
theorem kit_str_str : kitB "str" "str" = some true := by decide +kernel
theorem kit_str_list : kitB "str" "list" = some false := by decide +kernel
theorem kit_str_tuple : kitB "str" "tuple" = some false := by decide +kernel
theorem kit_list_bool : kitB "list" "bool" = some false := by decide +kernel
theorem kit_list_int : kitB "list" "int" = some false := by decide +kernel
theorem kit_list_str : kitB "list" "str" = some false := by decide +kernel
theorem kit_list_list : kitB "list" "list" = some true := by decide +kernel
theorem kit_list_tuple : kitB "list" "tuple" = some false := by decide +kernel
theorem kit_tuple_bool : kitB "tuple" "bool" = some false := by decide +kernel
theorem kit_tuple_int : kitB "tuple" "int" = some false := by decide +kernel
theorem kit_tuple_str : kitB "tuple" "str" = some false := by decide +kernel
theorem kit_tuple_list : kitB "tuple" "list" = some false := by decide +kernel
theorem kit_tuple_tuple : kitB "tuple" "tuple" = some true := by decide +kernel
/-! ### loops -/
section
variable {α : Type} {k : PyData → Rho → Wp Rho} {b : Rho → Wp Out} {Q : Out → Prop}
/-- a for: I holds of the number of turns and of what the state is made of -/
theorem for_i (st : α → Rho) (I : Nat → α → Prop) {ds : List PyData} (hs : ∀ i d a, ds[i]? = some d → I i a → ∀ R : Out → Prop, (∀ a', I (i + 1) a' → R (.nx (st a')) ∧ R (.ct (st a'))) → (∀ d, Q (.rt d) → R (.rt d)) → (∀ ρ, Q (.nx ρ) → R (.bk ρ)) → k d (st a) fun ρ1 => b ρ1 R)
    (h1 : ∀ a, I ds.length a → Q (.nx (st a))) {a : α} (h0 : I 0 a) : wFor k b ds (st a) Q := by
  have key : ∀ (es : List PyData) (i : Nat) (a : α), ds.drop i = es → I i a → i ≤ ds.length → wFor k b es (st a) Q := by
    intro es
    induction es with
    | nil =>
      intro i a e h l
      have : ds.length ≤ i := by
        have := congrArg List.length e
        rw [List.length_drop, List.length_nil] at this
        omega
      have e2 : i = ds.length := by omega
      subst e2
      exact h1 a h
    | cons d es ih =>
      intro i a e h l
      have l2 : i < ds.length := by
        have := congrArg List.length e
        rw [List.length_drop, List.length_cons] at this
        omega
      have e3 := List.drop_eq_getElem_cons l2
      rw [e] at e3
      have e4 := List.cons.inj e3
      have hd : ds[i]? = some d := by rw [List.getElem?_eq_getElem l2, e4.1]
      refine hs i d a hd h _ (fun a' h' => ⟨?_, ?_⟩) (fun d h => h) (fun ρ h => h)
      · exact ih (i + 1) a' e4.2.symm h' l2
      · exact ih (i + 1) a' e4.2.symm h' l2
  exact key ds 0 a (List.drop_zero) h0 (Nat.zero_le _)
/-- .. over things that stand for others -/
theorem for_of {β : Type} (e : β → PyData) (st : α → Rho) (I : Nat → α → Prop) {xs : List β} (hs : ∀ i x a, xs[i]? = some x → I i a → ∀ R : Out → Prop, (∀ a', I (i + 1) a' → R (.nx (st a')) ∧ R (.ct (st a'))) → (∀ d, Q (.rt d) → R (.rt d)) → (∀ ρ, Q (.nx ρ) → R (.bk ρ)) → k (e x) (st a) fun ρ1 => b ρ1 R)
    (h1 : ∀ a, I xs.length a → Q (.nx (st a))) {a : α} (h0 : I 0 a) : wFor k b (xs.map e) (st a) Q := by
  refine for_i st I (fun i d a hd => ?_) (fun a h => h1 a (by rwa [List.length_map] at h)) h0
  rw [List.getElem?_map] at hd
  obtain ⟨x, hx, rfl⟩ := Option.map_eq_some_iff.mp hd
  exact hs i x a hx
/-- a while: μ falls -/
theorem while_i {c : Rho → Wp Bool} (st : α → Rho) (I : α → Prop) (μ : α → Nat) (hs : ∀ a, I a → ∀ R : Out → Prop, (∀ a', I a' → μ a' < μ a → R (.nx (st a')) ∧ R (.ct (st a'))) → (∀ d, Q (.rt d) → R (.rt d)) → (∀ ρ, Q (.nx ρ) → R (.bk ρ)) → c (st a) fun t => if t = true then b (st a) R else Q (.nx (st a)))
    {a : α} (h0 : I a) : sWhile c b (st a) Q := by
  have key : ∀ (n : Nat) (a : α), I a → μ a < n → wWhile c b n (st a) Q := by
    intro n
    induction n with
    | zero => intro a _ h; omega
    | succ n ih =>
      intro a h l
      show c (st a) fun t => (if t = true then bnd (b (st a)) (endLoop (wWhile c b n)) else ret (.nx (st a))) Q
      simp only [ite_ap]
      refine hs a h _ (fun a' h' l' => ⟨?_, ?_⟩) (fun d h => h) (fun ρ h => h)
      · exact ih a' h' (by omega)
      · exact ih a' h' (by omega)
  exact ⟨μ a + 1, key _ a h0 (Nat.lt_succ_self _)⟩
end
section
variable {k : PyData → Rho → Wp Rho} {t : Rho → Wp Bool} {f : Rho → Wp PyData} {ρ : Rho}
/-- a comprehension whose outcome is known -/
theorem lc_fm (g : PyData → Option PyData) : ∀ {ds : List PyData} {Q : List PyData → Prop}, (∀ d, d ∈ ds → ∀ R : Option PyData → Prop, R (g d) → k d ρ fun ρ1 => t ρ1 fun b => if b = true then f ρ1 fun y => R (some y) else R none) → Q (ds.filterMap g) → wLc k t f ds ρ Q
  | [], Q, _, q => q
  | d :: ds, Q, h, q => by
    show k d ρ fun ρ1 => t ρ1 fun b => (if b = true then bnd (f ρ1) fun y => bnd (wLc k t f ds ρ) fun ys => ret (y :: ys) else wLc k t f ds ρ) Q
    simp only [ite_ap]
    refine h d List.mem_cons_self (fun o => match o with | some y => wLc k t f ds ρ fun ys => Q (y :: ys) | none => wLc k t f ds ρ Q) ?_
    cases e : g d with
    | none =>
      rw [List.filterMap_cons_none e] at q
      exact lc_fm g (fun d m => h d (List.mem_cons_of_mem _ m)) q
    | some y =>
      rw [List.filterMap_cons_some e] at q
      exact lc_fm g (fun d m => h d (List.mem_cons_of_mem _ m)) q
/-- a comprehension whose items are any that P allows -/
theorem lc_any (P : PyData → PyData → Prop) : ∀ {ds : List PyData} {Q : List PyData → Prop}, (∀ d, d ∈ ds → ∀ R : Option PyData → Prop, (∀ y, P d y → R (some y)) → k d ρ fun ρ1 => t ρ1 fun b => if b = true then f ρ1 fun y => R (some y) else R none) → (∀ ys, Paired P ds ys → Q ys) → wLc k t f ds ρ Q
  | [], Q, _, q => q [] .nil
  | d :: ds, Q, h, q => by
    show k d ρ fun ρ1 => t ρ1 fun b => (if b = true then bnd (f ρ1) fun y => bnd (wLc k t f ds ρ) fun ys => ret (y :: ys) else wLc k t f ds ρ) Q
    simp only [ite_ap]
    refine h d List.mem_cons_self (fun o => match o with | some y => wLc k t f ds ρ fun ys => Q (y :: ys) | none => wLc k t f ds ρ Q) fun y hy => ?_
    exact lc_any P (fun d m => h d (List.mem_cons_of_mem _ m)) fun ys hp => q _ (.cons hy hp)
/-- .. over things that stand for others -/
theorem lc_of {α : Type} (e : α → PyData) (g : α → Option PyData) : ∀ {xs : List α} {Q : List PyData → Prop}, (∀ a, a ∈ xs → ∀ R : Option PyData → Prop, R (g a) → k (e a) ρ fun ρ1 => t ρ1 fun b => if b = true then f ρ1 fun y => R (some y) else R none) → Q (xs.filterMap g) → wLc k t f (xs.map e) ρ Q
  | [], Q, _, q => q
  | a :: xs, Q, h, q => by
    show k (e a) ρ fun ρ1 => t ρ1 fun b => (if b = true then bnd (f ρ1) fun y => bnd (wLc k t f (xs.map e) ρ) fun ys => ret (y :: ys) else wLc k t f (xs.map e) ρ) Q
    simp only [ite_ap]
    refine h a List.mem_cons_self (fun o => match o with | some y => wLc k t f (xs.map e) ρ fun ys => Q (y :: ys) | none => wLc k t f (xs.map e) ρ Q) ?_
    cases h2 : g a with
    | none =>
      rw [List.filterMap_cons_none h2] at q
      exact lc_of e g (fun d m => h d (List.mem_cons_of_mem _ m)) q
    | some y =>
      rw [List.filterMap_cons_some h2] at q
      exact lc_of e g (fun d m => h d (List.mem_cons_of_mem _ m)) q
theorem lc_anyOf {α : Type} (e : α → PyData) (P : α → PyData → Prop) : ∀ {xs : List α} {Q : List PyData → Prop}, (∀ a, a ∈ xs → ∀ R : Option PyData → Prop, (∀ y, P a y → R (some y)) → k (e a) ρ fun ρ1 => t ρ1 fun b => if b = true then f ρ1 fun y => R (some y) else R none) → (∀ ys, Paired P xs ys → Q ys) → wLc k t f (xs.map e) ρ Q
  | [], Q, _, q => q [] .nil
  | a :: xs, Q, h, q => by
    show k (e a) ρ fun ρ1 => t ρ1 fun b => (if b = true then bnd (f ρ1) fun y => bnd (wLc k t f (xs.map e) ρ) fun ys => ret (y :: ys) else wLc k t f (xs.map e) ρ) Q
    simp only [ite_ap]
    refine h a List.mem_cons_self (fun o => match o with | some y => wLc k t f (xs.map e) ρ fun ys => Q (y :: ys) | none => wLc k t f (xs.map e) ρ Q) fun y hy => ?_
    exact lc_anyOf e P (fun d m => h d (List.mem_cons_of_mem _ m)) fun ys hp => q _ (.cons hy hp)
end
end Lq
namespace Lq
open PySem L2
/-! ### data: how many nodes, how deep, without dicts -/
mutual
def nodes : PyData → Nat
  | .list ds => nodesL ds + 1
  | .tuple ds => nodesL ds + 1
  | _ => 1
def nodesL : List PyData → Nat
  | [] => 0
  | d :: ds => nodes d + nodesL ds
end
mutual
def dep : PyData → Nat
  | .list ds => depL ds + 1
  | .tuple ds => depL ds + 1
  | _ => 0
def depL : List PyData → Nat
  | [] => 0
  | d :: ds => max (dep d) (depL ds)
end
mutual
/-- no dicts, texts of at most a thousand signs -/
def plain : PyData → Bool
  | .list ds => plainL ds
  | .tuple ds => plainL ds
  | .dict _ => false
  | .str x => decide (x.length ≤ 1000)
  | _ => true
def plainL : List PyData → Bool
  | [] => true
  | d :: ds => plain d && plainL ds
end
theorem nodes_pos (d : PyData) : 0 < nodes d := by cases d <;> simp only [nodes] <;> omega
theorem length_nodesL : ∀ ds : List PyData, ds.length ≤ nodesL ds
  | [] => Nat.le_refl _
  | d :: ds => by
    have := nodes_pos d
    have := length_nodesL ds
    simp only [List.length_cons, nodesL]
    omega
theorem nodesL_append : ∀ xs ys : List PyData, nodesL (xs ++ ys) = nodesL xs + nodesL ys
  | [], _ => by simp [nodesL]
  | d :: ds, ys => by
    simp only [List.cons_append, nodesL, nodesL_append ds ys]
    omega
theorem depL_append : ∀ xs ys : List PyData, depL (xs ++ ys) = max (depL xs) (depL ys)
  | [], _ => by simp [depL]
  | d :: ds, ys => by
    simp only [List.cons_append, depL, depL_append ds ys]
    omega
theorem plainL_append : ∀ xs ys : List PyData, plainL (xs ++ ys) = (plainL xs && plainL ys)
  | [], _ => by simp [plainL]
  | d :: ds, ys => by simp only [List.cons_append, plainL, plainL_append ds ys, Bool.and_assoc]
theorem plainL_iff : ∀ {ds : List PyData}, plainL ds = true ↔ ∀ d ∈ ds, plain d = true
  | [] => by simp [plainL]
  | d :: ds => by simp [plainL, plainL_iff (ds := ds)]
theorem dep_of_mem : ∀ {ds : List PyData} {d : PyData}, d ∈ ds → dep d ≤ depL ds
  | e :: ds, d, h => by
    simp only [depL]
    rcases List.mem_cons.mp h with rfl | h
    · omega
    · have := dep_of_mem h; omega
theorem nodes_of_mem : ∀ {ds : List PyData} {d : PyData}, d ∈ ds → nodes d ≤ nodesL ds
  | e :: ds, d, h => by
    simp only [nodesL]
    rcases List.mem_cons.mp h with rfl | h
    · omega
    · have := nodes_of_mem h; omega
theorem nodesL_reverse : ∀ ds : List PyData, nodesL ds.reverse = nodesL ds
  | [] => rfl
  | d :: ds => by simp only [List.reverse_cons, nodesL_append, nodesL_reverse ds, nodesL]; omega
theorem nodesL_take_drop (ds : List PyData) (n : Nat) : nodesL (ds.take n) + nodesL (ds.drop n) = nodesL ds := by
  rw [← nodesL_append, List.take_append_drop]
theorem depL_take (ds : List PyData) (n : Nat) : depL (ds.take n) ≤ depL ds := by
  have h := depL_append (ds.take n) (ds.drop n)
  rw [List.take_append_drop] at h
  omega
theorem depL_drop (ds : List PyData) (n : Nat) : depL (ds.drop n) ≤ depL ds := by
  have h := depL_append (ds.take n) (ds.drop n)
  rw [List.take_append_drop] at h
  omega
theorem plainL_take {ds : List PyData} (h : plainL ds = true) (n : Nat) : plainL (ds.take n) = true := plainL_iff.mpr fun d m => plainL_iff.mp h d (List.mem_of_mem_take m)
theorem plainL_drop {ds : List PyData} (h : plainL ds = true) (n : Nat) : plainL (ds.drop n) = true := plainL_iff.mpr fun d m => plainL_iff.mp h d (List.mem_of_mem_drop m)
/-! ### slices -/
theorem cut_from (ds : List PyData) (k : Nat) : cutD ds (some (k : Int)) none = ds.drop k := by
  unfold cutD
  rw [HT.sIx_nat, HT.sIx_none]
  by_cases h : k ≤ ds.length
  · rw [Nat.min_eq_left h, List.take_of_length_le]
    rw [List.length_drop]; omega
  · rw [Nat.min_eq_right (by omega), List.drop_of_length_le (Nat.le_refl _), List.drop_of_length_le (by omega)]
    simp
theorem cut_upto (ds : List PyData) (k : Nat) : cutD ds none (some (k : Int)) = ds.take k := by
  unfold cutD
  rw [HT.sIx_nat, HT.sIx_none, List.drop_zero, Nat.sub_zero]
  by_cases h : k ≤ ds.length
  · rw [Nat.min_eq_left h]
  · rw [Nat.min_eq_right (by omega), List.take_of_length_le (Nat.le_refl _), List.take_of_length_le (by omega)]
theorem cut_from1 (ds : List PyData) (k : Nat) : cutD ds (some ((k : Int) + 1)) none = ds.drop (k + 1) := by
  rw [show (k : Int) + 1 = ((k + 1 : Nat) : Int) by omega]
  exact cut_from ds (k + 1)
theorem cut_1 (ds : List PyData) : cutD ds (some 1) none = ds.drop 1 := cut_from ds 1
theorem at_of_nat {α : Type} {xs : List α} {k : Nat} {x : α} (h : xs[k]? = some x) : atI xs (k : Int) = some x := by
  have l : k < xs.length := (List.getElem?_eq_some_iff.mp h).1
  unfold atI ixN
  rw [if_pos (by omega), if_pos (by omega)]
  simpa using h
theorem at_zero {α : Type} {x : α} {xs : List α} : atI (x :: xs) 0 = some x := at_of_nat (k := 0) rfl
theorem at_one {α : Type} {x y : α} {xs : List α} : atI (x :: y :: xs) 1 = some y := at_of_nat (k := 1) rfl
theorem at_two {α : Type} {x y z : α} {xs : List α} : atI (x :: y :: z :: xs) 2 = some z := at_of_nat (k := 2) rfl
theorem at_three {α : Type} {x y z u : α} {xs : List α} : atI (x :: y :: z :: u :: xs) 3 = some u := at_of_nat (k := 3) rfl
theorem at_nat {α : Type} (xs : List α) (k : Nat) : atI xs (k : Int) = xs[k]? := by
  by_cases h : k < xs.length
  · rw [List.getElem?_eq_getElem h]; exact at_of_nat (List.getElem?_eq_getElem h)
  · unfold atI ixN
    rw [if_pos (by omega), if_neg (by omega), List.getElem?_eq_none (by omega)]; rfl
theorem sz_0 : (0 ≤ sizeLine) = True := eq_true (by decide)
theorem sz_1 : (1 ≤ sizeLine) = True := eq_true (by decide)
theorem sz_2 : (2 ≤ sizeLine) = True := eq_true (by decide)
theorem sz_3 : (3 ≤ sizeLine) = True := eq_true (by decide)
theorem sz_4 : (4 ≤ sizeLine) = True := eq_true (by decide)
theorem sz_5 : (5 ≤ sizeLine) = True := eq_true (by decide)
theorem sz_6 : (6 ≤ sizeLine) = True := eq_true (by decide)
theorem sz_7 : (7 ≤ sizeLine) = True := eq_true (by decide)
theorem sz_8 : (8 ≤ sizeLine) = True := eq_true (by decide)
theorem sz_9 : (9 ≤ sizeLine) = True := eq_true (by decide)
theorem sz_10 : (10 ≤ sizeLine) = True := eq_true (by decide)
theorem sz_11 : (11 ≤ sizeLine) = True := eq_true (by decide)
theorem sz_12 : (12 ≤ sizeLine) = True := eq_true (by decide)
theorem sz_13 : (13 ≤ sizeLine) = True := eq_true (by decide)
theorem sz_14 : (14 ≤ sizeLine) = True := eq_true (by decide)
theorem sz_15 : (15 ≤ sizeLine) = True := eq_true (by decide)
theorem sz_16 : (16 ≤ sizeLine) = True := eq_true (by decide)
theorem sz_17 : (17 ≤ sizeLine) = True := eq_true (by decide)
theorem sz_18 : (18 ≤ sizeLine) = True := eq_true (by decide)
theorem sz_19 : (19 ≤ sizeLine) = True := eq_true (by decide)
theorem sz_20 : (20 ≤ sizeLine) = True := eq_true (by decide)
theorem z_succ (n : Nat) : (((n + 1 : Nat) : Int) = 0) = False := eq_false (by omega)
theorem z_succ_pos (n : Nat) : ((0 : Int) < ((n + 1 : Nat) : Int)) = True := eq_true (by omega)
theorem z_zero_pos : ((0 : Int) < ((0 : Nat) : Int)) = False := eq_false (by omega)
theorem z_pred (n : Nat) : ((n + 1 : Nat) : Int) - 1 = (n : Int) := by omega
theorem z_zero : (((0 : Nat) : Int) = 0) = True := eq_true (by omega)
theorem ixN_nat {n k : Nat} (h : k < n) : ixN n (k : Int) = some k := by
  unfold ixN
  rw [if_pos (by omega), if_pos (by omega), Int.toNat_natCast]
theorem upto_get {lo : Int} {n i : Nat} (h : i < n) : (upto lo n)[i]? = some (.int (lo + i)) := by simp [upto, h]
theorem upto_mem {lo : Int} {n : Nat} {d : PyData} (h : d ∈ upto lo n) : ∃ i : Nat, i < n ∧ d = .int (lo + i) := by
  obtain ⟨i, hi, rfl⟩ := List.mem_map.mp h
  exact ⟨i, List.mem_range.mp hi, rfl⟩
theorem upto_len {lo : Int} {n : Nat} : (upto lo n).length = n := by simp [upto]
theorem filterMap_none {α β : Type} (xs : List α) : xs.filterMap (fun _ => (none : Option β)) = [] := by
  induction xs with
  | nil => rfl
  | cons x xs ih => rw [List.filterMap_cons_none rfl, ih]
end Lq
namespace Lq
open PySem L2
theorem upto_zero (n : Nat) : upto 0 n = (List.range n).map fun (i : Nat) => PyData.int (i : Int) := by
  unfold upto
  refine List.map_congr_left fun i _ => ?_
  rw [Int.zero_add]
/-- a for over range(n) -/
theorem for_up {α : Type} {k : PyData → Rho → Wp Rho} {b : Rho → Wp Out} {Q : Out → Prop} (st : α → Rho) (I : Nat → α → Prop) {n : Nat} (hs : ∀ i a, i < n → I i a → ∀ R : Out → Prop, (∀ a', I (i + 1) a' → R (.nx (st a')) ∧ R (.ct (st a'))) → (∀ d, Q (.rt d) → R (.rt d)) → (∀ ρ, Q (.nx ρ) → R (.bk ρ)) → k (.int (i : Int)) (st a) fun ρ1 => b ρ1 R)
    (h1 : ∀ a, I n a → Q (.nx (st a))) {a : α} (h0 : I 0 a) : wFor k b (upto 0 n) (st a) Q := by
  rw [upto_zero]
  refine for_of (fun (i : Nat) => PyData.int (i : Int)) st I (fun i x a hx => ?_) (fun a h => h1 a (by rwa [List.length_range] at h)) h0
  have hl : i < n := by have := (List.getElem?_eq_some_iff.mp hx).1; rwa [List.length_range] at this
  have e : x = i := by rw [List.getElem?_range hl] at hx; exact (Option.some.inj hx).symm
  subst e
  exact hs x a hl
/-! ### expressions whose value is known -/
def Ev (f : Rho → Wp PyData) (ρ : Rho) (d : PyData) : Prop := ∀ Q : PyData → Prop, Q d → f ρ Q
def Evs (f : Rho → Wp (List PyData)) (ρ : Rho) (ds : List PyData) : Prop := ∀ Q : List PyData → Prop, Q ds → f ρ Q
theorem ev_c {ρ : Rho} {d : PyData} : Ev (eC d) ρ d := fun _ q => q
theorem ev_v {ρ : Rho} {i : Nat} {d : PyData} (h : ρ[i]? = some (.val d)) : Ev (eVar i) ρ d := fun Q q => by
  unfold eVar
  rw [h]; exact q
theorem evs_nil {ρ : Rho} : Evs aNil ρ [] := fun _ q => q
theorem evs_cons {ρ : Rho} {f : Rho → Wp PyData} {k : Rho → Wp (List PyData)} {d : PyData} {ds : List PyData} (h : Ev f ρ d) (r : Evs k ρ ds) : Evs (aCons f k) ρ (d :: ds) := fun _ q => h _ (r _ q)
theorem ev_tup {ρ : Rho} {k : Rho → Wp (List PyData)} {ds : List PyData} (h : Evs k ρ ds) (l : Nat.ble ds.length 1000 = true) : Ev (eTup k) ρ (.tuple ds) := fun _ q => h _ ⟨Nat.le_trans (Nat.le_of_ble_eq_true l) (by decide), q⟩
theorem ev_addT {ρ : Rho} {f k : Rho → Wp PyData} {a b : List PyData} (h : Ev f ρ (.tuple a)) (r : Ev k ρ (.tuple b)) (l : Nat.ble (a.length + b.length) 1000 = true) : Ev (eOp addQ f k) ρ (.tuple (a ++ b)) := fun _ q => h _ (r _ ⟨Nat.le_trans (Nat.le_of_ble_eq_true l) (by decide), q⟩)
theorem ev_take {ρ : Rho} {f : Rho → Wp PyData} {a : List PyData} (n : Nat) (h : Ev f ρ (.tuple a)) : Ev (eSl f noPart (aPart (eC (.int (n : Int))))) ρ (.tuple (a.take n)) := fun Q q => h _ (by
  show Q (.tuple (cutD a none (some (n : Int))))
  rw [cut_upto]; exact q)
theorem seq_ev {ρ : Rho} {f : Rho → Wp PyData} {k : Rho → Wp Out} {i : Nat} {d : PyData} {Q : Out → Prop} (h : Ev f ρ d) (r : k (ρ.set i (.val d)) Q) : sSeq (sSet (gN i) f) k ρ Q := h _ r
theorem seq_ev2 {ρ : Rho} {f : Rho → Wp PyData} {k : Rho → Wp Out} {i : Nat} {d : PyData} {Q : Out → Prop} (h : Ev f ρ d) (hi : i < ρ.length) (r : ∀ ρ' : Rho, ρ'.length = ρ.length → (∀ j, j ≠ i → ρ'[j]? = ρ[j]?) → ρ'[i]? = some (.val d) → k ρ' Q) : sSeq (sSet (gN i) f) k ρ Q :=
  h _ (r _ (List.length_set ..) (fun j n => List.getElem?_set_ne fun e => n e.symm) (by rw [List.getElem?_set_self hi]))
theorem op_ev {ρ : Rho} {o : PyData → PyData → Wp PyData} {f k : Rho → Wp PyData} {d e : PyData} {Q : PyData → Prop} (h : Ev f ρ d) (r : Ev k ρ e) (q : o d e Q) : eOp o f k ρ Q := h _ (r _ q)
/-! ### dicts as lists of pairs -/
def putsP (es : List (PyData × PyData)) : List (PyData × PyData) → List (PyData × PyData)
  | [] => es
  | p :: ps => putsP (putP es p.1 p.2) ps
section
variable {k : PyData → Rho → Wp Rho} {t : Rho → Wp Bool} {fk fv : Rho → Wp PyData} {ρ : Rho}
/-- a dict comprehension whose entries are known -/
theorem dc_puts (g : PyData → Option (PyData × PyData)) : ∀ {ds : List PyData} {es : List (PyData × PyData)} {Q : List (PyData × PyData) → Prop}, (∀ d, d ∈ ds → ∀ R : Option (PyData × PyData) → Prop, R (g d) → k d ρ fun ρ1 => t ρ1 fun b => if b = true then fk ρ1 fun y => fv ρ1 fun z => keyW y fun j => R (some (kD j, z)) else R none) →
    Q (putsP es (ds.filterMap g)) → wDc k t fk fv ds ρ es Q
  | [], es, Q, _, q => q
  | d :: ds, es, Q, h, q => by
    show k d ρ fun ρ1 => t ρ1 fun b => (if b = true then bnd (fk ρ1) fun y => bnd (fv ρ1) fun z => bnd (keyW y) fun j => wDc k t fk fv ds ρ (putP es (kD j) z) else wDc k t fk fv ds ρ es) Q
    simp only [ite_ap]
    refine h d List.mem_cons_self (fun o => match o with | some p => wDc k t fk fv ds ρ (putP es p.1 p.2) Q | none => wDc k t fk fv ds ρ es Q) ?_
    cases e : g d with
    | none =>
      rw [List.filterMap_cons_none e] at q
      exact dc_puts g (fun d m => h d (List.mem_cons_of_mem _ m)) q
    | some p =>
      rw [List.filterMap_cons_some e] at q
      exact dc_puts g (fun d m => h d (List.mem_cons_of_mem _ m)) q
end
theorem puts_new : ∀ (ps : List (PyData × PyData)) (es : List (PyData × PyData)), (es ++ ps).Pairwise (fun a b => keqb a.1 b.1 = false) → putsP es ps = es ++ ps
  | [], es, _ => by simp [putsP]
  | p :: ps, es, h => by
    have h1 : (es.any fun e => keqb e.1 p.1) = false := by
      rw [List.any_eq_false]
      intro e m
      rw [List.pairwise_append] at h
      rw [h.2.2 e m p List.mem_cons_self]
      exact Bool.false_ne_true
    have e1 : putP es p.1 p.2 = es ++ [p] := by
      unfold putP
      rw [h1, if_neg Bool.false_ne_true]
    show putsP (putP es p.1 p.2) ps = es ++ p :: ps
    rw [e1, puts_new ps (es ++ [p]) (by rw [List.append_assoc]; exact h), List.append_assoc]
    rfl
/-- each key once, in the order of its first appearance -/
def firsts (acc : List PyData) : List PyData → List PyData
  | [] => acc
  | d :: ds => firsts (if (acc.any fun e => keqb e d) = true then acc else acc ++ [d]) ds
theorem put_keys (es : List (PyData × PyData)) (k v : PyData) : (putP es k v).map (·.1) = if ((es.map (·.1)).any fun e => keqb e k) = true then es.map (·.1) else es.map (·.1) ++ [k] := by
  unfold putP
  rw [List.any_map]
  show (if (es.any fun e => keqb e.1 k) = true then _ else _ : List (PyData × PyData)).map (·.1) = if (es.any fun e => keqb e.1 k) = true then _ else _
  split
  · rw [List.map_map]
    refine List.map_congr_left fun e _ => ?_
    show (if keqb e.1 k = true then (e.1, v) else e).1 = e.1
    split <;> rfl
  · simp
theorem puts_keys : ∀ (ps es : List (PyData × PyData)), (putsP es ps).map (·.1) = firsts (es.map (·.1)) (ps.map (·.1))
  | [], es => rfl
  | p :: ps, es => by
    show (putsP (putP es p.1 p.2) ps).map (·.1) = firsts _ (p.1 :: ps.map (·.1))
    rw [puts_keys ps, put_keys]; rfl
theorem firsts_nil : ∀ (ds acc : List PyData), firsts acc ds = [] ↔ acc = [] ∧ ds = []
  | [], acc => by simp [firsts]
  | d :: ds, acc => by
    show firsts (if _ then _ else _) ds = [] ↔ _
    rw [firsts_nil ds]
    constructor
    · intro h
      split at h
      · rename_i hh
        rw [h.1] at hh; simp at hh
      · simp at h
    · intro h; simp at h
theorem filterMap_all {α β : Type} (f : α → Option β) (g : α → β) (h : ∀ x, f x = some (g x)) (xs : List α) : xs.filterMap f = xs.map g := by
  induction xs with
  | nil => rfl
  | cons x xs ih => rw [List.filterMap_cons_some (h x), ih]; rfl
theorem marked_map {α : Type} {f : α → PyData × PyData} {xs : List α} (h : ∀ x, (f x).1 ≠ .none) : marked (xs.map f) = false := by
  cases xs with
  | nil => rfl
  | cons x xs =>
    show marked (f x :: _) = false
    have := h x
    cases e : f x with
    | mk a b =>
      rw [e] at this
      cases a <;> first | rfl | exact absurd rfl this
end Lq
namespace Lq
open PySem L2
local macro_rules | `(tactic| walk_at "wp") => `(tactic| (try simp only [runQ_e, runQP_e, endQ_rt_e, endQ_nx_e, sSeq_e, sNil_e, thenO_nx, thenO_rt, thenO_bk, thenO_ct, bnd_e, ret_e, gd_e, bad_e, eVar_e, eOwn_e, slV_e, slO_e, eC_e, eOp_e, eTup_e, aNil_e, aCons_e, sSet_e, gN_e, gT_e, gsCons_e, gsNil_e, sRet_e, sIf_e, sExpr_e, tT_e, tTru_e, tNo_e, tBoth_e, tEither_e, eBoth_e, eEither_e, eNo_e, eIf_e, eCall_e, eFn_e, eFnP_e, slP_e, eSl_e, aPart_e, noPart_e, eIsi_e, isiD, eTy_e, tyQ_e, ty_n, ty_b, ty_i, ty_s, ty_l, ty_t, ty_d, eGet1_e, eGet2_e, eDget_e, eDin_e, sDnew_e, sPut_e, slD_e, sNew_e, lLst_e, slL_e, sApp_e, eL_e, sPop_e, sExt_e, sSetIx_e, lList_e, iSeq_e, iCall_e, eNeg_e, eChain_e, eBack_e, sFrz_e, frzR, frzS, sPutT_e, slDT_e, sDnewT_e, ite_ap, sFor_e, fLc_e, fDc_e, eD_e, tAll_e, asB_b, tru_n, tru_b, tru_i, tru_s, tru_l, tru_t, items_l, items_t, intOf_i, len_l, len_t, len_s, list_l, list_t, tuple_l, tuple_t, ix_t, ix_l, ix_s, atW_s, add_i, add_s, add_t, add_l, sub_i, mul_i, mod_i, fdiv_i, neg_i, pow_i, eRg1_e, rgW_e, Int.sub_zero, lt_i, le_i, gt_i, ge_i, lt_s, le_s, is_n, isNot_n, isN_n, isN_b, isN_i, isN_s, isN_l, isN_t, isN_d, eq_ii, eq_ss, eq_bb, eq_is, eq_si, eq_nn, eq_ni, eq_in, eq_ns, eq_sn, eq_tt, eq_ll, ne_ii, ne_ss, ne_bb, ne_is, ne_si, ne_nn, ne_ni, ne_in, ne_ns, ne_sn, ne_tt, ne_ll, sum_l, intsW_of, max_2, min_2, int_i, int_b, rng1_i, rng2_i, sl_t, sl_l, sl_s, back_t, back_l, back_0, keyP_i, keyP_s, keyW_i, keyW_s, kD_i, kD_s, List.map_cons, List.map_nil, List.length_cons, List.length_nil, List.cons_append, List.nil_append, List.replicate_succ, List.replicate_zero, List.getElem?_cons_zero, List.getElem?_cons_succ, List.set_cons_zero, List.set_cons_succ, List.reverse_cons, List.reverse_nil, Nat.zero_add, Nat.reduceSub, Nat.reduceAdd, reduceIte, if_true, if_false, Bool.not_true, Bool.not_false, Bool.true_eq_false, Bool.false_eq_true, ite_true, ite_false, String.reduceEq, ne_eq, not_false_eq_true, not_true_eq_false, reduceCtorEq, true_and, and_true, noOwn, isOwn, wipeR, List.all_cons, List.all_nil, Bool.and_self, at_zero, at_one, at_two, at_three, cut_1, cut_from, cut_from1, cut_upto, decide_true, decide_false, Int.toNat_natCast, upto_len, z_succ, z_succ_pos, z_pred, z_zero, z_zero_pos, List.drop_succ_cons, List.drop_zero, List.isEmpty_cons, List.isEmpty_nil, List.getLast?_concat, List.dropLast_concat, sz_0, sz_1, sz_2, sz_3, sz_4, sz_5, sz_6, sz_7, sz_8, sz_9, sz_10, sz_11, sz_12, sz_13, sz_14, sz_15, sz_16, sz_17, sz_18, sz_19, sz_20, kit_NoneType_bool, kit_NoneType_int, kit_NoneType_str, kit_NoneType_list, kit_NoneType_tuple, kit_bool_bool, kit_bool_int, kit_bool_str, kit_bool_list, kit_bool_tuple, kit_int_bool, kit_int_int, kit_int_str, kit_int_list, kit_int_tuple, kit_str_bool, kit_str_int, kit_str_str, kit_str_list, kit_str_tuple, kit_list_bool, kit_list_int, kit_list_str, kit_list_list, kit_list_tuple, kit_tuple_bool, kit_tuple_int, kit_tuple_str, kit_tuple_list, kit_tuple_tuple, eDisp_e, ppCons_e, ppNil_e, eListVals_e, lAdd_e, fLcIt_e, slO_d, slO_t, iStr_e, signsW_e, zipWl_e, zipWt_e, enumWl_e, allQl_e, anyQl_e, inS1_e]))
/-! ### _law_same of a thing and itself -/
theorem same_self : ∀ (n : Nat) (d : PyData) (Q : PyData → Prop), dep d < n → nodes d ≤ 2 ^ 24 → plain d = true → Q (.bool true) → m_l_same n [d, d] Q
  | 0, _, _, h, _, _, _ => by omega
  | n + 1, d, Q, h, hn, hp, q => by
    show runQ 3 (b_l_same (m_l_same n)) [d, d] Q
    cases d with
    | none => (simp only [b_l_same]; walk_at "wp"); exact q
    | bool b => (simp only [b_l_same]; walk_at "wp"); exact q
    | int i => (simp only [b_l_same]; walk_at "wp"); exact q
    | str x => (simp only [b_l_same]; walk_at "wp"); exact q
    | dict es => simp [plain] at hp
    | tuple ds =>
      simp only [dep, nodes, plain] at h hn hp
      (simp only [b_l_same]; walk_at "wp")
      have hl := length_nodesL ds
      refine ⟨by omega, by simp only [sizeLine]; omega, lc_fm (fun _ => none) (fun d m R r => ?_) (by rw [filterMap_none]; exact q)⟩
      obtain ⟨i, hi, rfl⟩ := upto_mem m
      have hx : atI ds (0 + (i : Int)) = some ds[i] := by rw [Int.zero_add]; exact at_of_nat (List.getElem?_eq_getElem hi)
      have hm := List.getElem_mem hi
      walk_at "wp"
      simp only [hx]
      exact up_of (same_self n _ _ (by have := dep_of_mem hm; omega) (by have := nodes_of_mem hm; omega) (plainL_iff.mp hp _ hm) r)
    | list ds =>
      simp only [dep, nodes, plain] at h hn hp
      (simp only [b_l_same]; walk_at "wp")
      have hl := length_nodesL ds
      refine ⟨by omega, by simp only [sizeLine]; omega, lc_fm (fun _ => none) (fun d m R r => ?_) (by rw [filterMap_none]; exact q)⟩
      obtain ⟨i, hi, rfl⟩ := upto_mem m
      have hx : atI ds (0 + (i : Int)) = some ds[i] := by rw [Int.zero_add]; exact at_of_nat (List.getElem?_eq_getElem hi)
      have hm := List.getElem_mem hi
      walk_at "wp"
      simp only [hx]
      exact up_of (same_self n _ _ (by have := dep_of_mem hm; omega) (by have := nodes_of_mem hm; omega) (plainL_iff.mp hp _ hm) r)
end Lq
namespace Lq
open PySem PySem.W L2
local macro_rules | `(tactic| walk_at "wp") => `(tactic| (try simp only [runQ_e, runQP_e, endQ_rt_e, endQ_nx_e, sSeq_e, sNil_e, thenO_nx, thenO_rt, thenO_bk, thenO_ct, bnd_e, ret_e, gd_e, bad_e, eVar_e, eOwn_e, slV_e, slO_e, eC_e, eOp_e, eTup_e, aNil_e, aCons_e, sSet_e, gN_e, gT_e, gsCons_e, gsNil_e, sRet_e, sIf_e, sExpr_e, tT_e, tTru_e, tNo_e, tBoth_e, tEither_e, eBoth_e, eEither_e, eNo_e, eIf_e, eCall_e, eFn_e, eFnP_e, slP_e, eSl_e, aPart_e, noPart_e, eIsi_e, isiD, eTy_e, tyQ_e, ty_n, ty_b, ty_i, ty_s, ty_l, ty_t, ty_d, eGet1_e, eGet2_e, eDget_e, eDin_e, sDnew_e, sPut_e, slD_e, sNew_e, lLst_e, slL_e, sApp_e, eL_e, sPop_e, sExt_e, sSetIx_e, lList_e, iSeq_e, iCall_e, eNeg_e, eChain_e, eBack_e, sFrz_e, frzR, frzS, sPutT_e, slDT_e, sDnewT_e, ite_ap, sFor_e, fLc_e, fDc_e, eD_e, tAll_e, asB_b, tru_n, tru_b, tru_i, tru_s, tru_l, tru_t, items_l, items_t, intOf_i, len_l, len_t, len_s, list_l, list_t, tuple_l, tuple_t, ix_t, ix_l, ix_s, atW_s, add_i, add_s, add_t, add_l, sub_i, mul_i, mod_i, fdiv_i, neg_i, pow_i, eRg1_e, rgW_e, Int.sub_zero, lt_i, le_i, gt_i, ge_i, lt_s, le_s, is_n, isNot_n, isN_n, isN_b, isN_i, isN_s, isN_l, isN_t, isN_d, eq_ii, eq_ss, eq_bb, eq_is, eq_si, eq_nn, eq_ni, eq_in, eq_ns, eq_sn, eq_tt, eq_ll, ne_ii, ne_ss, ne_bb, ne_is, ne_si, ne_nn, ne_ni, ne_in, ne_ns, ne_sn, ne_tt, ne_ll, sum_l, intsW_of, max_2, min_2, int_i, int_b, rng1_i, rng2_i, sl_t, sl_l, sl_s, back_t, back_l, back_0, keyP_i, keyP_s, keyW_i, keyW_s, kD_i, kD_s, List.map_cons, List.map_nil, List.length_cons, List.length_nil, List.cons_append, List.nil_append, List.replicate_succ, List.replicate_zero, List.getElem?_cons_zero, List.getElem?_cons_succ, List.set_cons_zero, List.set_cons_succ, List.reverse_cons, List.reverse_nil, Nat.zero_add, Nat.reduceSub, Nat.reduceAdd, reduceIte, if_true, if_false, Bool.not_true, Bool.not_false, Bool.true_eq_false, Bool.false_eq_true, ite_true, ite_false, String.reduceEq, ne_eq, not_false_eq_true, not_true_eq_false, reduceCtorEq, true_and, and_true, noOwn, isOwn, wipeR, List.all_cons, List.all_nil, Bool.and_self, at_zero, at_one, at_two, at_three, cut_1, cut_from, cut_from1, cut_upto, decide_true, decide_false, Int.toNat_natCast, upto_len, z_succ, z_succ_pos, z_pred, z_zero, z_zero_pos, List.drop_succ_cons, List.drop_zero, List.isEmpty_cons, List.isEmpty_nil, List.getLast?_concat, List.dropLast_concat, sz_0, sz_1, sz_2, sz_3, sz_4, sz_5, sz_6, sz_7, sz_8, sz_9, sz_10, sz_11, sz_12, sz_13, sz_14, sz_15, sz_16, sz_17, sz_18, sz_19, sz_20, kit_NoneType_bool, kit_NoneType_int, kit_NoneType_str, kit_NoneType_list, kit_NoneType_tuple, kit_bool_bool, kit_bool_int, kit_bool_str, kit_bool_list, kit_bool_tuple, kit_int_bool, kit_int_int, kit_int_str, kit_int_list, kit_int_tuple, kit_str_bool, kit_str_int, kit_str_str, kit_str_list, kit_str_tuple, kit_list_bool, kit_list_int, kit_list_str, kit_list_list, kit_list_tuple, kit_tuple_bool, kit_tuple_int, kit_tuple_str, kit_tuple_list, kit_tuple_tuple, eDisp_e, ppCons_e, ppNil_e, eListVals_e, lAdd_e, fLcIt_e, slO_d, slO_t, iStr_e, signsW_e, zipWl_e, zipWt_e, enumWl_e, allQl_e, anyQl_e, inS1_e]))
/-! ### size-change graphs: rows, joined -/
abbrev Tr := Int × Int × Int
def rowD (t : Tr) : PyData := .tuple [.int t.1, .int t.2.1, .int t.2.2]
def lt3 (t u : Tr) : Prop := t.1 < u.1 ∨ (t.1 = u.1 ∧ (t.2.1 < u.2.1 ∨ (t.2.1 = u.2.1 ∧ t.2.2 < u.2.2)))
def le3 (t u : Tr) : Bool := decide (t.1 < u.1 ∨ (t.1 = u.1 ∧ (t.2.1 < u.2.1 ∨ (t.2.1 = u.2.1 ∧ t.2.2 ≤ u.2.2))))
def keyD (p : Int × Int) : PyData := .tuple [.int p.1, .int p.2]
def le2 (p q : Int × Int) : Bool := decide (p.1 < q.1 ∨ (p.1 = q.1 ∧ p.2 ≤ q.2))
/-- strictly sorted rows are told by their members -/
theorem rows_eq : ∀ {xs ys : List Tr}, xs.Pairwise lt3 → ys.Pairwise lt3 → (∀ t, t ∈ xs ↔ t ∈ ys) → xs = ys
  | [], ys, _, _, h => by
    cases ys with
    | nil => rfl
    | cons y ys => exact absurd ((h y).mpr List.mem_cons_self) List.not_mem_nil
  | x :: xs, [], _, _, h => absurd ((h x).mp List.mem_cons_self) List.not_mem_nil
  | x :: xs, y :: ys, hx, hy, h => by
    obtain ⟨hx1, hx2⟩ := List.pairwise_cons.mp hx
    obtain ⟨hy1, hy2⟩ := List.pairwise_cons.mp hy
    have e : x = y := by
      rcases List.mem_cons.mp ((h x).mp List.mem_cons_self) with e | m
      · exact e
      · rcases List.mem_cons.mp ((h y).mpr List.mem_cons_self) with e | m2
        · exact e.symm
        · have a := hy1 x m
          have b := hx1 y m2
          unfold lt3 at a b
          omega
    subst e
    rw [rows_eq hx2 hy2 fun t => ⟨fun m => ?_, fun m => ?_⟩]
    · rcases List.mem_cons.mp ((h t).mp (List.mem_cons_of_mem _ m)) with e | m2
      · have a := hx1 t m
        rw [e] at a
        unfold lt3 at a
        omega
      · exact m2
    · rcases List.mem_cons.mp ((h t).mpr (List.mem_cons_of_mem _ m)) with e | m2
      · have a := hy1 t m
        rw [e] at a
        unfold lt3 at a
        omega
      · exact m2
/-- a row of the joined graph: some pair of rows gives it, and none gives more -/
def Jn (F S : List Tr) (t : Tr) : Prop := (∃ x ∈ F, ∃ y ∈ S, y.1 = x.2.1 ∧ t = (x.1, y.2.1, max x.2.2 y.2.2)) ∧ ∀ x ∈ F, ∀ y ∈ S, y.1 = x.2.1 → x.1 = t.1 → y.2.1 = t.2.1 → max x.2.2 y.2.2 ≤ t.2.2
structure Good (F S ts : List Tr) : Prop where
  srt : ts.Pairwise lt3
  mem : ∀ t, t ∈ ts ↔ Jn F S t
  all : ∀ x ∈ F, ∀ y ∈ S, y.1 = x.2.1 → ∃ v, (x.1, y.2.1, v) ∈ ts
theorem Good.one {F S xs ys : List Tr} (a : Good F S xs) (b : Good F S ys) : xs = ys := rows_eq a.srt b.srt fun t => (a.mem t).trans (b.mem t).symm
theorem Good.assoc {A B C ab bc l r : List Tr} (h1 : Good A B ab) (h2 : Good B C bc) (hl : Good ab C l) (hr : Good A bc r) : l = r := by
  have top1 : ∀ x ∈ A, ∀ y ∈ B, y.1 = x.2.1 → ∃ v, (x.1, y.2.1, v) ∈ ab ∧ max x.2.2 y.2.2 ≤ v := fun x hx y hy e => by
    obtain ⟨v, hv⟩ := h1.all x hx y hy e
    exact ⟨v, hv, ((h1.mem _).mp hv).2 x hx y hy e rfl rfl⟩
  have top2 : ∀ x ∈ B, ∀ y ∈ C, y.1 = x.2.1 → ∃ v, (x.1, y.2.1, v) ∈ bc ∧ max x.2.2 y.2.2 ≤ v := fun x hx y hy e => by
    obtain ⟨v, hv⟩ := h2.all x hx y hy e
    exact ⟨v, hv, ((h2.mem _).mp hv).2 x hx y hy e rfl rfl⟩
  -- what both say: a chain of three rows, the largest
  let Ch : Tr → Prop := fun t => (∃ x ∈ A, ∃ y ∈ B, ∃ z ∈ C, y.1 = x.2.1 ∧ z.1 = y.2.1 ∧ t = (x.1, z.2.1, max (max x.2.2 y.2.2) z.2.2)) ∧ ∀ x ∈ A, ∀ y ∈ B, ∀ z ∈ C, y.1 = x.2.1 → z.1 = y.2.1 → x.1 = t.1 → z.2.1 = t.2.1 → max (max x.2.2 y.2.2) z.2.2 ≤ t.2.2
  have eL : ∀ t, Jn ab C t ↔ Ch t := fun t => by
    constructor
    · rintro ⟨⟨u, hu, z, hz, e, rfl⟩, up⟩
      obtain ⟨⟨x, hx, y, hy, e2, rfl⟩, _⟩ := (h1.mem u).mp hu
      refine ⟨⟨x, hx, y, hy, z, hz, e2, e, rfl⟩, fun x' hx' y' hy' z' hz' f1 f2 f3 f4 => ?_⟩
      obtain ⟨v, hv, le⟩ := top1 x' hx' y' hy' f1
      have := up _ hv z' hz' f2 f3 f4
      simp only at this ⊢
      omega
    · rintro ⟨⟨x, hx, y, hy, z, hz, e2, e, rfl⟩, up⟩
      obtain ⟨v, hv, le⟩ := top1 x hx y hy e2
      have upv : ∀ u ∈ ab, ∀ z' ∈ C, z'.1 = u.2.1 → u.1 = x.1 → z'.2.1 = z.2.1 → max u.2.2 z'.2.2 ≤ max (max x.2.2 y.2.2) z.2.2 := fun u hu z' hz' g1 g2 g3 => by
        obtain ⟨⟨x', hx', y', hy', f1, rfl⟩, _⟩ := (h1.mem u).mp hu
        exact up x' hx' y' hy' z' hz' f1 g1 g2 g3
      refine ⟨⟨_, hv, z, hz, e, ?_⟩, fun u hu z' hz' g1 g2 g3 => upv u hu z' hz' g1 g2 g3⟩
      have := upv _ hv z hz e rfl rfl
      simp only at this ⊢
      have ev : max (max x.2.2 y.2.2) z.2.2 = max v z.2.2 := by omega
      rw [ev]
  have eR : ∀ t, Jn A bc t ↔ Ch t := fun t => by
    constructor
    · rintro ⟨⟨x, hx, u, hu, e, rfl⟩, up⟩
      obtain ⟨⟨y, hy, z, hz, e2, rfl⟩, _⟩ := (h2.mem u).mp hu
      refine ⟨⟨x, hx, y, hy, z, hz, e, e2, ?_⟩, fun x' hx' y' hy' z' hz' f1 f2 f3 f4 => ?_⟩
      · simp only
        have : max x.2.2 (max y.2.2 z.2.2) = max (max x.2.2 y.2.2) z.2.2 := by omega
        rw [this]
      · obtain ⟨v, hv, le⟩ := top2 y' hy' z' hz' f2
        have := up x' hx' _ hv f1 f3 f4
        simp only at this ⊢
        omega
    · rintro ⟨⟨x, hx, y, hy, z, hz, e, e2, rfl⟩, up⟩
      obtain ⟨v, hv, le⟩ := top2 y hy z hz e2
      have upv : ∀ x' ∈ A, ∀ u ∈ bc, u.1 = x'.2.1 → x'.1 = x.1 → u.2.1 = z.2.1 → max x'.2.2 u.2.2 ≤ max (max x.2.2 y.2.2) z.2.2 := fun x' hx' u hu g1 g2 g3 => by
        obtain ⟨⟨y', hy', z', hz', f1, rfl⟩, _⟩ := (h2.mem u).mp hu
        have := up x' hx' y' hy' z' hz' g1 f1 g2 g3
        simp only at this ⊢
        omega
      refine ⟨⟨x, hx, _, hv, e, ?_⟩, fun x' hx' u hu g1 g2 g3 => upv x' hx' u hu g1 g2 g3⟩
      have := upv x hx _ hv e rfl rfl
      simp only at this ⊢
      have ev : max (max x.2.2 y.2.2) z.2.2 = max x.2.2 v := by omega
      rw [ev]
  exact rows_eq hl.srt hr.srt fun t => (hl.mem t).trans ((eL t).trans ((eR t).symm.trans (hr.mem t).symm))
/-! the dict of ends -/
abbrev En := (Int × Int) × Int
def encE (e : En) : PyData × PyData := (keyD e.1, .int e.2)
/-- what is known of the dict after the pairs of rows `done` -/
structure Ends (done es : List En) : Prop where
  nd : (es.map (·.1)).Nodup
  from' : ∀ e ∈ es, e ∈ done
  top : ∀ e ∈ es, ∀ d ∈ done, d.1 = e.1 → d.2 ≤ e.2
  all : ∀ d ∈ done, ∃ v, (d.1, v) ∈ es
  few : es.length ≤ done.length
theorem key_eq (p q : Int × Int) : keqb (keyD p) (keyD q) = decide (p = q) := by
  obtain ⟨a, b⟩ := p
  obtain ⟨c, d⟩ := q
  simp only [keyD, keqb, keqbs, Bool.and_true]
  rw [Bool.eq_iff_iff]
  simp [Prod.ext_iff]
theorem look_enc (es : List En) (p : Int × Int) : lookP (es.map encE) (keyD p) = ((es.find? fun e => decide (e.1 = p)).map fun e => .int e.2) := by
  unfold lookP
  induction es with
  | nil => rfl
  | cons e es ih =>
    rw [List.map_cons, List.find?_cons, List.find?_cons]
    show Option.map _ (match keqb (keyD e.1) (keyD p) with | true => _ | false => _) = _
    rw [key_eq]
    by_cases h : e.1 = p
    · rw [decide_eq_true h]; rfl
    · rw [decide_eq_false h]; exact ih
def putE (es : List En) (p : Int × Int) (v : Int) : List En := if (es.any fun e => decide (e.1 = p)) = true then es.map (fun e => if e.1 = p then (e.1, v) else e) else es ++ [(p, v)]
theorem put_enc (es : List En) (p : Int × Int) (v : Int) : putP (es.map encE) (keyD p) (.int v) = (putE es p v).map encE := by
  unfold putP putE
  have e : ((es.map encE).any fun e => keqb e.1 (keyD p)) = es.any fun e => decide (e.1 = p) := by
    rw [List.any_map]
    congr 1
    funext e
    exact key_eq e.1 p
  rw [e]
  split
  · rw [List.map_map, List.map_map]
    refine List.map_congr_left fun e _ => ?_
    show (if keqb (keyD e.1) (keyD p) = true then (keyD e.1, PyData.int v) else encE e) = encE (if e.1 = p then (e.1, v) else e)
    rw [key_eq]
    by_cases h : e.1 = p
    · simp only [h, decide_true, if_true]; rfl
    · simp only [h, decide_false, Bool.false_eq_true, if_false]
  · rw [List.map_append]; rfl
def getE (es : List En) (p : Int × Int) : Int := ((es.find? fun e => decide (e.1 = p)).map (·.2)).getD 0
theorem Ends.put {done es : List En} (h : Ends done es) {p : Int × Int} {w : Int} (hw : 0 ≤ w) : Ends (done ++ [(p, w)]) (putE es p (max (getE es p) w)) := by
  unfold getE
  cases hf : es.find? fun e => decide (e.1 = p) with
  | none =>
    have no : ∀ e ∈ es, ¬ e.1 = p := fun e m => by simpa using List.find?_eq_none.mp hf e m
    have na : (es.any fun e => decide (e.1 = p)) = false := by
      rw [List.any_eq_false]
      intro e m
      simpa using no e m
    have ew : max (Option.getD (Option.map (fun x : En => x.2) none) 0) w = w := by
      show max 0 w = w
      omega
    rw [ew]
    unfold putE
    rw [na, if_neg Bool.false_ne_true]
    refine ⟨?_, fun e m => ?_, fun e m d md k => ?_, fun d md => ?_, by rw [List.length_append, List.length_append]; have := h.few; simp only [List.length_singleton]; omega⟩
    · rw [List.map_append, List.nodup_append]
      refine ⟨h.nd, by simp, fun a ha b hb z => ?_⟩
      obtain ⟨e, me, rfl⟩ := List.mem_map.mp ha
      simp only [List.map_cons, List.map_nil, List.mem_singleton] at hb
      exact no e me (z.trans hb)
    · rcases List.mem_append.mp m with m | m
      · exact List.mem_append_left _ (h.from' e m)
      · exact List.mem_append_right _ m
    · rcases List.mem_append.mp m with m | m
      · rcases List.mem_append.mp md with md | md
        · exact h.top e m d md k
        · rw [List.mem_singleton.mp md] at k
          exact absurd k.symm (no e m)
      · rw [List.mem_singleton.mp m] at k ⊢
        rcases List.mem_append.mp md with md | md
        · obtain ⟨v, hv⟩ := h.all d md
          exact absurd k (no (d.1, v) hv)
        · rw [List.mem_singleton.mp md]; exact Int.le_refl _
    · rcases List.mem_append.mp md with md | md
      · obtain ⟨v, hv⟩ := h.all d md
        exact ⟨v, List.mem_append_left _ hv⟩
      · rw [List.mem_singleton.mp md]
        exact ⟨w, List.mem_append_right _ (List.mem_singleton_self _)⟩
  | some e0 =>
    have m0 := List.mem_of_find?_eq_some hf
    have k0 : e0.1 = p := by simpa using List.find?_some hf
    have ya : (es.any fun e => decide (e.1 = p)) = true := List.any_eq_true.mpr ⟨e0, m0, decide_eq_true k0⟩
    have uniq : ∀ e ∈ es, e.1 = p → e = e0 := fun e m k => by
      have nd := h.nd
      clear h hf ya
      induction es with
      | nil => cases m
      | cons x xs ih =>
        rw [List.map_cons] at nd
        obtain ⟨n1, n2⟩ := List.nodup_cons.mp nd
        rcases List.mem_cons.mp m with e1 | m'
        · rcases List.mem_cons.mp m0 with e2 | m0'
          · rw [e1, e2]
          · exact absurd (List.mem_map.mpr ⟨e0, m0', k0.trans (k.symm.trans (by rw [e1]))⟩) n1
        · rcases List.mem_cons.mp m0 with e2 | m0'
          · exact absurd (List.mem_map.mpr ⟨e, m', k.trans (k0.symm.trans (by rw [e2]))⟩) n1
          · exact ih m0' m' n2
    have ew : max (Option.getD (Option.map (fun x : En => x.2) (some e0)) 0) w = max e0.2 w := rfl
    rw [ew]
    unfold putE
    rw [ya, if_pos rfl]
    have mem : ∀ e, e ∈ es.map (fun e => if e.1 = p then (e.1, max e0.2 w) else e) ↔ (e ∈ es ∧ ¬ e.1 = p) ∨ e = (p, max e0.2 w) := fun e => by
      rw [List.mem_map]
      constructor
      · rintro ⟨x, mx, rfl⟩
        by_cases k : x.1 = p
        · rw [if_pos k, k]; exact .inr rfl
        · rw [if_neg k]; exact .inl ⟨mx, k⟩
      · rintro (⟨m, k⟩ | rfl)
        · exact ⟨e, m, by rw [if_neg k]⟩
        · exact ⟨e0, m0, by rw [if_pos k0, k0]⟩
    refine ⟨?_, fun e m => ?_, fun e m d md k => ?_, fun d md => ?_, by rw [List.length_map, List.length_append]; have := h.few; omega⟩
    · have : (es.map (fun e => if e.1 = p then (e.1, max e0.2 w) else e)).map (·.1) = es.map (·.1) := by
        rw [List.map_map]
        refine List.map_congr_left fun e _ => ?_
        show (if e.1 = p then (e.1, max e0.2 w) else e).1 = e.1
        split <;> rfl
      rw [this]; exact h.nd
    · rcases (mem e).mp m with ⟨m, _⟩ | rfl
      · exact List.mem_append_left _ (h.from' e m)
      · by_cases g : e0.2 ≤ w
        · rw [show max e0.2 w = w by omega]
          exact List.mem_append_right _ (List.mem_singleton_self _)
        · rw [show max e0.2 w = e0.2 by omega, ← k0]
          exact List.mem_append_left _ (h.from' e0 m0)
    · rcases (mem e).mp m with ⟨m, n⟩ | rfl
      · rcases List.mem_append.mp md with md | md
        · exact h.top e m d md k
        · rw [List.mem_singleton.mp md] at k
          exact absurd k.symm n
      · rcases List.mem_append.mp md with md | md
        · have := h.top e0 m0 d md (k.trans k0.symm)
          show d.2 ≤ max e0.2 w
          omega
        · rw [List.mem_singleton.mp md]
          show w ≤ max e0.2 w
          omega
    · by_cases k : d.1 = p
      · rw [k]
        exact ⟨_, (mem _).mpr (.inr rfl)⟩
      · rcases List.mem_append.mp md with md | md
        · obtain ⟨v, hv⟩ := h.all d md
          exact ⟨v, (mem _).mpr (.inl ⟨hv, k⟩)⟩
        · rw [List.mem_singleton.mp md] at k
          exact absurd rfl k
end Lq
namespace Lq
open PySem PySem.W L2
local macro_rules | `(tactic| walk_at "wp") => `(tactic| (try simp only [runQ_e, runQP_e, endQ_rt_e, endQ_nx_e, sSeq_e, sNil_e, thenO_nx, thenO_rt, thenO_bk, thenO_ct, bnd_e, ret_e, gd_e, bad_e, eVar_e, eOwn_e, slV_e, slO_e, eC_e, eOp_e, eTup_e, aNil_e, aCons_e, sSet_e, gN_e, gT_e, gsCons_e, gsNil_e, sRet_e, sIf_e, sExpr_e, tT_e, tTru_e, tNo_e, tBoth_e, tEither_e, eBoth_e, eEither_e, eNo_e, eIf_e, eCall_e, eFn_e, eFnP_e, slP_e, eSl_e, aPart_e, noPart_e, eIsi_e, isiD, eTy_e, tyQ_e, ty_n, ty_b, ty_i, ty_s, ty_l, ty_t, ty_d, eGet1_e, eGet2_e, eDget_e, eDin_e, sDnew_e, sPut_e, slD_e, sNew_e, lLst_e, slL_e, sApp_e, eL_e, sPop_e, sExt_e, sSetIx_e, lList_e, iSeq_e, iCall_e, eNeg_e, eChain_e, eBack_e, sFrz_e, frzR, frzS, sPutT_e, slDT_e, sDnewT_e, ite_ap, sFor_e, fLc_e, fDc_e, eD_e, tAll_e, asB_b, tru_n, tru_b, tru_i, tru_s, tru_l, tru_t, items_l, items_t, intOf_i, len_l, len_t, len_s, list_l, list_t, tuple_l, tuple_t, ix_t, ix_l, ix_s, atW_s, add_i, add_s, add_t, add_l, sub_i, mul_i, mod_i, fdiv_i, neg_i, pow_i, eRg1_e, rgW_e, Int.sub_zero, lt_i, le_i, gt_i, ge_i, lt_s, le_s, is_n, isNot_n, isN_n, isN_b, isN_i, isN_s, isN_l, isN_t, isN_d, eq_ii, eq_ss, eq_bb, eq_is, eq_si, eq_nn, eq_ni, eq_in, eq_ns, eq_sn, eq_tt, eq_ll, ne_ii, ne_ss, ne_bb, ne_is, ne_si, ne_nn, ne_ni, ne_in, ne_ns, ne_sn, ne_tt, ne_ll, sum_l, intsW_of, max_2, min_2, int_i, int_b, rng1_i, rng2_i, sl_t, sl_l, sl_s, back_t, back_l, back_0, keyP_i, keyP_s, keyW_i, keyW_s, kD_i, kD_s, List.map_cons, List.map_nil, List.length_cons, List.length_nil, List.cons_append, List.nil_append, List.replicate_succ, List.replicate_zero, List.getElem?_cons_zero, List.getElem?_cons_succ, List.set_cons_zero, List.set_cons_succ, List.reverse_cons, List.reverse_nil, Nat.zero_add, Nat.reduceSub, Nat.reduceAdd, reduceIte, if_true, if_false, Bool.not_true, Bool.not_false, Bool.true_eq_false, Bool.false_eq_true, ite_true, ite_false, String.reduceEq, ne_eq, not_false_eq_true, not_true_eq_false, reduceCtorEq, true_and, and_true, noOwn, isOwn, wipeR, List.all_cons, List.all_nil, Bool.and_self, at_zero, at_one, at_two, at_three, cut_1, cut_from, cut_from1, cut_upto, decide_true, decide_false, Int.toNat_natCast, upto_len, z_succ, z_succ_pos, z_pred, z_zero, z_zero_pos, List.drop_succ_cons, List.drop_zero, List.isEmpty_cons, List.isEmpty_nil, List.getLast?_concat, List.dropLast_concat, sz_0, sz_1, sz_2, sz_3, sz_4, sz_5, sz_6, sz_7, sz_8, sz_9, sz_10, sz_11, sz_12, sz_13, sz_14, sz_15, sz_16, sz_17, sz_18, sz_19, sz_20, kit_NoneType_bool, kit_NoneType_int, kit_NoneType_str, kit_NoneType_list, kit_NoneType_tuple, kit_bool_bool, kit_bool_int, kit_bool_str, kit_bool_list, kit_bool_tuple, kit_int_bool, kit_int_int, kit_int_str, kit_int_list, kit_int_tuple, kit_str_bool, kit_str_int, kit_str_str, kit_str_list, kit_str_tuple, kit_list_bool, kit_list_int, kit_list_str, kit_list_list, kit_list_tuple, kit_tuple_bool, kit_tuple_int, kit_tuple_str, kit_tuple_list, kit_tuple_tuple, eDisp_e, ppCons_e, ppNil_e, eListVals_e, lAdd_e, fLcIt_e, slO_d, slO_t, iStr_e, signsW_e, zipWl_e, zipWt_e, enumWl_e, allQl_e, anyQl_e, inS1_e]))
/-! ### graphs joined, by the program and by the law -/
theorem dataLt_iii (a b c a' b' c' : Int) : dataLt (.tuple [.int a, .int b, .int c]) (.tuple [.int a', .int b', .int c']) = decide (a < a' ∨ (a = a' ∧ (b < b' ∨ (b = b' ∧ c < c')))) := by
  rw [dataLt_tuple, dataLt_cons (by simp [alike]), dataLt_cons (by simp [alike]), dataLt_cons (by simp [alike])]
  have e : PyProof.Rows.lexLt PyProof.Rows.itemOrd (keyToksAll []) (keyToksAll []) = false := PyProof.Rows.lex_irrefl _
  rw [e, dataLt_int, dataLt_int, dataLt_int]
  simp only [PyData.eqv, beq_iff_eq]
  by_cases h1 : a = a' <;> by_cases h2 : b = b' <;> by_cases h3 : c = c' <;> simp [h1, h2, h3]
theorem le_rows (t u : Tr) : le3 t u = dataLe false id (rowD t) (rowD u) := by
  show _ = !dataLt (rowD u) (rowD t)
  unfold rowD le3
  rw [dataLt_iii]
  by_cases h : u.1 < t.1 ∨ (u.1 = t.1 ∧ (u.2.1 < t.2.1 ∨ (u.2.1 = t.2.1 ∧ u.2.2 < t.2.2)))
  · have h' : ¬ (t.1 < u.1 ∨ (t.1 = u.1 ∧ (t.2.1 < u.2.1 ∨ (t.2.1 = u.2.1 ∧ t.2.2 ≤ u.2.2)))) := by omega
    simp only [h, h', decide_true, decide_false, Bool.not_true]
  · have h' : t.1 < u.1 ∨ (t.1 = u.1 ∧ (t.2.1 < u.2.1 ∨ (t.2.1 = u.2.1 ∧ t.2.2 ≤ u.2.2))) := by omega
    simp only [h, h', decide_true, decide_false, Bool.not_false]
theorem le_keys (p q : Int × Int) : le2 p q = dataLe false id (keyD p) (keyD q) := by
  show _ = !dataLt (keyD q) (keyD p)
  unfold keyD le2
  rw [dataLt_ii]
  by_cases h : q.1 < p.1 ∨ (q.1 = p.1 ∧ q.2 < p.2)
  · have h' : ¬ (p.1 < q.1 ∨ (p.1 = q.1 ∧ p.2 ≤ q.2)) := by omega
    simp only [h, h', decide_true, decide_false, Bool.not_true]
  · have h' : p.1 < q.1 ∨ (p.1 = q.1 ∧ p.2 ≤ q.2) := by omega
    simp only [h, h', decide_true, decide_false, Bool.not_false]
theorem srt_rows (ts : List Tr) : srtD (ts.map rowD) = (ts.mergeSort le3).map rowD := by
  unfold srtD
  rw [List.map_mergeSort (r := le3) (s := dataLe false id) (f := rowD) (l := ts) fun t _ u _ => le_rows t u]
theorem srt_keys (ps : List (Int × Int)) : srtD (ps.map keyD) = (ps.mergeSort le2).map keyD := by
  unfold srtD
  rw [List.map_mergeSort (r := le2) (s := dataLe false id) (f := keyD) (l := ps) fun t _ u _ => le_keys t u]
theorem rows_sorted (ts : List Tr) : (ts.mergeSort le3).Pairwise fun a b => le3 a b = true :=
  List.pairwise_mergeSort (fun a b c h1 h2 => by unfold le3 at *; rw [decide_eq_true_iff] at *; omega) (fun a b => by unfold le3; rw [Bool.or_eq_true, decide_eq_true_iff, decide_eq_true_iff]; omega) ts
theorem keys_sorted (ts : List (Int × Int)) : (ts.mergeSort le2).Pairwise fun a b => le2 a b = true :=
  List.pairwise_mergeSort (fun a b c h1 h2 => by unfold le2 at *; rw [decide_eq_true_iff] at *; omega) (fun a b => by unfold le2; rw [Bool.or_eq_true, decide_eq_true_iff, decide_eq_true_iff]; omega) ts
def tri (e : En) : Tr := (e.1.1, e.1.2, e.2)
theorem rows_ok (ts : List Tr) : SortOk (ts.map rowD) ∧ PyData.hasDictAll (ts.map rowD) = false := by
  refine ⟨⟨AllAlike.of fun t u => by simp [rowD, alike, alikeAll], Sortable.tuples fun t => ⟨_, _, rfl⟩, fun d m => ?_⟩, ?_⟩
  · obtain ⟨t, _, rfl⟩ := List.mem_map.mp m
    simp [rowD, PyData.depth, PyData.depthAll]
  · induction ts with
    | nil => rfl
    | cons t ts ih => simp [PyData.hasDictAll, rowD, PyData.hasDict, ih]
theorem keys_ok (ps : List (Int × Int)) : SortOk (ps.map keyD) ∧ flatTs (ps.map keyD) = true := by
  refine ⟨⟨AllAlike.of fun t u => by simp [keyD, alike, alikeAll], Sortable.tuples fun t => ⟨_, _, rfl⟩, fun d m => ?_⟩, ?_⟩
  · obtain ⟨t, _, rfl⟩ := List.mem_map.mp m
    simp [keyD, PyData.depth, PyData.depthAll]
  · induction ps with
    | nil => rfl
    | cons t ts ih => simp [keyD, flatTs, flatT, ih]
theorem get_mem {es : List En} (nd : (es.map (·.1)).Nodup) {p : Int × Int} {v : Int} (m : (p, v) ∈ es) : (es.find? fun e => decide (e.1 = p)) = some (p, v) := by
  induction es with
  | nil => cases m
  | cons x xs ih =>
    rw [List.map_cons] at nd
    obtain ⟨n1, n2⟩ := List.nodup_cons.mp nd
    rw [List.find?_cons]
    rcases List.mem_cons.mp m with e1 | m'
    · rw [← e1]; simp
    · have : ¬ x.1 = p := fun z => n1 (List.mem_map.mpr ⟨(p, v), m', z.symm⟩)
      rw [decide_eq_false this]
      exact ih n2 m'
/-- rows of a graph and the next graph's rows, joined -/
def one (x : Tr) (S : List Tr) : List En := S.filterMap fun y => if y.1 = x.2.1 then some ((x.1, y.2.1), max x.2.2 y.2.2) else none
def prs (F S : List Tr) : List En := F.flatMap fun x => one x S
theorem prs_mem {F S : List Tr} {e : En} : e ∈ prs F S ↔ ∃ x ∈ F, ∃ y ∈ S, y.1 = x.2.1 ∧ e = ((x.1, y.2.1), max x.2.2 y.2.2) := by
  unfold prs one
  rw [List.mem_flatMap]
  refine exists_congr fun x => and_congr_right fun _ => ?_
  rw [List.mem_filterMap]
  refine exists_congr fun y => and_congr_right fun _ => ?_
  split
  · rename_i h; simp [h, eq_comm]
  · rename_i h; simp [h]
theorem one_len (x : Tr) (S : List Tr) : (one x S).length ≤ S.length := List.length_filterMap_le _ _
theorem prs_len : ∀ (F S : List Tr), (prs F S).length ≤ F.length * S.length
  | [], _ => Nat.zero_le _
  | x :: F, S => by
    have a := one_len x S
    have b := prs_len F S
    show (one x S ++ prs F S).length ≤ _
    rw [List.length_append, List.length_cons, Nat.succ_mul]
    omega
theorem prs_next {F S : List Tr} {i : Nat} {x : Tr} (h : F[i]? = some x) : prs (F.take (i + 1)) S = prs (F.take i) S ++ one x S := by
  unfold prs
  rw [List.take_add_one, h, List.flatMap_append]
  simp
theorem one_next {S : List Tr} {i : Nat} {x y : Tr} (h : S[i]? = some y) : one x (S.take (i + 1)) = one x (S.take i) ++ (if y.1 = x.2.1 then [((x.1, y.2.1), max x.2.2 y.2.2)] else []) := by
  unfold one
  rw [List.take_add_one, h, List.filterMap_append]
  congr 1
  by_cases k : y.1 = x.2.1
  · simp [k]
  · simp [k]
theorem good_of {F S : List Tr} {es : List En} {ts : List Tr} (h : Ends (prs F S) es) (m : ∀ t, t ∈ ts ↔ ((t.1, t.2.1), t.2.2) ∈ es) (srt : ts.Pairwise lt3) : Good F S ts := by
  refine ⟨srt, fun t => ?_, fun x hx y hy e => ?_⟩
  · rw [m]
    constructor
    · intro he
      obtain ⟨x, hx, y, hy, e, k⟩ := prs_mem.mp (h.from' _ he)
      simp only [Prod.mk.injEq] at k
      refine ⟨⟨x, hx, y, hy, e, ?_⟩, fun x' hx' y' hy' e' k1 k2 => ?_⟩
      · rw [← k.1.1, ← k.1.2, ← k.2]
      · exact h.top _ he _ (prs_mem.mpr ⟨x', hx', y', hy', e', rfl⟩) (by simp only [k1, k2])
    · rintro ⟨⟨x, hx, y, hy, e, rfl⟩, up⟩
      obtain ⟨v, hv⟩ := h.all _ (prs_mem.mpr ⟨x, hx, y, hy, e, rfl⟩)
      have le := h.top _ hv _ (prs_mem.mpr ⟨x, hx, y, hy, e, rfl⟩) rfl
      obtain ⟨x', hx', y', hy', e', k⟩ := prs_mem.mp (h.from' _ hv)
      simp only [Prod.mk.injEq] at k
      have := up x' hx' y' hy' e' k.1.1.symm k.1.2.symm
      simp only at this le ⊢
      have ev : v = max x.2.2 y.2.2 := by omega
      rw [← ev]
      exact hv
  · obtain ⟨v, hv⟩ := h.all _ (prs_mem.mpr ⟨x, hx, y, hy, e, rfl⟩)
    exact ⟨v, (m (x.1, y.2.1, v)).mpr hv⟩
theorem good_rows {F S : List Tr} {es : List En} (h : Ends (prs F S) es) : Good F S ((es.map tri).mergeSort le3) := by
  have pm := List.mergeSort_perm (es.map tri) le3
  refine good_of h (fun t => ?_) ?_
  · rw [pm.mem_iff, List.mem_map]
    constructor
    · rintro ⟨e, m, rfl⟩; exact m
    · intro m; exact ⟨_, m, rfl⟩
  · have nd : (((es.map tri).mergeSort le3).map fun t => (t.1, t.2.1)).Nodup := by
      rw [(pm.map fun t => (t.1, t.2.1)).nodup_iff, List.map_map]
      exact h.nd
    have p1 := rows_sorted (es.map tri)
    have p2 := List.pairwise_map.mp (List.nodup_iff_pairwise_ne.mp nd)
    refine (p1.and p2).imp fun {a b} k => ?_
    obtain ⟨k1, k2⟩ := k
    unfold le3 at k1
    rw [decide_eq_true_iff] at k1
    unfold lt3
    have : ¬ (a.1 = b.1 ∧ a.2.1 = b.2.1) := fun z => k2 (by rw [z.1, z.2])
    omega
theorem good_keys {F S : List Tr} {es : List En} (h : Ends (prs F S) es) : Good F S (((es.map (·.1)).mergeSort le2).map fun p => (p.1, p.2, getE es p)) := by
  have pm := List.mergeSort_perm (es.map (·.1)) le2
  have nd : ((es.map (·.1)).mergeSort le2).Nodup := pm.nodup_iff.mpr h.nd
  refine good_of h (fun t => ?_) ?_
  · rw [List.mem_map]
    constructor
    · rintro ⟨p, m, rfl⟩
      obtain ⟨e, me, rfl⟩ := List.mem_map.mp (pm.mem_iff.mp m)
      have g := get_mem h.nd (p := e.1) (v := e.2) me
      show ((e.1.1, e.1.2), getE es e.1) ∈ es
      unfold getE
      rw [g]
      exact me
    · intro m
      have g := get_mem h.nd m
      refine ⟨(t.1, t.2.1), pm.mem_iff.mpr (List.mem_map.mpr ⟨_, m, rfl⟩), ?_⟩
      unfold getE
      rw [g]; rfl
  · have p1 := keys_sorted (es.map (·.1))
    have p2 := List.nodup_iff_pairwise_ne.mp nd
    refine List.pairwise_map.mpr ((p1.and p2).imp fun {a b} k => ?_)
    obtain ⟨k1, k2⟩ := k
    unfold le2 at k1
    rw [decide_eq_true_iff] at k1
    unfold lt3
    have : ¬ (a.1 = b.1 ∧ a.2 = b.2) := fun z => k2 (Prod.ext z.1 z.2)
    simp only
    omega
def grD (o t : Str) (rs : List Tr) : PyData := .tuple [.str o, .str t, .tuple (rs.map rowD)]
theorem max3_e (a b c : Int) (Q : PyData → Prop) : max3Q [.int a, .int b, .int c] Q = Q (.int (max (max a b) c)) := rfl
theorem sorted_l (ds : List PyData) (Q : PyData → Prop) : sortedQ [.list ds] Q = ((SortOk ds ∧ PyData.hasDictAll ds = false) ∧ Q (.list (srtD ds))) := rfl
theorem sorted_d (x : PyData) (es : List (PyData × PyData)) (Q : PyData → Prop) : sortedQ [.dict ((.none, x) :: es)] Q = ((SortOk (es.map (·.1)) ∧ flatTs (es.map (·.1)) = true) ∧ Q (.list (srtD (es.map (·.1))))) := rfl
theorem dget_t (x : PyData) (es : List (PyData × PyData)) (p : Int × Int) : dgetW (.dict ((.none, x) :: es)) (keyD p) = ret (lookP es (keyD p)) := by
  funext Q
  have e : dgetW (.dict ((.none, x) :: es)) (keyD p) = dgT es (keyD p) := by
    unfold dgetW
    exact if_pos rfl
  rw [e]
  exact propext ⟨fun h => h.2, fun h => ⟨(by intro z; simp [keysP, keyP] at z), h⟩⟩
theorem getD_enc (es : List En) (p : Int × Int) : (Option.map (fun e : En => PyData.int e.2) (es.find? fun e => decide (e.1 = p))).getD (.int 0) = .int (getE es p) := by
  unfold getE
  cases es.find? fun e => decide (e.1 = p) <;> rfl
theorem m_then {o t o' t' : Str} {F S : List Tr} {Q : PyData → Prop} (hF : F.length ≤ 100) (hS : S.length ≤ 100) (hp : ∀ x ∈ F, 0 ≤ x.2.2) (q : ∀ ts, Good F S ts → ts.length ≤ F.length * S.length → Q (grD o t' ts)) : M_p_then [grD o t F, grD o' t' S] Q := by
  unfold M_p_then
  simp only [b_p_then]
  unfold grD at q ⊢
  walk_at "wp"
  have hFS : F.length * S.length ≤ 100 * 100 := Nat.mul_le_mul hF hS
  have few : ∀ i j x, (prs (F.take i) S ++ one x (S.take j)).length ≤ 20000 := fun i j x => by
    have a := prs_len (F.take i) S
    have b := one_len x (S.take j)
    have c : (F.take i).length * S.length ≤ F.length * S.length := Nat.mul_le_mul_right _ (by rw [List.length_take]; omega)
    rw [List.length_take] at b
    rw [List.length_append]; omega
  generalize hG1 : PyData.tuple [.str o, .str t, .tuple (F.map rowD)] = G1
  refine for_of rowD (st := fun a : List En × Sl × Sl × Sl × Sl × Sl × Sl × Sl => [.val G1, .val (.tuple [.str o', .str t', .tuple (S.map rowD)]), .dit (a.1.map encE), a.2.1, a.2.2.1, a.2.2.2.1, a.2.2.2.2.1, a.2.2.2.2.2.1, a.2.2.2.2.2.2.1, a.2.2.2.2.2.2.2, .un]) (I := fun i a => Ends (prs (F.take i) S) a.1 ∧ isOwn (some a.2.1) = false ∧ isOwn (some a.2.2.2.2.2.1) = false) ?_ ?_ (a := ([], .un, .un, .un, .un, .un, .un, .un)) ⟨⟨List.nodup_nil, fun _ m => (by cases m), fun _ m => (by cases m), fun _ m => (by cases m), Nat.le_refl _⟩, rfl, rfl⟩
  · rintro i x ⟨es, s3, s4, s5, s6, s7, s8, s9⟩ hx ⟨hI, h3, h7⟩ R hR hrt hbk
    simp only at hI h3 h7
    rw [show rowD x = PyData.tuple [.int x.1, .int x.2.1, .int x.2.2] from rfl]
    simp only [gT_e, gsCons_e, gsNil_e, gN_e, List.set_cons_succ, List.set_cons_zero]
    walk_at "wp"
    refine for_of rowD (st := fun a : List En × Sl × Sl × Sl × Sl => [.val G1, .val (.tuple [.str o', .str t', .tuple (S.map rowD)]), .dit (a.1.map encE), .val (.int x.1), .val (.int x.2.1), .val (.int x.2.2), a.2.1, a.2.2.1, a.2.2.2.1, a.2.2.2.2, .un]) (I := fun j a => Ends (prs (F.take i) S ++ one x (S.take j)) a.1 ∧ isOwn (some a.2.2.1) = false) ?_ ?_ (a := (es, s6, s7, s8, s9)) ⟨by simpa [one] using hI, h7⟩
    · rintro j y ⟨es, s6, s7, s8, s9⟩ hy ⟨hJ, h7⟩ R2 hR2 hrt2 hbk2
      simp only at hJ h7
      rw [show rowD y = PyData.tuple [.int y.1, .int y.2.1, .int y.2.2] from rfl]
      have onx := one_next (x := x) hy
      have fw := few i j x
      have hf := hJ.few
      generalize hG2 : PyData.tuple [.str o', .str t', .tuple (S.map rowD)] = G2 at hR2 ⊢
      clear hR hrt hbk hrt2 hbk2
      walk_at "wp"
      by_cases k : y.1 = x.2.1
      · rw [if_pos (decide_eq_true k)]
        show dgetW (.dict ((.none, .none) :: es.map encE)) (keyD (x.1, y.2.1)) _
        rw [dget_t, look_enc]
        show max3Q [(Option.map (fun e : En => PyData.int e.2) (es.find? fun e => decide (e.1 = (x.1, y.2.1)))).getD (.int 0), .int x.2.2, .int y.2.2] _
        rw [getD_enc, max3_e]
        refine ⟨_, rfl, by rw [List.length_map]; simp only [sizeLine]; omega, by simp [keysP, keyP], ?_⟩
        have pe : putP (es.map encE) (.tuple [.int x.1, .int y.2.1]) (.int (max (max (getE es (x.1, y.2.1)) x.2.2) y.2.2)) = (putE es (x.1, y.2.1) (max (getE es (x.1, y.2.1)) (max x.2.2 y.2.2))).map encE := by
          rw [show max (max (getE es (x.1, y.2.1)) x.2.2) y.2.2 = max (getE es (x.1, y.2.1)) (max x.2.2 y.2.2) by omega]
          exact put_enc es (x.1, y.2.1) _
        rw [pe]
        have px := hp x (List.mem_of_getElem? hx)
        exact (hR2 (putE es (x.1, y.2.1) (max (getE es (x.1, y.2.1)) (max x.2.2 y.2.2)), .val (.int y.1), .val (.int y.2.1), .val (.int y.2.2), .val (.tuple [.int x.1, .int y.2.1])) ⟨by rw [onx, if_pos k, ← List.append_assoc]; exact hJ.put (by omega), rfl⟩).1
      · rw [if_neg (by rw [decide_eq_false k]; exact Bool.false_ne_true)]
        exact (hR2 (es, .val (.int y.1), .val (.int y.2.1), .val (.int y.2.2), s9) ⟨by rw [onx, if_neg k, List.append_nil]; exact hJ, rfl⟩).1
    · rintro ⟨es, s6, s7, s8, s9⟩ ⟨hJ, h7⟩
      simp only at hJ h7
      rw [List.take_length, ← prs_next hx] at hJ
      exact (hR (es, .val (.int x.1), .val (.int x.2.1), .val (.int x.2.2), s6, s7, s8, s9) ⟨hJ, rfl, h7⟩).1
  · rintro ⟨es, s3, s4, s5, s6, s7, s8, s9⟩ ⟨hI, h3, h7⟩
    simp only at hI h3 h7
    rw [List.take_length] at hI
    subst hG1
    walk_at "wp"
    have hf := hI.few
    have hpl := prs_len F S
    refine ⟨⟨by rw [List.length_map]; simp only [sizeLine]; omega, ?_, fun e m => ?_⟩, ?_⟩
    · show (true && ((!isOwn (some s3)) && ((!isOwn (some s7)) && true))) = true
      rw [h3, h7]; rfl
    · obtain ⟨e', _, rfl⟩ := List.mem_map.mp m
      exact ⟨e'.2, rfl⟩
    · rw [List.map_map]
      refine lc_of (fun e : En => pairD (encE e)) (fun e => some (rowD (tri e))) (fun e m R r => ?_) ?_
      · unfold pairD encE keyD
        walk_at "wp"
        exact r
      · rw [filterMap_all _ (fun e : En => rowD (tri e)) (fun _ => rfl)]
        have em : es.map (fun e => rowD (tri e)) = (es.map tri).map rowD := by rw [List.map_map]; rfl
        rw [em, sorted_l, srt_rows]
        refine ⟨rows_ok _, ?_⟩
        walk_at "wp"
        exact q _ (good_rows hI) (by rw [List.length_mergeSort, List.length_map]; omega)
theorem m_l_then {o t o' t' : Str} {F S : List Tr} {Q : PyData → Prop} (hF : F.length ≤ 100) (hS : S.length ≤ 100) (hp : ∀ x ∈ F, 0 ≤ x.2.2) (q : ∀ ts, Good F S ts → ts.length ≤ F.length * S.length → Q (grD o t' ts)) : M_l_then [grD o t F, grD o' t' S] Q := by
  unfold M_l_then
  simp only [b_l_then]
  unfold grD at q ⊢
  walk_at "wp"
  have hFS : F.length * S.length ≤ 100 * 100 := Nat.mul_le_mul hF hS
  have few : ∀ i j x, (prs (F.take i) S ++ one x (S.take j)).length ≤ 20000 := fun i j x => by
    have a := prs_len (F.take i) S
    have b := one_len x (S.take j)
    have c : (F.take i).length * S.length ≤ F.length * S.length := Nat.mul_le_mul_right _ (by rw [List.length_take]; omega)
    rw [List.length_take] at b
    rw [List.length_append]; omega
  generalize hG1 : PyData.tuple [.str o, .str t, .tuple (F.map rowD)] = G1
  refine for_of rowD (st := fun a : List En × Sl × Sl × Sl => [.val G1, .val (.tuple [.str o', .str t', .tuple (S.map rowD)]), .dit (a.1.map encE), a.2.1, a.2.2.1, a.2.2.2]) (I := fun i a => Ends (prs (F.take i) S) a.1 ∧ isOwn (some a.2.2.2) = false) ?_ ?_ (a := ([], .un, .un, .un)) ⟨⟨List.nodup_nil, fun _ m => (by cases m), fun _ m => (by cases m), fun _ m => (by cases m), Nat.le_refl _⟩, rfl⟩
  · rintro i x ⟨es, s3, s4, s5⟩ hx ⟨hI, h5⟩ R hR hrt hbk
    simp only at hI h5
    simp only [gT_e, gsCons_e, gsNil_e, gN_e, List.set_cons_succ, List.set_cons_zero]
    walk_at "wp"
    refine for_of rowD (st := fun a : List En × Sl × Sl => [.val G1, .val (.tuple [.str o', .str t', .tuple (S.map rowD)]), .dit (a.1.map encE), .val (rowD x), a.2.1, a.2.2]) (I := fun j a => Ends (prs (F.take i) S ++ one x (S.take j)) a.1 ∧ isOwn (some a.2.2) = false) ?_ ?_ (a := (es, s4, s5)) ⟨by simpa [one] using hI, h5⟩
    · rintro j y ⟨es, s4, s5⟩ hy ⟨hJ, h5⟩ R2 hR2 hrt2 hbk2
      simp only at hJ h5
      have onx := one_next (x := x) hy
      have fw := few i j x
      have hf := hJ.few
      generalize hG2 : PyData.tuple [.str o', .str t', .tuple (S.map rowD)] = G2 at hR2 ⊢
      clear hR hrt hbk hrt2 hbk2
      simp only [gN_e, List.set_cons_succ, List.set_cons_zero]
      rw [show rowD y = PyData.tuple [.int y.1, .int y.2.1, .int y.2.2] from rfl]
      rw [show rowD x = PyData.tuple [.int x.1, .int x.2.1, .int x.2.2] from rfl] at hR2 ⊢
      walk_at "wp"
      by_cases k : y.1 = x.2.1
      · rw [if_pos (decide_eq_true k.symm)]
        show dgetW (.dict ((.none, .none) :: es.map encE)) (keyD (x.1, y.2.1)) _
        rw [dget_t, look_enc]
        show max3Q [(Option.map (fun e : En => PyData.int e.2) (es.find? fun e => decide (e.1 = (x.1, y.2.1)))).getD (.int 0), .int x.2.2, .int y.2.2] _
        rw [getD_enc, max3_e]
        refine ⟨_, rfl, by rw [List.length_map]; simp only [sizeLine]; omega, by simp [keysP, keyP], ?_⟩
        have pe : putP (es.map encE) (.tuple [.int x.1, .int y.2.1]) (.int (max (max (getE es (x.1, y.2.1)) x.2.2) y.2.2)) = (putE es (x.1, y.2.1) (max (getE es (x.1, y.2.1)) (max x.2.2 y.2.2))).map encE := by
          rw [show max (max (getE es (x.1, y.2.1)) x.2.2) y.2.2 = max (getE es (x.1, y.2.1)) (max x.2.2 y.2.2) by omega]
          exact put_enc es (x.1, y.2.1) _
        rw [pe]
        have px := hp x (List.mem_of_getElem? hx)
        exact (hR2 (putE es (x.1, y.2.1) (max (getE es (x.1, y.2.1)) (max x.2.2 y.2.2)), .val (.tuple [.int y.1, .int y.2.1, .int y.2.2]), .val (.tuple [.int x.1, .int y.2.1])) ⟨by rw [onx, if_pos k, ← List.append_assoc]; exact hJ.put (by omega), rfl⟩).1
      · rw [if_neg (by rw [decide_eq_false fun z => k z.symm]; exact Bool.false_ne_true)]
        exact (hR2 (es, .val (.tuple [.int y.1, .int y.2.1, .int y.2.2]), s5) ⟨by rw [onx, if_neg k, List.append_nil]; exact hJ, h5⟩).1
    · rintro ⟨es, s4, s5⟩ ⟨hJ, h5⟩
      simp only at hJ h5
      rw [List.take_length, ← prs_next hx] at hJ
      exact (hR (es, .val (rowD x), s4, s5) ⟨hJ, h5⟩).1
  · rintro ⟨es, s3, s4, s5⟩ ⟨hI, h5⟩
    simp only at hI h5
    rw [List.take_length] at hI
    subst hG1
    walk_at "wp"
    have hf := hI.few
    have hpl := prs_len F S
    have ek : (es.map encE).map (·.1) = (es.map (·.1)).map keyD := by rw [List.map_map, List.map_map]; rfl
    rw [sorted_d, ek, srt_keys]
    refine ⟨keys_ok _, ?_⟩
    walk_at "wp"
    refine ⟨⟨by rw [List.length_map, List.length_mergeSort, List.length_map]; simp only [sizeLine]; omega, by show ((!isOwn (some s5)) && true) = true; rw [h5]; rfl⟩, ?_⟩
    have pm := List.mergeSort_perm (es.map (·.1)) le2
    refine lc_of keyD (fun p => some (rowD (p.1, p.2, getE es p))) (fun p m R r => ?_) ?_
    · obtain ⟨e, me, rfl⟩ := List.mem_map.mp (pm.mem_iff.mp m)
      have g := get_mem hI.nd (p := e.1) (v := e.2) me
      have gv : getE es e.1 = e.2 := by unfold getE; rw [g]; rfl
      rw [gv] at r
      walk_at "wp"
      rw [dget_t, look_enc, g]
      simp only [ret_e, Option.map_some, atW_s]
      unfold keyD
      walk_at "wp"
      exact r
    · rw [filterMap_all _ (fun p : Int × Int => rowD (p.1, p.2, getE es p)) (fun _ => rfl)]
      have em : ((es.map (·.1)).mergeSort le2).map (fun p => rowD (p.1, p.2, getE es p)) = (((es.map (·.1)).mergeSort le2).map fun p => (p.1, p.2, getE es p)).map rowD := by rw [List.map_map]; rfl
      rw [em]
      exact q _ (good_keys hI) (by rw [List.length_map, List.length_mergeSort, List.length_map]; omega)
theorem draw_g {n : Int} {Q : PyData → Prop} (h0 : 0 < n) (h1 : n < 2 ^ 63) (h : ∀ k : Nat, (k : Int) < n → Q (.int k)) : up (mDraw [.int n]) Q :=
  up_of ⟨⟨h0, h1⟩, fun d d0 d1 => by
    obtain ⟨k, rfl⟩ := Int.eq_ofNat_of_zero_le d0
    exact h k d1⟩
theorem m_graph {o t : Str} {Q : PyData → Prop} (q : ∀ rs : List Tr, rs.length ≤ 9 → (∀ x ∈ rs, 0 ≤ x.2.2 ∧ x.2.2 ≤ 1 ∧ 0 ≤ x.1 ∧ x.1 ≤ 2 ∧ 0 ≤ x.2.1 ∧ x.2.1 ≤ 2) → Q (grD o t rs)) : M_l_drawn_graph [.str o, .str t] Q := by
  unfold M_l_drawn_graph
  simp only [b_l_drawn_graph]
  walk_at "wp"
  refine ⟨by omega, ?_⟩
  rw [show Int.toNat 3 = 3 from rfl]
  refine for_up (st := fun a : List Tr × Sl × Sl × Sl => [.pool, .val (.str o), .val (.str t), .lst (a.1.map rowD), a.2.1, a.2.2.1, a.2.2.2]) (I := fun i a => a.1.length ≤ 3 * i ∧ ∀ x ∈ a.1, 0 ≤ x.2.2 ∧ x.2.2 ≤ 1 ∧ 0 ≤ x.1 ∧ x.1 ≤ 2 ∧ 0 ≤ x.2.1 ∧ x.2.1 ≤ 2) ?_ ?_ (a := ([], .un, .un, .un)) ⟨Nat.zero_le _, fun _ m => by cases m⟩
  · rintro i ⟨rs, s4, s5, s6⟩ hi ⟨hI1, hI2⟩ R hR hrt hbk
    simp only at hI1 hI2
    simp only [gN_e, List.set_cons_succ, List.set_cons_zero]
    walk_at "wp"
    refine ⟨by omega, ?_⟩
    rw [show Int.toNat 3 = 3 from rfl]
    refine for_up (st := fun a : List Tr × Sl × Sl => [.pool, .val (.str o), .val (.str t), .lst (a.1.map rowD), .val (.int (i : Int)), a.2.1, a.2.2]) (I := fun j a => a.1.length ≤ 3 * i + j ∧ ∀ x ∈ a.1, 0 ≤ x.2.2 ∧ x.2.2 ≤ 1 ∧ 0 ≤ x.1 ∧ x.1 ≤ 2 ∧ 0 ≤ x.2.1 ∧ x.2.1 ≤ 2) ?_ ?_ (a := (rs, s5, s6)) ⟨by show rs.length ≤ 3 * i + 0; omega, hI2⟩
    · rintro j ⟨rs, s5, s6⟩ hj ⟨hJ1, hJ2⟩ R2 hR2 hrt2 hbk2
      simp only at hJ1 hJ2
      clear hR hrt hbk hrt2 hbk2
      simp only [gN_e, List.set_cons_succ, List.set_cons_zero]
      walk_at "wp"
      refine draw_g (by omega) (by omega) fun k hk => ?_
      walk_at "wp"
      by_cases h2 : (k : Int) < 2
      · rw [if_pos (decide_eq_true h2)]
        refine ⟨by rw [List.length_map]; simp only [sizeLine]; omega, ?_⟩
        have z := (hR2 (rs ++ [((i : Int), (j : Int), (k : Int))], .val (.int (j : Int)), .val (.int (k : Int))) ⟨by rw [List.length_append, List.length_singleton]; omega, fun x m => ?_⟩).1
        · rw [List.map_append] at z
          exact z
        · rcases List.mem_append.mp m with m | m
          · exact hJ2 x m
          · rw [List.mem_singleton.mp m]
            simp only
            omega
      · rw [if_neg (by rw [decide_eq_false h2]; exact Bool.false_ne_true)]
        exact (hR2 (rs, .val (.int (j : Int)), .val (.int (k : Int))) ⟨by show rs.length ≤ 3 * i + (j + 1); omega, hJ2⟩).1
    · rintro ⟨rs, s5, s6⟩ ⟨hJ1, hJ2⟩
      simp only at hJ1 hJ2
      exact (hR (rs, .val (.int (i : Int)), s5, s6) ⟨by show rs.length ≤ 3 * (i + 1); omega, hJ2⟩).1
  · rintro ⟨rs, s4, s5, s6⟩ ⟨hI1, hI2⟩
    simp only at hI1 hI2
    walk_at "wp"
    exact q rs (by omega) hI2
end Lq
namespace Lq
open PySem PySem.W L2
local macro_rules | `(tactic| walk_at "wp") => `(tactic| (try simp only [runQ_e, runQP_e, endQ_rt_e, endQ_nx_e, sSeq_e, sNil_e, thenO_nx, thenO_rt, thenO_bk, thenO_ct, bnd_e, ret_e, gd_e, bad_e, eVar_e, eOwn_e, slV_e, slO_e, eC_e, eOp_e, eTup_e, aNil_e, aCons_e, sSet_e, gN_e, gT_e, gsCons_e, gsNil_e, sRet_e, sIf_e, sExpr_e, tT_e, tTru_e, tNo_e, tBoth_e, tEither_e, eBoth_e, eEither_e, eNo_e, eIf_e, eCall_e, eFn_e, eFnP_e, slP_e, eSl_e, aPart_e, noPart_e, eIsi_e, isiD, eTy_e, tyQ_e, ty_n, ty_b, ty_i, ty_s, ty_l, ty_t, ty_d, eGet1_e, eGet2_e, eDget_e, eDin_e, sDnew_e, sPut_e, slD_e, sNew_e, lLst_e, slL_e, sApp_e, eL_e, sPop_e, sExt_e, sSetIx_e, lList_e, iSeq_e, iCall_e, eNeg_e, eChain_e, eBack_e, sFrz_e, frzR, frzS, sPutT_e, slDT_e, sDnewT_e, ite_ap, sFor_e, fLc_e, fDc_e, eD_e, tAll_e, asB_b, tru_n, tru_b, tru_i, tru_s, tru_l, tru_t, items_l, items_t, intOf_i, len_l, len_t, len_s, list_l, list_t, tuple_l, tuple_t, ix_t, ix_l, ix_s, atW_s, add_i, add_s, add_t, add_l, sub_i, mul_i, mod_i, fdiv_i, neg_i, pow_i, eRg1_e, rgW_e, Int.sub_zero, lt_i, le_i, gt_i, ge_i, lt_s, le_s, is_n, isNot_n, isN_n, isN_b, isN_i, isN_s, isN_l, isN_t, isN_d, eq_ii, eq_ss, eq_bb, eq_is, eq_si, eq_nn, eq_ni, eq_in, eq_ns, eq_sn, eq_tt, eq_ll, ne_ii, ne_ss, ne_bb, ne_is, ne_si, ne_nn, ne_ni, ne_in, ne_ns, ne_sn, ne_tt, ne_ll, sum_l, intsW_of, max_2, min_2, int_i, int_b, rng1_i, rng2_i, sl_t, sl_l, sl_s, back_t, back_l, back_0, keyP_i, keyP_s, keyW_i, keyW_s, kD_i, kD_s, List.map_cons, List.map_nil, List.length_cons, List.length_nil, List.cons_append, List.nil_append, List.replicate_succ, List.replicate_zero, List.getElem?_cons_zero, List.getElem?_cons_succ, List.set_cons_zero, List.set_cons_succ, List.reverse_cons, List.reverse_nil, Nat.zero_add, Nat.reduceSub, Nat.reduceAdd, reduceIte, if_true, if_false, Bool.not_true, Bool.not_false, Bool.true_eq_false, Bool.false_eq_true, ite_true, ite_false, String.reduceEq, ne_eq, not_false_eq_true, not_true_eq_false, reduceCtorEq, true_and, and_true, noOwn, isOwn, wipeR, List.all_cons, List.all_nil, Bool.and_self, at_zero, at_one, at_two, at_three, cut_1, cut_from, cut_from1, cut_upto, decide_true, decide_false, Int.toNat_natCast, upto_len, z_succ, z_succ_pos, z_pred, z_zero, z_zero_pos, List.drop_succ_cons, List.drop_zero, List.isEmpty_cons, List.isEmpty_nil, List.getLast?_concat, List.dropLast_concat, sz_0, sz_1, sz_2, sz_3, sz_4, sz_5, sz_6, sz_7, sz_8, sz_9, sz_10, sz_11, sz_12, sz_13, sz_14, sz_15, sz_16, sz_17, sz_18, sz_19, sz_20, kit_NoneType_bool, kit_NoneType_int, kit_NoneType_str, kit_NoneType_list, kit_NoneType_tuple, kit_bool_bool, kit_bool_int, kit_bool_str, kit_bool_list, kit_bool_tuple, kit_int_bool, kit_int_int, kit_int_str, kit_int_list, kit_int_tuple, kit_str_bool, kit_str_int, kit_str_str, kit_str_list, kit_str_tuple, kit_list_bool, kit_list_int, kit_list_str, kit_list_list, kit_list_tuple, kit_tuple_bool, kit_tuple_int, kit_tuple_str, kit_tuple_list, kit_tuple_tuple, eDisp_e, ppCons_e, ppNil_e, eListVals_e, lAdd_e, fLcIt_e, slO_d, slO_t, iStr_e, signsW_e, zipWl_e, zipWt_e, enumWl_e, allQl_e, anyQl_e, inS1_e]))
theorem gr_fine {o t : Str} {rs : List Tr} (ho : o.length ≤ 1000) (ht : t.length ≤ 1000) (hr : rs.length ≤ 1000) : dep (grD o t rs) < 10 ∧ nodes (grD o t rs) ≤ 2 ^ 20 ∧ plain (grD o t rs) = true := by
  have a : ∀ us : List Tr, depL (us.map rowD) ≤ 1 ∧ nodesL (us.map rowD) ≤ 4 * us.length ∧ plainL (us.map rowD) = true := by
    intro us
    induction us with
    | nil => exact ⟨Nat.zero_le _, Nat.zero_le _, rfl⟩
    | cons u us ih =>
      obtain ⟨i1, i2, i3⟩ := ih
      refine ⟨?_, ?_, ?_⟩
      · simp only [List.map_cons, rowD, depL, dep]; omega
      · simp only [List.map_cons, rowD, nodesL, nodes, List.length_cons]; omega
      · simp only [List.map_cons, rowD, plainL, plain, i3, Bool.and_self]
  obtain ⟨a1, a2, a3⟩ := a rs
  refine ⟨?_, ?_, ?_⟩
  · simp only [grD, dep, depL]; omega
  · simp only [grD, nodes, nodesL]; omega
  · simp only [grD, plain, plainL, a3, ho, ht, decide_true, Bool.and_self]
theorem ok_law : M_l_law (lawR 8 1) (fun o => o = .rt (.bool true)) := by
  unfold M_l_law
  have hgr := fun o t Q => @m_graph o t Q
  have hpt := fun o t o' t' F S Q => @m_then o t o' t' F S Q
  have hlt := fun o t o' t' F S Q => @m_l_then o t o' t' F S Q
  have sm : ∀ (o t : Str) (rs : List Tr) (Q : PyData → Prop), o.length ≤ 1000 → t.length ≤ 1000 → rs.length ≤ 1000 → Q (.bool true) → M_l_same [grD o t rs, grD o t rs] Q := fun o t rs Q h1 h2 h3 q => by
    obtain ⟨a, b, c⟩ := gr_fine h1 h2 h3
    exact same_self 10 _ _ a (Nat.le_trans b (by decide)) c q
  generalize M_l_drawn_graph = GR at hgr ⊢
  generalize M_p_then = PT at hpt ⊢
  generalize M_l_then = LT at hlt ⊢
  generalize M_l_same = SM at sm ⊢
  simp only [b_l_law, lawR]
  walk_at "wp"
  refine ⟨by omega, ?_⟩
  rw [show Int.toNat 4 = 4 from rfl]
  refine for_up (st := fun a : Sl × Sl × Sl × Sl × Sl × Sl => [.un, .pool, a.1, a.2.1, a.2.2.1, a.2.2.2.1, a.2.2.2.2.1, a.2.2.2.2.2]) (I := fun _ _ => True) ?_ ?_ (a := (.un, .un, .un, .un, .un, .un)) trivial
  · rintro i ⟨s2, s3, s4, s5, s6, s7⟩ hi _ R hR hrt hbk
    have nx : ∀ a b c d e f, R (.nx [.un, .pool, a, b, c, d, e, f]) := fun a b c d e f => (hR (a, b, c, d, e, f) trivial).1
    clear hR hrt hbk
    simp only [gN_e, List.set_cons_succ, List.set_cons_zero]
    walk_at "wp"
    refine up_of ⟨by omega, fun ws hl _ ok => ?_⟩
    have hl : ws.length = 4 := by omega
    obtain ⟨w0, w1, w2, w3, rfl⟩ : ∃ w0 w1 w2 w3, ws = [w0, w1, w2, w3] := by
      match ws, hl with
      | [a, b, c, d], _ => exact ⟨a, b, c, d, rfl⟩
    have k0 := (ok w0 (by simp)).2.1
    have k1 := (ok w1 (by simp)).2.1
    have k2 := (ok w2 (by simp)).2.1
    have k3 := (ok w3 (by simp)).2.1
    clear ok hl
    walk_at "wp"
    refine up_of (hgr w0 w1 _ fun A lA mA => ?_)
    walk_at "wp"
    refine up_of (hgr w1 w2 _ fun B lB mB => ?_)
    walk_at "wp"
    refine up_of (hgr w2 w3 _ fun D lD mD => ?_)
    walk_at "wp"
    have pA : ∀ x ∈ A, 0 ≤ x.2.2 := fun x m => (mA x m).1
    have pB : ∀ x ∈ B, 0 ≤ x.2.2 := fun x m => (mB x m).1
    have m9 : ∀ {F S : List Tr}, F.length ≤ 81 → S.length ≤ 9 → F.length * S.length ≤ 729 := fun h1 h2 => Nat.mul_le_mul h1 h2
    have m99 : ∀ {F S : List Tr}, F.length ≤ 9 → S.length ≤ 9 → F.length * S.length ≤ 81 := fun h1 h2 => Nat.mul_le_mul h1 h2
    have m98 : ∀ {F S : List Tr}, F.length ≤ 9 → S.length ≤ 81 → F.length * S.length ≤ 729 := fun h1 h2 => Nat.mul_le_mul h1 h2
    refine up_of (hpt w0 w1 w1 w2 A B _ (by omega) (by omega) pA fun ab gab lab => ?_)
    have lab := Nat.le_trans lab (m99 lA lB)
    have pab : ∀ x ∈ ab, 0 ≤ x.2.2 := fun x m => by
      obtain ⟨⟨y, hy, z, hz, e, rfl⟩, _⟩ := (gab.mem x).mp m
      have := pA y hy
      simp only
      omega
    refine up_of (hlt w0 w1 w1 w2 A B _ (by omega) (by omega) pA fun ab2 g2 _ => ?_)
    rw [g2.one gab]
    refine up_of (sm w0 w2 ab _ (by omega) (by omega) (by omega) ?_)
    walk_at "wp"
    refine up_of (hpt w1 w2 w2 w3 B D _ (by omega) (by omega) pB fun bc gbc lbc => ?_)
    have lbc := Nat.le_trans lbc (m99 lB lD)
    refine up_of (hlt w1 w2 w2 w3 B D _ (by omega) (by omega) pB fun bc2 g3 _ => ?_)
    rw [g3.one gbc]
    refine up_of (sm w1 w3 bc _ (by omega) (by omega) (by omega) ?_)
    walk_at "wp"
    refine up_of (hpt w0 w2 w2 w3 ab D _ (by omega) (by omega) pab fun l gl ll => ?_)
    have ll := Nat.le_trans ll (m9 lab lD)
    refine up_of (hpt w1 w2 w2 w3 B D _ (by omega) (by omega) pB fun bd gbd lbd => ?_)
    have lbd := Nat.le_trans lbd (m99 lB lD)
    refine up_of (hpt w0 w1 w1 w3 A bd _ (by omega) (by omega) pA fun r gr lr => ?_)
    rw [Good.assoc gab gbd gl gr]
    have lr := Nat.le_trans lr (m98 lA lbd)
    refine up_of (sm w0 w3 r _ (by omega) (by omega) (by omega) ?_)
    walk_at "wp"
    exact nx _ _ _ _ _ _
  · rintro ⟨s2, s3, s4, s5, s6, s7⟩ _
    walk_at "wp"
end Lq
namespace Cf
open PySem L2 Lq
abbrev sLaw : Stmt := Lq.s_l_law
section
theorem all_mk {l : PySem.W.OpenLaw} {w : World} {K : PySem.W.Frag} {h : Heap} {mg : Str → Option Value} {fa fPool fSpread fDraw fSpelled fWords f_l_same f_p_then f_l_then f_l_drawn_graph fLaw : Addr} (X : K.In h) (G : h.Ns mainGlobals mg) (hfa : mg "law" = some (.ref fa))
    {odPool anPool odSpread anSpread odDraw anDraw odSpelled anSpelled odWords anWords od_l_same an_l_same od_p_then an_p_then od_l_then an_l_then od_l_drawn_graph an_l_drawn_graph odLaw anLaw : Option Addr} {slPool slSpread slDraw slSpelled slWords sl_l_same sl_p_then sl_l_then sl_l_drawn_graph slLaw : Array (Option Value)} {ocPool kVPool dcPool pmPool cdPool ctPool ocSpread kVSpread dcSpread pmSpread cdSpread ctSpread ocDraw kVDraw dcDraw pmDraw cdDraw ctDraw ocSpelled kVSpelled dcSpelled pmSpelled cdSpelled ctSpelled ocWords kVWords dcWords pmWords cdWords ctWords oc_l_same kV_l_same dc_l_same pm_l_same cd_l_same ct_l_same oc_p_then kV_p_then dc_p_then pm_p_then cd_p_then ct_p_then oc_l_then kV_l_then dc_l_then pm_l_then cd_l_then ct_l_then oc_l_drawn_graph kV_l_drawn_graph dc_l_drawn_graph pm_l_drawn_graph cd_l_drawn_graph ct_l_drawn_graph ocLaw kVLaw dcLaw pmLaw cdLaw ctLaw : Value}
    (aPool : PySem.W.nsIn K mainGlobals "_law_pool" = some (some (.ref fPool)))
    (lPool : K.lookup fPool = some ⟨ocPool, odPool, .func (PySem.W.fnOf "_law_pool" "_law_pool" (defArgs sPool) (defBody sPool) (defScope sPool) .none kVPool dcPool pmPool anPool cdPool ctPool), slPool⟩)
    (cPool : PySem.W.codeIn K cdPool "_law_pool" = true) (kPool : PySem.W.keepIn K (.ref fPool) = true)
    (aSpread : PySem.W.nsIn K mainGlobals "_law_spread" = some (some (.ref fSpread)))
    (lSpread : K.lookup fSpread = some ⟨ocSpread, odSpread, .func (PySem.W.fnOf "_law_spread" "_law_spread" (defArgs sSpread) (defBody sSpread) (defScope sSpread) .none kVSpread dcSpread pmSpread anSpread cdSpread ctSpread), slSpread⟩)
    (cSpread : PySem.W.codeIn K cdSpread "_law_spread" = true) (kSpread : PySem.W.keepIn K (.ref fSpread) = true)
    (aDraw : PySem.W.nsIn K mainGlobals "_law_draw" = some (some (.ref fDraw)))
    (lDraw : K.lookup fDraw = some ⟨ocDraw, odDraw, .func (PySem.W.fnOf "_law_draw" "_law_draw" (defArgs sDraw) (defBody sDraw) (defScope sDraw) .none kVDraw dcDraw pmDraw anDraw cdDraw ctDraw), slDraw⟩)
    (cDraw : PySem.W.codeIn K cdDraw "_law_draw" = true) (kDraw : PySem.W.keepIn K (.ref fDraw) = true)
    (aSpelled : PySem.W.nsIn K mainGlobals "_law_spelled" = some (some (.ref fSpelled)))
    (lSpelled : K.lookup fSpelled = some ⟨ocSpelled, odSpelled, .func (PySem.W.fnOf "_law_spelled" "_law_spelled" (defArgs sSpelled) (defBody sSpelled) (defScope sSpelled) .none kVSpelled dcSpelled pmSpelled anSpelled cdSpelled ctSpelled), slSpelled⟩)
    (cSpelled : PySem.W.codeIn K cdSpelled "_law_spelled" = true) (kSpelled : PySem.W.keepIn K (.ref fSpelled) = true)
    (aWords : PySem.W.nsIn K mainGlobals "_law_words" = some (some (.ref fWords)))
    (lWords : K.lookup fWords = some ⟨ocWords, odWords, .func (PySem.W.fnOf "_law_words" "_law_words" (defArgs sWords) (defBody sWords) (defScope sWords) .none kVWords dcWords pmWords anWords cdWords ctWords), slWords⟩)
    (cWords : PySem.W.codeIn K cdWords "_law_words" = true) (kWords : PySem.W.keepIn K (.ref fWords) = true)
    (a_l_same : PySem.W.nsIn K mainGlobals "_law_same" = some (some (.ref f_l_same)))
    (l_l_same : K.lookup f_l_same = some ⟨oc_l_same, od_l_same, .func (PySem.W.fnOf "_law_same" "_law_same" (defArgs s_l_same) (defBody s_l_same) (defScope s_l_same) .none kV_l_same dc_l_same pm_l_same an_l_same cd_l_same ct_l_same), sl_l_same⟩)
    (c_l_same : PySem.W.codeIn K cd_l_same "_law_same" = true) (k_l_same : PySem.W.keepIn K (.ref f_l_same) = true)
    (a_p_then : PySem.W.nsIn K mainGlobals "then" = some (some (.ref f_p_then)))
    (l_p_then : K.lookup f_p_then = some ⟨oc_p_then, od_p_then, .func (PySem.W.fnOf "then" "then" (defArgs s_p_then) (defBody s_p_then) (defScope s_p_then) .none kV_p_then dc_p_then pm_p_then an_p_then cd_p_then ct_p_then), sl_p_then⟩)
    (c_p_then : PySem.W.codeIn K cd_p_then "then" = true) (k_p_then : PySem.W.keepIn K (.ref f_p_then) = true)
    (a_l_then : PySem.W.nsIn K mainGlobals "_law_then" = some (some (.ref f_l_then)))
    (l_l_then : K.lookup f_l_then = some ⟨oc_l_then, od_l_then, .func (PySem.W.fnOf "_law_then" "_law_then" (defArgs s_l_then) (defBody s_l_then) (defScope s_l_then) .none kV_l_then dc_l_then pm_l_then an_l_then cd_l_then ct_l_then), sl_l_then⟩)
    (c_l_then : PySem.W.codeIn K cd_l_then "_law_then" = true) (k_l_then : PySem.W.keepIn K (.ref f_l_then) = true)
    (a_l_drawn_graph : PySem.W.nsIn K mainGlobals "_law_drawn_graph" = some (some (.ref f_l_drawn_graph)))
    (l_l_drawn_graph : K.lookup f_l_drawn_graph = some ⟨oc_l_drawn_graph, od_l_drawn_graph, .func (PySem.W.fnOf "_law_drawn_graph" "_law_drawn_graph" (defArgs s_l_drawn_graph) (defBody s_l_drawn_graph) (defScope s_l_drawn_graph) .none kV_l_drawn_graph dc_l_drawn_graph pm_l_drawn_graph an_l_drawn_graph cd_l_drawn_graph ct_l_drawn_graph), sl_l_drawn_graph⟩)
    (c_l_drawn_graph : PySem.W.codeIn K cd_l_drawn_graph "_law_drawn_graph" = true) (k_l_drawn_graph : PySem.W.keepIn K (.ref f_l_drawn_graph) = true)
    (aLaw : PySem.W.nsIn K mainGlobals "law" = some (some (.ref fLaw)))
    (lLaw : K.lookup fLaw = some ⟨ocLaw, odLaw, .func (PySem.W.fnOf "law" "law" (defArgs sLaw) (defBody sLaw) (defScope sLaw) .none kVLaw dcLaw pmLaw anLaw cdLaw ctLaw), slLaw⟩)
    (cLaw : PySem.W.codeIn K cdLaw "law" = true) (kLaw : PySem.W.keepIn K (.ref fLaw) = true)
    (z0 : PySem.W.nsIn K mainGlobals "int" = some none)
    (z1 : PySem.W.nsIn K mainGlobals "len" = some none)
    (z2 : PySem.W.nsIn K mainGlobals "range" = some none)
    (z3 : PySem.W.nsIn K mainGlobals "list" = some none)
    (z4 : PySem.W.nsIn K mainGlobals "tuple" = some none)
    (z5 : PySem.W.nsIn K mainGlobals "isinstance" = some none)
    (z6 : PySem.W.nsIn K mainGlobals "bool" = some none)
    (z7 : PySem.W.nsIn K mainGlobals "str" = some none)
    (z8 : PySem.W.nsIn K mainGlobals "type" = some none)
    (z9 : PySem.W.nsIn K mainGlobals "max" = some none)
    (z10 : PySem.W.nsIn K mainGlobals "sum" = some none)
    (z11 : PySem.W.nsIn K mainGlobals "set" = some none)
    (z12 : PySem.W.nsIn K mainGlobals "dict" = some none)
    (z13 : PySem.W.nsIn K mainGlobals "sorted" = some none)
    (z14 : PySem.W.nsIn K mainGlobals "enumerate" = some none)
    (z15 : PySem.W.nsIn K mainGlobals "zip" = some none)
    (z16 : PySem.W.nsIn K mainGlobals "all" = some none)
    (z17 : PySem.W.nsIn K mainGlobals "repr" = some none)
    (z18 : PySem.W.nsIn K mainGlobals "min" = some none)
    : ∃ fd : FuncData, (∀ (s : Shared) (v : Value), BindsTo s fd ⟨[v], []⟩ [("script", v)]) ∧ ∀ base : Heap, K.In base → base.Ns mainGlobals mg → Cr.RunsG l.prog w K mg base 11 fa fd ["script"] (spLaw K) := by
  have e := hfa.symm.trans (PySem.W.mg_of X G aLaw)
  cases e
  have FPool := fun_mk (st := sPool) lPool cPool kPool
  have FSpread := fun_mk (st := sSpread) lSpread cSpread kSpread
  have FDraw := fun_mk (st := sDraw) lDraw cDraw kDraw
  have FSpelled := fun_mk (st := sSpelled) lSpelled cSpelled kSpelled
  have FWords := fun_mk (st := sWords) lWords cWords kWords
  have F_l_same := fun_mk (st := s_l_same) l_l_same c_l_same k_l_same
  have F_p_then := fun_mk (st := s_p_then) l_p_then c_p_then k_p_then
  have F_l_then := fun_mk (st := s_l_then) l_l_then c_l_then k_l_then
  have F_l_drawn_graph := fun_mk (st := s_l_drawn_graph) l_l_drawn_graph c_l_drawn_graph k_l_drawn_graph
  have FLaw := fun_mk (st := sLaw) lLaw cLaw kLaw
  have bPool := FPool.binds (ps := ["script"]) fun _ _ _ _ _ _ us hl => match us, hl with | [_], _ => rfl
  have mPool := PySem.W.mg_of X G aPool
  have bSpread := FSpread.binds (ps := ["cell"]) fun _ _ _ _ _ _ us hl => match us, hl with | [_], _ => rfl
  have mSpread := PySem.W.mg_of X G aSpread
  have bDraw := FDraw.binds (ps := ["pool", "many"]) fun _ _ _ _ _ _ us hl => match us, hl with | [_, _], _ => rfl
  have mDraw := PySem.W.mg_of X G aDraw
  have bSpelled := FSpelled.binds (ps := ["number"]) fun _ _ _ _ _ _ us hl => match us, hl with | [_], _ => rfl
  have mSpelled := PySem.W.mg_of X G aSpelled
  have bWords := FWords.binds (ps := ["pool", "many"]) fun _ _ _ _ _ _ us hl => match us, hl with | [_, _], _ => rfl
  have mWords := PySem.W.mg_of X G aWords
  have b_l_same := F_l_same.binds (ps := ["actual", "due"]) fun _ _ _ _ _ _ us hl => match us, hl with | [_, _], _ => rfl
  have m_l_same := PySem.W.mg_of X G a_l_same
  have b_p_then := F_p_then.binds (ps := ["first", "second"]) fun _ _ _ _ _ _ us hl => match us, hl with | [_, _], _ => rfl
  have m_p_then := PySem.W.mg_of X G a_p_then
  have b_l_then := F_l_then.binds (ps := ["first", "second"]) fun _ _ _ _ _ _ us hl => match us, hl with | [_, _], _ => rfl
  have m_l_then := PySem.W.mg_of X G a_l_then
  have b_l_drawn_graph := F_l_drawn_graph.binds (ps := ["pool", "one", "two"]) fun _ _ _ _ _ _ us hl => match us, hl with | [_, _, _], _ => rfl
  have m_l_drawn_graph := PySem.W.mg_of X G a_l_drawn_graph
  have B : Blt mg := ⟨PySem.W.mg_none_of X G z0, PySem.W.mg_none_of X G z1, PySem.W.mg_none_of X G z2, PySem.W.mg_none_of X G z3, PySem.W.mg_none_of X G z4, PySem.W.mg_none_of X G z5, PySem.W.mg_none_of X G z6, PySem.W.mg_none_of X G z7, PySem.W.mg_none_of X G z8, PySem.W.mg_none_of X G z9, PySem.W.mg_none_of X G z10, PySem.W.mg_none_of X G z11, PySem.W.mg_none_of X G z12, PySem.W.mg_none_of X G z13, PySem.W.mg_none_of X G z14, PySem.W.mg_none_of X G z15, PySem.W.mg_none_of X G z16, PySem.W.mg_none_of X G z17, PySem.W.mg_none_of X G z18⟩
  refine ⟨PySem.W.fnOf "law" "law" (defArgs sLaw) (defBody sLaw) (defScope sLaw) .none kVLaw dcLaw pmLaw anLaw cdLaw ctLaw, fun s v => .of_eq rfl, fun base _ _ => ?_⟩
  have GPool := ok_pool (P := l.prog) (w := w) (mg := mg) (base := base) FPool B
  have APool : At l.prog w K mg base "_law_pool" _ _ _ := ⟨fPool, _, GPool, bPool, kPool, mPool⟩
  have GSpread := ok_spread (P := l.prog) (w := w) (mg := mg) (base := base) FSpread B
  have ASpread : At l.prog w K mg base "_law_spread" _ _ _ := ⟨fSpread, _, GSpread, bSpread, kSpread, mSpread⟩
  have GDraw := ok_draw FDraw B GSpread bSpread kSpread mSpread
  have ADraw : At l.prog w K mg base "_law_draw" _ _ _ := ⟨fDraw, _, GDraw, bDraw, kDraw, mDraw⟩
  have Q_l_draw := Lq.conv_draw ADraw
  have GSpelled := ok_spelled (P := l.prog) (w := w) (mg := mg) (base := base) FSpelled B
  have ASpelled : At l.prog w K mg base "_law_spelled" _ _ _ := ⟨fSpelled, _, GSpelled, bSpelled, kSpelled, mSpelled⟩
  have GWords := ok_words FWords B GDraw bDraw kDraw mDraw GSpelled bSpelled kSpelled mSpelled
  have AWords : At l.prog w K mg base "_law_words" _ _ _ := ⟨fWords, _, GWords, bWords, kWords, mWords⟩
  have Q_l_words := Lq.conv_words AWords
  have G_l_same := Lq.q_l_same (P := l.prog) (w := w) (base := base) (lv := 0) F_l_same B b_l_same m_l_same   10
  have A_l_same : At l.prog w K mg base "_law_same" _ _ _ := ⟨f_l_same, _, G_l_same, b_l_same, k_l_same, m_l_same⟩
  have Q_l_same : Cf.At l.prog w K mg base "_law_same" 10 ["actual", "due"] (Lq.spQ 2 Lq.M_l_same) := A_l_same
  have G_p_then := Lq.q_p_then (P := l.prog) (w := w) (base := base) (lv := 0) F_p_then B  
  have A_p_then : At l.prog w K mg base "then" _ _ _ := ⟨f_p_then, _, G_p_then, b_p_then, k_p_then, m_p_then⟩
  have Q_p_then : Cf.At l.prog w K mg base "then" 1 ["first", "second"] (Lq.spQ 2 Lq.M_p_then) := A_p_then
  have G_l_then := Lq.q_l_then (P := l.prog) (w := w) (base := base) (lv := 0) F_l_then B  
  have A_l_then : At l.prog w K mg base "_law_then" _ _ _ := ⟨f_l_then, _, G_l_then, b_l_then, k_l_then, m_l_then⟩
  have Q_l_then : Cf.At l.prog w K mg base "_law_then" 1 ["first", "second"] (Lq.spQ 2 Lq.M_l_then) := A_l_then
  have G_l_drawn_graph := Lq.q_l_drawn_graph (P := l.prog) (w := w) (base := base) (lv := 2) F_l_drawn_graph B Q_l_draw (by decide) 
  have A_l_drawn_graph : At l.prog w K mg base "_law_drawn_graph" _ _ _ := ⟨f_l_drawn_graph, _, G_l_drawn_graph, b_l_drawn_graph, k_l_drawn_graph, m_l_drawn_graph⟩
  have Q_l_drawn_graph : Cf.At l.prog w K mg base "_law_drawn_graph" 3 ["pool", "one", "two"] (Lq.spQP 2 Lq.M_l_drawn_graph) := A_l_drawn_graph
  exact Lq.q_l_law (P := l.prog) (w := w) (base := base) (lv := 10) FLaw B APool (by decide) Q_l_words (by decide) Q_l_drawn_graph (by decide) Q_p_then (by decide) Q_l_same (by decide) Q_l_then (by decide)  Lq.ok_law
theorem walk {l : PySem.W.OpenLaw} {q : Program} {loose : List Str} {XP : (Str → Option Value) → Heap → Prop} {YP : World → Heap → Prop} {d : DefRec} {K : Params → PySem.W.Frag} (hn : l.most = some 63) (hdf : d.params.defaults = [])
    (hY : ∀ (w : World) (h : Heap), YP w h → (K w.params).In h)
    (F : ∀ (w : World) (mg : Str → Option Value) (fa : Addr) (h : Heap), (K w.params).In h → h.Ns mainGlobals mg → mg d.name = some (.ref fa) →
      ∃ fd : FuncData, (∀ (s : Shared) (u : Value), BindsTo s fd ⟨[u], []⟩ [("script", u)]) ∧ ∀ base : Heap, (K w.params).In base → base.Ns mainGlobals mg → Cr.RunsG l.prog w (K w.params) mg base 11 fa fd ["script"] (spLaw (K w.params))) :
    PySem.W.WalkO q loose XP YP l.row.toRowW d [] (fun f vs => PySem.call f vs) :=
  Cr.walk_g (n := 63) (k := 11) (x := "script") (sp := fun w => spLaw (K w.params)) hn (by decide) hdf ⟨rfl, by decide, by decide⟩ hY F (fun _ _ a ns hl _ hS => ⟨a, ns, rfl, hS, hl, fun _ => rfl⟩)
end
end Cf
open PySem PySem.W PyProof.Rows
set_option maxRecDepth 100000 in
set_option maxHeartbeats 0 in
theorem PySem.Challenge.cw_casefamilies_k70_graphs_joined_holds : PySem.Challenge.rw_casefamilies_k70_graphs_joined.Holds := by
  w_on; o_law; k_head; (case hw => w_witness2)
  k_fill
  refine Cf.walk (l := PySem.Challenge.rw_casefamilies_k70_graphs_joined) rfl rfl (fun w h Y => PySem.W.kIn_of Y) ?F
  case F =>
    intro w mg fa h KX G hmg
    refine' Cf.all_mk KX G hmg ?aPool ?lPool ?cPool ?kPool ?aSpread ?lSpread ?cSpread ?kSpread ?aDraw ?lDraw ?cDraw ?kDraw ?aSpelled ?lSpelled ?cSpelled ?kSpelled ?aWords ?lWords ?cWords ?kWords ?a_l_same ?l_l_same ?c_l_same ?k_l_same ?a_p_then ?l_p_then ?c_p_then ?k_p_then ?a_l_then ?l_l_then ?c_l_then ?k_l_then ?a_l_drawn_graph ?l_l_drawn_graph ?c_l_drawn_graph ?k_l_drawn_graph ?aLaw ?lLaw ?cLaw ?kLaw ?z0 ?z1 ?z2 ?z3 ?z4 ?z5 ?z6 ?z7 ?z8 ?z9 ?z10 ?z11 ?z12 ?z13 ?z14 ?z15 ?z16 ?z17 ?z18 
    (case aPool => k_is); (case lPool => k_is); (case cPool => k_is); (case kPool => k_is)
    (case aSpread => k_is); (case lSpread => k_is); (case cSpread => k_is); (case kSpread => k_is)
    (case aDraw => k_is); (case lDraw => k_is); (case cDraw => k_is); (case kDraw => k_is)
    (case aSpelled => k_is); (case lSpelled => k_is); (case cSpelled => k_is); (case kSpelled => k_is)
    (case aWords => k_is); (case lWords => k_is); (case cWords => k_is); (case kWords => k_is)
    (case a_l_same => k_is); (case l_l_same => k_is); (case c_l_same => k_is); (case k_l_same => k_is)
    (case a_p_then => k_is); (case l_p_then => k_is); (case c_p_then => k_is); (case k_p_then => k_is)
    (case a_l_then => k_is); (case l_l_then => k_is); (case c_l_then => k_is); (case k_l_then => k_is)
    (case a_l_drawn_graph => k_is); (case l_l_drawn_graph => k_is); (case c_l_drawn_graph => k_is); (case k_l_drawn_graph => k_is)
    (case aLaw => k_is); (case lLaw => k_is); (case cLaw => k_is); (case kLaw => k_is)
    (case z0 => k_is)
    (case z1 => k_is)
    (case z2 => k_is)
    (case z3 => k_is)
    (case z4 => k_is)
    (case z5 => k_is)
    (case z6 => k_is)
    (case z7 => k_is)
    (case z8 => k_is)
    (case z9 => k_is)
    (case z10 => k_is)
    (case z11 => k_is)
    (case z12 => k_is)
    (case z13 => k_is)
    (case z14 => k_is)
    (case z15 => k_is)
    (case z16 => k_is)
    (case z17 => k_is)
    (case z18 => k_is)
