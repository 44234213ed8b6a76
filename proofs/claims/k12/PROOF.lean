import PyProof.Rows.All
import Wide.All
import OpenK.AllK
import Wide.FinOn
import HandS.ForMost
import HandS.Wide
import HandS.IsInst
import HandS.Zip
import HandS.TupAny
import HandS.Evl
import HandS.Codes
import HandS.Walk
import HandS.Conv
import HandS.DictComp
import HandS.More
import HandS.Exc
import HandS.ExcOwn
import HandS.TryOnly
import HandS.WordsExc
import KE.KDictZip
import KE.KItemsList
import PyProof.ReprReads
import PyProof.ReprText
import PyProof.StrLawsRepr
import HandS.Style
import HandS.Records
import HandS.Flow
import HandS.Text
import HandS.Deep
import HandS.FStr
import HandS.TupMul
import HandS.Iter
import HandS.TupLen
import PyProof.TypeOfCall
import HandS.Flt
import PyProof.ReprRoads
import PyProof.CallFns
import HandS.Dict
import KE.KDictList
import KE.SortData
import KE.KDictSum
import HandS.DictTup
import HandS.Star
import KE.GoesEnum
import PyProof.DictMoreH
import HandS.SetKeys
import PySem.Challenge.RW_casefamilies_k12_joins
set_option Elab.async false
set_option linter.unusedVariables false
set_option linter.unusedSimpArgs false
set_option maxRecDepth 100000
set_option maxHeartbeats 4000000
namespace Cf
open PySem L2
def top (i : Nat) : Stmt := PySem.Challenge.pw_casefamilies_k12_joins.main.body.getD i (.Pass ⟨0, 0, 0, 0⟩)
/-- the built-in names that the text leaves as they are -/
structure Blt (mg : Str → Option Value) : Prop where
  int : mg "int" = none
  len : mg "len" = none
  range : mg "range" = none
  list : mg "list" = none
  tuple : mg "tuple" = none
  isinstance : mg "isinstance" = none
  bool : mg "bool" = none
  str : mg "str" = none
  type : mg "type" = none
  max : mg "max" = none
  sum : mg "sum" = none
  set : mg "set" = none
  dict : mg "dict" = none
  sorted : mg "sorted" = none
  enumerate : mg "enumerate" = none
  zip : mg "zip" = none
  all : mg "all" = none
  repr : mg "repr" = none
  min : mg "min" = none
/-- all but what stands at a is as it was -/
def But (a : Addr) (H H' : Hp) : Prop := ∀ b o, b ≠ a → H b = some o → H' b = some o
theorem But.refl (a : Addr) (H : Hp) : But a H H := fun _ _ _ h => h
theorem But.trans {a : Addr} {H H1 H2 : Hp} (x : But a H H1) (y : But a H1 H2) : But a H H2 := fun b o n h => y b o n (x b o n h)
theorem But.of {a : Addr} {H H' : Hp} (x : Same H H') : But a H H' := fun b o _ h => x b o h
theorem But.put {a : Addr} {H : Hp} {o : HO} : But a H (upd H a o) := fun b u n h => by rw [upd_ne n]; exact h
theorem same_new {H : Hp} {p : Addr} (h : H p = none) (o : HO) : Same H (upd H p o) := fun b u q => by rw [upd_ne (ne_of_none q h)]; exact q
/-- the pool of a law stands at a: the script's list, a place in it, the rest of a number, how often was drawn, the salt -/
def PoolAt (H : Hp) (a b : Addr) : Prop := ∃ (ns : List Int) (i v c salt : Int), H a = some (.lst [.ref b, .int i, .int v, .int c, .int salt]) ∧ H b = some (.lst (ns.map V.int)) ∧ ns.length ≤ 63 ∧ 0 ≤ i
theorem pool_ne {a b : Addr} {H : Hp} {ns : List Int} {xs : List V} {c : Addr} (h : H a = some (.lst (.ref c :: xs))) (h' : H b = some (.lst (ns.map V.int))) : a ≠ b := by
  refine ne_of h h' fun e => ?_
  cases ns with
  | nil => cases e
  | cons n r => cases e
def spDraw : Sp := fun vs H Q _ => ∃ (a b : Addr) (many : Int), vs = [.ref a, .int many] ∧ PoolAt H a b ∧ 0 < many ∧ many < 2 ^ 63 ∧
  ∀ (d : Int) (H' : Hp), 0 ≤ d → d < many → PoolAt H' a b → But a H H' → Q (.int d) H'
/-- what a def is to the text: where it stands, what it promises -/
structure At (P : Program) (w : World) (K : PySem.W.Frag) (mg : Str → Option Value) (base : Heap) (x : Str) (k : Nat) (ps : List Str) (sp : Sp) : Prop where
  ex : ∃ (f : Addr) (fd : FuncData), FnOk P w K mg base CX0 k f fd ps sp ∧ Binds K fd ps [] ∧ PySem.W.keepIn K (.ref f) = true ∧ mg x = some (.ref f)
def spLaw (K : PySem.W.Frag) : Sp := fun vs H Q _ => ∃ (a : Addr) (ns : List Int), vs = [.ref a] ∧ SqL K H a (ns.map V.int) ∧ ns.length ≤ 63 ∧ ∀ H', Q (.bl true) H'
theorem none_left {P : Program} {w : World} {K : PySem.W.Frag} {mg : Str → Option Value} {base : Heap} {k : Nat} {f : Addr} {fd : FuncData} {ps : List Str} {sp : Sp} (no : ∀ vs H Q E, ¬ sp vs H Q E) : FnOk P w K mg base CX0 k f fd ps sp :=
  ⟨fun vs H Q E h => absurd h (no vs H Q E), fun A outer s H args us vs Q E _ _ _ _ h => absurd h (no vs H Q E)⟩
end Cf
namespace Cf
open PySem L2
abbrev sSpread : Stmt := top 9
def spSpread : Sp := fun vs H Q _ => ∃ c : Int, vs = [.int c] ∧ ∀ t : Int, Q (.int t) H
section
variable {P : Program} {w : World} {K : PySem.W.Frag} {mg : Str → Option Value} {base : Heap}
theorem scSpread : FnScope ["cell", "mixed", "total", "k"] ["cell"] (defScope sSpread) := ⟨rfl, rfl, rfl, by decide +kernel, rfl, by decide +kernel, by decide +kernel⟩
theorem ok_spread {f : Addr} {fd : FuncData} (F : Fun K "_law_spread" "_law_spread" sSpread f fd) (B : Blt mg) : FnOk P w K mg base CX0 1 f fd ["cell"] spSpread := by
  refine F.ok scSpread (fun vs H Q E h => ?_) (fun cdv A outer s H vs Q E hr h => ?_)
  · obtain ⟨c, rfl, _⟩ := h
    rfl
  obtain ⟨c, rfl, q⟩ := h
  refine ⟨_, pss_cons (ps_set (i := 1) scSpread.nd rfl (.inl rfl) (pe_op op_mod (pe_callTy call_int1 (by rfl) B.int (by decide +kernel) (pa_cons (pv 0) pa_nil)) pe_int))
    (pss_cons (ps_set (i := 2) scSpread.nd rfl (.inl rfl) pe_int)
    (pss_cons (ps_for PassesOwn.never rfl (pi_range1 rfl B.range (pa_cons pe_int pa_nil)) (pg_name (i := 3) scSpread.nd rfl (.inl rfl))
      (pss_cons (ps_set (i := 1) scSpread.nd rfl (.inl rfl) (pe_op op_mod (pe_callTy call_int1 (by rfl) B.int (by decide +kernel)
          (pa_cons (pe_op op_add (pe_op op_add (pe_op op_mul (pv 1) pe_int) pe_int) (pv 3)) pa_nil)) pe_int))
      (pss_one (ps_set (i := 2) scSpread.nd rfl (.inl rfl) (pe_op op_add (pe_op op_mul (pv 2) pe_int) (pv 1))))))
    (pss_one (ps_ret (pv 2))))), ?_⟩
  refine ⟨_, rfl, .inl ⟨_, rfl, ?_⟩⟩
  refine ⟨_, _, rfl, rfl, (by show (0 : Int) < _; decide), ?_⟩
  refine ⟨_, rfl, (by decide), (by decide), ?_⟩
  refine for_range (n := 4) (fun i σ H' => H' = H ∧ ∃ (x m t : Int) (k : Option V), σ = [some (.int x), some (.int m), some (.int t), k]) ⟨rfl, _, _, _, _, rfl⟩ (fun i σ H' hi hp => ?_) (fun σ H' hp => ?_)
  · obtain ⟨rfl, x, m, t, k, rfl⟩ := hp
    refine ⟨_, rfl, _, _, rfl, rfl, .inr ⟨by decide, by decide⟩, _, _, rfl, rfl, _, rfl, _, _, rfl, rfl, .inl ⟨_, rfl, ?_⟩⟩
    refine ⟨_, _, rfl, rfl, (by show (0 : Int) < _; decide), ?_⟩
    refine ⟨_, rfl, _, _, rfl, rfl, .inr ⟨by decide, by decide⟩, _, rfl, _, _, rfl, rfl, ?_⟩
    exact ⟨rfl, _, _, _, _, rfl⟩
  · obtain ⟨rfl, x, m, t, k, rfl⟩ := hp
    exact ⟨_, rfl, q t⟩
end
end Cf
namespace Cf
open PySem L2
abbrev sDraw : Stmt := top 10
section
variable {P : Program} {w : World} {K : PySem.W.Frag} {mg : Str → Option Value} {base : Heap}
theorem scDraw : FnScope ["pool", "many", "cell", "mixed", "value"] ["pool", "many"] (defScope sDraw) := ⟨rfl, rfl, rfl, by decide +kernel, rfl, by decide +kernel, by decide +kernel⟩
theorem at0 {a b c d e : V} : atI [a, b, c, d, e] 0 = some a := rfl
theorem at1 {a b c d e : V} : atI [a, b, c, d, e] 1 = some b := rfl
theorem at2 {a b c d e : V} : atI [a, b, c, d, e] 2 = some c := rfl
theorem at3 {a b c d e : V} : atI [a, b, c, d, e] 3 = some d := rfl
theorem at4 {a b c d e : V} : atI [a, b, c, d, e] 4 = some e := rfl
theorem fits63 {m : Int} (h0 : 0 < m) (h : m < 2 ^ 63) (i : Int) : CDivW i m := wide_div (b := 63) h0 (by omega) (by decide) (by decide)
theorem ok_draw {f g : Addr} {fd gd : FuncData} (F : Fun K "_law_draw" "_law_draw" sDraw f fd) (B : Blt mg) (G : FnOk P w K mg base CX0 1 g gd ["cell"] spSpread) (bG : Binds K gd ["cell"] [])
    (kG : PySem.W.keepIn K (.ref g) = true) (mG : mg "_law_spread" = some (.ref g)) : FnOk P w K mg base CX0 2 f fd ["pool", "many"] spDraw := by
  refine F.ok scDraw (fun vs H Q E h => ?_) (fun cdv A outer s H vs Q E hr h => ?_)
  · obtain ⟨a, b, m, rfl, _⟩ := h
    rfl
  obtain ⟨a, b, m, rfl, ⟨ns, i, v, c, salt, ha, hb, hn, hi⟩, m0, m1, q⟩ := h
  have hab : a ≠ b := pool_ne ha hb
  refine ⟨_, Evl.pss_cut (ps_if (PW.pt (pw_and (pt_cmpR op_le (pe_ix ix_list (pv 0) pe_int (fun _ _ => rfl)) pe_int (nomark _)) (pw_and1 (pt_cmpR op_lt (pe_ix ix_list (pv 0) pe_int (fun _ _ => rfl))
        (pe_callB call_len_seq (by rfl) B.len PySem.boot_len (pa_cons (pe_ix ix_list (pv 0) pe_int (fun _ _ => rfl)) pa_nil)) (nomark _)))))
      (pss_cons (ps_set (i := 2) scDraw.nd rfl (.inl rfl) (pe_ix ix_list (pe_ix ix_list (pv 0) pe_int (fun _ _ => rfl)) (pe_ix ix_list (pv 0) pe_int (fun _ _ => rfl)) (fun _ _ => rfl)))
      (pss_cons (ps_asg (pe_op op_add (pe_ix ix_list (pv 0) pe_int (fun _ _ => rfl)) pe_int) (pg_sub (pv 0) pe_int set_list))
      (pss_cons (ps_asg (pv 2) (pg_sub (pv 0) pe_int set_list))
      (pss_one (ps_if (pt_cmpR op_lt (pv 2) pe_int (nomark _)) (pss_one (ps_asg (pe_call G hr rfl mG kG bG .nil pass0 (pa_cons (pv 2) pa_nil)) (pg_sub (pv 0) pe_int set_list))) pss_nil))))) pss_nil)
    (pss_cons (ps_asg (pe_op op_add (pe_ix ix_list (pv 0) pe_int (fun _ _ => rfl)) pe_int) (pg_sub (pv 0) pe_int set_list))
    (pss_cons (ps_if (pt_cmpR op_le (pe_ix ix_list (pv 0) pe_int (fun _ _ => rfl)) pe_int (nomark _))
      (pss_cons (ps_set (i := 3) scDraw.nd rfl (.inl rfl) (pe_op op_mod (pe_callTy call_int1 (by rfl) B.int (by decide +kernel) (pa_cons
          (pe_op op_add (pe_op op_add (pe_op op_mul (pe_ix ix_list (pv 0) pe_int (fun _ _ => rfl)) pe_int) (pe_op op_mul (pe_ix ix_list (pv 0) pe_int (fun _ _ => rfl)) pe_int)) pe_int) pa_nil)) pe_int))
      (pss_cons (ps_set (i := 3) scDraw.nd rfl (.inl rfl) (pe_op op_mod (pe_callTy call_int1 (by rfl) B.int (by decide +kernel) (pa_cons
          (pe_op op_add (pe_op op_mul (pv 3) pe_int) (pe_ix ix_list (pv 0) pe_int (fun _ _ => rfl))) pa_nil)) pe_int))
      (pss_one (ps_ret (pe_op op_mod (pe_op op_fdiv (pv 3) pe_int) (pv 1)))))) pss_nil)
    (pss_cons (ps_set (i := 4) scDraw.nd rfl (.inl rfl) (pe_op op_mod (pe_callTy call_int1 (by rfl) B.int (by decide +kernel) (pa_cons (pe_ix ix_list (pv 0) pe_int (fun _ _ => rfl)) pa_nil)) (pv 1)))
    (pss_cons (ps_asg (pe_op op_fdivW (pe_ix ix_list (pv 0) pe_int (fun _ _ => rfl)) (pv 1)) (pg_sub (pv 0) pe_int set_list))
    (pss_one (ps_ret (pv 4))))))), ?_⟩
  refine ⟨fun σ H1 => ∃ (i v : Int) (cl : Option V), σ = [some (.ref a), some (.int m), cl, none, none] ∧ H1 a = some (.lst [.ref b, .int i, .int v, .int c, .int salt]) ∧ 0 ≤ i ∧ But a H H1, ?_, ?_⟩
  · refine ⟨_, rfl, _, _, _, _, rfl, rfl, SqL.of ha, at2, _, _, rfl, rfl, _, rfl, ite2 (fun c1 => ?_) (fun c1 => iteF ⟨i, v, none, rfl, ha, hi, But.refl _ _⟩)⟩
    refine ⟨_, rfl, _, _, _, _, rfl, rfl, SqL.of ha, at1, _, rfl, _, _, _, _, rfl, rfl, SqL.of ha, at0, b, _, rfl, .inl (SqL.of hb), _, _, rfl, rfl, _, rfl, ite2 (fun c2 => ?_) (fun c2 => ⟨i, v, none, rfl, ha, hi, But.refl _ _⟩)⟩
    have c2' : i < ((ns.map V.int).length : Int) := of_decide_eq_true c2
    rw [List.length_map] at c2'
    have hin : i.toNat < ns.length := by omega
    have ei : i = ((i.toNat : Nat) : Int) := by omega
    have hat : atI (ns.map V.int) i = some (.int ns[i.toNat]) := at_of ei (by rw [List.getElem?_map, List.getElem?_eq_getElem hin] <;> rfl)
    refine ⟨_, rfl, _, _, _, _, rfl, rfl, SqL.of ha, at0, _, rfl, _, _, _, _, rfl, rfl, SqL.of ha, at1, _, _, _, _, rfl, rfl, SqL.of hb, hat, ?_⟩
    refine ⟨_, rfl, _, _, _, _, rfl, rfl, SqL.of ha, at1, _, _, rfl, rfl, _, rfl, _, _, _, 1, rfl, rfl, ha, rfl, ?_⟩
    refine ⟨_, rfl, _, rfl, _, _, _, 2, rfl, rfl, upd_same, rfl, ?_⟩
    refine ⟨_, rfl, _, _, rfl, rfl, _, rfl, ite2 (fun c3 => ?_) (fun c3 => ?_)⟩
    · refine ⟨_, rfl, _, rfl, fun t => ?_⟩
      refine ⟨_, rfl, _, _, _, 2, rfl, rfl, upd_same, rfl, ?_⟩
      exact ⟨i + 1, t, _, rfl, upd_same, by omega, (But.put.trans But.put).trans But.put⟩
    · exact ⟨i + 1, _, _, rfl, upd_same, by omega, But.put.trans But.put⟩
  · rintro σ H1 ⟨i, v, cl, rfl, ha1, hi1, e1⟩
    refine ⟨_, rfl, _, _, _, _, rfl, rfl, SqL.of ha1, at3, _, _, rfl, rfl, _, rfl, _, _, _, 3, rfl, rfl, ha1, rfl, ?_⟩
    have hb1 : H1 b = some (.lst (ns.map V.int)) := e1 b _ hab.symm hb
    have e2 : ∀ o, But a H (upd H1 a o) := fun o => e1.trans But.put
    refine ⟨_, rfl, _, _, _, _, rfl, rfl, SqL.of upd_same, at2, _, _, rfl, rfl, _, rfl, ite2 (fun c1 => ?_) (fun c1 => ?_)⟩
    · refine ⟨_, rfl, _, _, _, _, rfl, rfl, SqL.of upd_same, at4, _, _, rfl, rfl, .inr ⟨by decide, by decide⟩, _, rfl, _, _, _, _, rfl, rfl, SqL.of upd_same, at3, _, _, rfl, rfl, .inr ⟨by decide, by decide⟩, _, _, rfl, rfl, _, _, rfl, rfl, .inl ⟨_, rfl, _, _, rfl, rfl, (by show (0 : Int) < _; decide), ?_⟩⟩
      refine ⟨_, rfl, _, _, rfl, rfl, .inr ⟨by decide, by decide⟩, _, rfl, _, _, _, _, rfl, rfl, SqL.of upd_same, at3, _, _, rfl, rfl, .inl ⟨_, rfl, _, _, rfl, rfl, (by show (0 : Int) < _; decide), ?_⟩⟩
      refine ⟨_, rfl, _, _, rfl, rfl, ⟨by decide, by decide⟩, _, rfl, _, _, rfl, rfl, m0, ?_⟩
      refine q _ _ (Int.emod_nonneg _ (by omega)) (Int.emod_lt_of_pos _ m0) ⟨ns, i, v, _, salt, upd_same, by rw [upd_ne hab.symm]; exact hb1, hn, hi1⟩ (e2 _)
    · refine ⟨_, rfl, _, _, _, _, rfl, rfl, SqL.of upd_same, at2, .inl ⟨_, rfl, _, rfl, _, _, rfl, rfl, m0, ?_⟩⟩
      refine ⟨_, rfl, _, _, _, _, rfl, rfl, SqL.of upd_same, at2, _, rfl, _, _, rfl, rfl, fits63 m0 m1 _, _, rfl, _, _, _, 2, rfl, rfl, upd_same, rfl, ?_⟩
      refine ⟨_, rfl, ?_⟩
      refine q _ _ (Int.emod_nonneg _ (by omega)) (Int.emod_lt_of_pos _ m0) ⟨ns, i, _, _, salt, upd_same, ?_, hn, hi1⟩ ((e2 _).trans But.put)
      rw [upd_ne hab.symm, upd_ne hab.symm]
      exact hb1
end
end Cf
namespace Cf
open PySem L2
abbrev sPick : Stmt := top 11
abbrev sSpelled : Stmt := top 12
theorem But.seqL {K : PySem.W.Frag} {a p : Addr} {H H' : Hp} {xs : List V} (e : But a H H') (n : p ≠ a) (h : SqL K H p xs) : SqL K H' p xs := by
  rcases h with (h | ⟨o, h⟩) | h
  · exact .inl (.inl (e _ _ n h))
  · exact .inl (.inr ⟨o, e _ _ n h⟩)
  · exact .inr h
theorem But.seqT {K : PySem.W.Frag} {a p : Addr} {H H' : Hp} {xs : List V} (e : But a H H') (n : p ≠ a) (h : SqT K H p xs) : SqT K H' p xs := by
  rcases h with (h | ⟨o, h⟩) | h
  · exact .inl (.inl (e _ _ n h))
  · exact .inl (.inr ⟨o, e _ _ n h⟩)
  · exact .inr h
theorem at_mem {α : Type} {xs : List α} {i : Int} (h0 : 0 ≤ i) (h : i < (xs.length : Int)) : ∃ x, atI xs i = some x ∧ x ∈ xs := by
  have hk : i.toNat < xs.length := by omega
  have ek : ((i.toNat : Nat) : Int) = i := by omega
  have q : atI xs ((i.toNat : Nat) : Int) = some xs[i.toNat] := atI_nat (List.getElem?_eq_getElem hk)
  rw [ek] at q
  exact ⟨_, q, List.getElem_mem hk⟩
def spPick (K : PySem.W.Frag) : Sp := fun vs H Q _ => ∃ (a b p : Addr) (xs : List V), vs = [.ref a, .ref p] ∧ PoolAt H a b ∧ (SqL K H p xs ∨ SqT K H p xs) ∧ p ≠ a ∧ 0 < xs.length ∧ xs.length ≤ 1000000 ∧
  ∀ (x : V) (H' : Hp), x ∈ xs → PoolAt H' a b → But a H H' → Q x H'
/-! ### numbers as words: 1 is a, 26 is z, 27 is aa -/
def spell (n : Nat) : List Nat := if h : n = 0 then [] else spell ((n - 1) / 26) ++ [97 + (n - 1) % 26]
termination_by n
decreasing_by omega
theorem spell_0 : spell 0 = [] := by rw [spell]; rfl
theorem spell_pos {n : Nat} (h : 0 < n) : spell n = spell ((n - 1) / 26) ++ [97 + (n - 1) % 26] := by
  rw [spell, dif_neg (by omega)]
def most : Nat → Nat
  | 0 => 0
  | k + 1 => 26 * most k + 26
theorem spell_len : ∀ (k n : Nat), n ≤ most k → (spell n).length ≤ k
  | 0, n, h => by
    have e : n = 0 := by have h' : n ≤ 0 := h; omega
    subst e
    rw [spell_0]
    exact Nat.le_refl _
  | k + 1, n, h => by
    by_cases e : n = 0
    · subst e; rw [spell_0]; exact Nat.zero_le _
    · have h' : n ≤ 26 * most k + 26 := h
      have ih := spell_len k ((n - 1) / 26) (by omega)
      rw [spell_pos (by omega), List.length_append]
      exact Nat.succ_le_succ ih
theorem spell_ne {n : Nat} (h : 0 < n) : spell n ≠ [] := by rw [spell_pos h]; simp
theorem spell_az (n : Nat) : ∀ c ∈ spell n, 97 ≤ c ∧ c ≤ 122 := by
  induction n using Nat.strongRecOn with
  | _ n ih =>
    intro c hc
    by_cases e : n = 0
    · subst e; rw [spell_0] at hc; cases hc
    · rw [spell_pos (by omega)] at hc
      rcases List.mem_append.mp hc with h | h
      · exact ih _ (by omega) c h
      · rw [List.mem_singleton.mp h]; omega
theorem spell_inj : ∀ {n m : Nat}, spell n = spell m → n = m := by
  intro n
  induction n using Nat.strongRecOn with
  | _ n ih =>
    intro m h
    by_cases e : n = 0
    · subst e
      by_cases e2 : m = 0
      · exact e2.symm
      · rw [spell_0] at h; exact absurd h.symm (spell_ne (by omega))
    · by_cases e2 : m = 0
      · subst e2; rw [spell_0] at h; exact absurd h (spell_ne (by omega))
      · rw [spell_pos (by omega : 0 < n), spell_pos (by omega : 0 < m)] at h
        have h1 := List.append_inj' h rfl
        have h2 := ih _ (by omega) h1.1
        have h3 : 97 + (n - 1) % 26 = 97 + (m - 1) % 26 := List.head_eq_of_cons_eq h1.2
        omega
/-- a word: 1 to 12 letters -/
def WordOk (w : Str) : Prop := 0 < w.length ∧ w.length ≤ 12 ∧ ∀ c ∈ w.cps.toList, 97 ≤ c ∧ c ≤ 122
theorem spell_ok {n : Nat} (h0 : 0 < n) (h : n ≤ most 12) : WordOk (SX.S (spell n)) := by
  refine ⟨?_, ?_, ?_⟩
  · rw [SX.S_len]; exact List.length_pos_iff.mpr (spell_ne h0)
  · rw [SX.S_len]; exact spell_len 12 n h
  · intro c hc
    exact spell_az n c (by simpa using hc)
def spSpelled : Sp := fun vs H Q _ => ∃ n : Nat, vs = [.int (n : Int)] ∧ n ≤ most 13 ∧ Q (.str (SX.S (spell n))) H
section
variable {P : Program} {w : World} {K : PySem.W.Frag} {mg : Str → Option Value} {base : Heap}
theorem scPick : FnScope ["pool", "items"] ["pool", "items"] (defScope sPick) := ⟨rfl, rfl, rfl, by decide +kernel, rfl, by decide +kernel, by decide +kernel⟩
theorem ok_pick {f g : Addr} {fd gd : FuncData} (F : Fun K "_law_pick" "_law_pick" sPick f fd) (B : Blt mg) (G : FnOk P w K mg base CX0 2 g gd ["pool", "many"] spDraw) (bG : Binds K gd ["pool", "many"] [])
    (kG : PySem.W.keepIn K (.ref g) = true) (mG : mg "_law_draw" = some (.ref g)) : FnOk P w K mg base CX0 3 f fd ["pool", "items"] (spPick K) := by
  refine F.ok scPick (fun vs H Q E h => ?_) (fun cdv A outer s H vs Q E hr h => ?_)
  · obtain ⟨a, b, p, xs, rfl, _⟩ := h
    rfl
  obtain ⟨a, b, p, xs, rfl, hp, hx, hne, h0, h1, q⟩ := h
  refine ⟨_, pss_one (ps_ret (pe_ix ix_seq (pv 1) (pe_call G hr rfl mG kG bG .nil pass0 (pa_cons (pv 0) (pa_cons (pe_callB call_len_seq (by rfl) B.len PySem.boot_len (pa_cons (pv 1) pa_nil)) pa_nil))) (fun _ _ => rfl))), ?_⟩
  refine ⟨_, rfl, _, rfl, _, rfl, p, xs, rfl, hx, a, b, _, rfl, hp, by omega, by omega, fun d H' d0 d1 hp' e => ?_⟩
  obtain ⟨x, hxa, hm⟩ := at_mem d0 d1
  rcases hx with hx | hx
  · exact .inl ⟨p, xs, d, x, rfl, rfl, e.seqL hne hx, hxa, q x H' hm hp' e⟩
  · exact .inr (.inl ⟨p, xs, d, x, rfl, rfl, e.seqT hne hx, hxa, q x H' hm hp' e⟩)
theorem scSpelled : FnScope ["number", "word", "left"] ["number"] (defScope sSpelled) := ⟨rfl, rfl, rfl, by decide +kernel, rfl, by decide +kernel, by decide +kernel⟩
theorem alpha (j : Nat) (h : j < 26) : atI (Str.ofString "abcdefghijklmnopqrstuvwxyz").cps.toList (j : Int) = some (97 + j) := by
  have q : ∀ j : Fin 26, (Str.ofString "abcdefghijklmnopqrstuvwxyz").cps.toList[j.val]? = some (97 + j.val) := by decide +kernel
  exact atI_nat (q ⟨j, h⟩)
theorem most13 : most 13 < 26 ^ 14 := by decide
theorem ok_spelled {f : Addr} {fd : FuncData} (F : Fun K "_law_spelled" "_law_spelled" sSpelled f fd) (B : Blt mg) : FnOk P w K mg base CX0 1 f fd ["number"] spSpelled := by
  refine F.ok scSpelled (fun vs H Q E h => ?_) (fun cdv A outer s H vs Q E hr h => ?_)
  · obtain ⟨n, rfl, _⟩ := h
    rfl
  obtain ⟨n, rfl, hn, q⟩ := h
  refine ⟨_, pss_cons (ps_set (i := 1) scSpelled.nd rfl (.inl rfl) pe_str) (pss_cons (ps_set (i := 2) scSpelled.nd rfl (.inl rfl) (pv 0))
    (pss_cons (ps_while PassesOwn.never (pt_cmpR op_gt (pv 2) pe_int (nomark _))
      (pss_cons (ps_set (i := 1) scSpelled.nd rfl (.inl rfl) (pe_op op_add_str (pe_ix ix_str pe_str (pe_op op_mod (pe_callTy call_int1 (by rfl) B.int (by decide +kernel) (pa_cons (pe_op op_sub (pv 2) pe_int) pa_nil)) pe_int) (fun _ _ => rfl)) (pv 1)))
      (pss_one (ps_set (i := 2) scSpelled.nd rfl (.inl rfl) (pe_op op_fdiv (pe_op op_sub (pv 2) pe_int) pe_int)))))
    (pss_one (ps_ret (pv 1))))), ?_⟩
  refine ⟨_, rfl, ?_⟩
  refine while_by (fun σ H' => H' = H ∧ ∃ (l : Nat) (u : List Nat), σ = [some (.int (n : Int)), some (.str (SX.S u)), some (.int (l : Int))] ∧ spell l ++ u = spell n)
    (fun σ _ => match σ with | [_, _, some (.int l)] => l.toNat | _ => 0) ⟨rfl, n, [], rfl, by simp⟩ (fun σ H' hp => ?_) (fun σ H' Q1 Q2 hm hc => ?_)
  · obtain ⟨rfl, l, u, rfl, hu⟩ := hp
    have hlen : (spell l).length + u.length ≤ 13 := by
      have h1 := spell_len 13 n hn
      rw [← hu, List.length_append] at h1
      exact h1
    refine ⟨_, rfl, _, _, rfl, rfl, _, rfl, ite2 (fun c => ?_) (fun c => ?_)⟩
    · have hl : 0 < l := by have c' : (0 : Int) < (l : Int) := of_decide_eq_true c; omega
      have el : (l : Int) - 1 = ((l - 1 : Nat) : Int) := by omega
      refine ⟨_, rfl, _, _, rfl, rfl, .inl ⟨_, rfl, _, _, rfl, rfl, (by show (0 : Int) < _; decide), ?_⟩⟩
      have em : ((l : Int) - 1) % 26 = (((l - 1) % 26 : Nat) : Int) := by omega
      refine ⟨_, _, 97 + (l - 1) % 26, rfl, rfl, (by decide +kernel), (by rw [em]; exact alpha _ (Nat.mod_lt _ (by decide))), _, rfl, _, _, rfl, rfl, ?_, ?_⟩
      · show 1 + (SX.S u).length ≤ sizeLine
        rw [SX.S_len]
        exact Nat.le_trans (by omega : 1 + u.length ≤ 14) (by decide)
      refine ⟨_, rfl, _, _, rfl, rfl, _, _, rfl, rfl, ⟨by decide, by decide⟩, ?_⟩
      have ed : ((l : Int) - 1) / 26 = (((l - 1) / 26 : Nat) : Int) := by omega
      refine ⟨⟨rfl, (l - 1) / 26, (97 + (l - 1) % 26) :: u, ?_, ?_⟩, ?_⟩
      · show [some (V.int (n : Int)), some (V.str (SX.S [97 + (l - 1) % 26] ++ SX.S u)), some (V.int (((l : Int) - 1) / 26))] = _
        rw [SX.S_cat, ed]
        rfl
      · rw [spell_pos hl, List.append_assoc] at hu
        exact hu
      · show (((l : Int) - 1) / 26).toNat < ((l : Int)).toNat
        omega
    · have hl : l = 0 := by have c' : ¬ (0 : Int) < (l : Int) := of_decide_eq_false (Bool.eq_false_iff.mpr c); omega
      subst hl
      rw [spell_0, List.nil_append] at hu
      refine ⟨_, rfl, ?_⟩
      rw [hu]
      exact q
  · obtain ⟨x, e1, i, j, e2, e3, k, e4, h⟩ := hc
    exact ⟨x, e1, i, j, e2, e3, k, e4, hm _ _ h⟩
end
end Cf
namespace Cf
open PySem L2
abbrev sWords : Stmt := top 13
abbrev sCons : Stmt := top 14
abbrev nV (n : Nat) : V := .int (n : Int)
def from_ (x : Nat) (ns : List Nat) : Nat := (ns.filter fun y => decide (x ≤ y)).length
theorem from_le (x : Nat) (ns : List Nat) : from_ x ns ≤ ns.length := List.length_filter_le _ _
theorem from_mono (x : Nat) (ns : List Nat) : from_ (x + 1) ns ≤ from_ x ns := by
  induction ns with
  | nil => exact Nat.le_refl _
  | cons y r ih =>
    unfold from_ at ih ⊢
    rw [List.filter_cons, List.filter_cons]
    by_cases h : x + 1 ≤ y
    · rw [if_pos (decide_eq_true h), if_pos (decide_eq_true (by omega : x ≤ y))]
      exact Nat.succ_le_succ ih
    · rw [if_neg (by simpa using h)]
      split
      · exact Nat.le_succ_of_le ih
      · exact ih
theorem from_step {x : Nat} {ns : List Nat} (h : x ∈ ns) : from_ (x + 1) ns + 1 ≤ from_ x ns := by
  induction ns with
  | nil => cases h
  | cons y r ih =>
    by_cases e : x = y
    · subst e
      have m := from_mono x r
      unfold from_ at m ⊢
      rw [List.filter_cons, List.filter_cons, if_neg (by simp), if_pos (by simp)]
      exact Nat.succ_le_succ m
    · have ih' := ih ((List.mem_cons.mp h).resolve_left e)
      unfold from_ at ih' ⊢
      rw [List.filter_cons, List.filter_cons]
      by_cases c : x + 1 ≤ y
      · rw [if_pos (decide_eq_true c), if_pos (decide_eq_true (by omega : x ≤ y))]
        exact Nat.succ_le_succ ih'
      · rw [if_neg (by simpa using c), if_neg (by simp; omega)]
        exact ih'
theorem inV_nat (x : Nat) (ns : List Nat) : inV (nV x) (ns.map nV) = decide (x ∈ ns) := by
  unfold inV
  induction ns with
  | nil => rfl
  | cons y r ih =>
    rw [List.map_cons, List.any_cons, ih]
    show (((y : Int) == (x : Int)) || decide (x ∈ r)) = decide (x ∈ y :: r)
    by_cases e : x = y
    · subst e; simp
    · have e' : ¬ (y : Int) = (x : Int) := by omega
      simp [e, e']
theorem flat_nat (ns : List Nat) : (ns.map nV).all flatV = true := by simp [flatV]
def spWords : Sp := fun vs H Q _ => ∃ (a b : Addr) (many : Nat), vs = [.ref a, nV many] ∧ PoolAt H a b ∧ many ≤ 100 ∧
  ∀ (ws : List Str) (p : Addr) (H' : Hp), ws.length = many → ws.Nodup → (∀ w ∈ ws, WordOk w) → H p = none → H' p = some (.lst (ws.map V.str)) → PoolAt H' a b → But a H H' → Q (.ref p) H'
section
variable {P : Program} {w : World} {K : PySem.W.Frag} {mg : Str → Option Value} {base : Heap}
theorem scWords : FnScope ["pool", "many", "taken", "k", "number"] ["pool", "many"] (defScope sWords) := ⟨rfl, rfl, rfl, by decide +kernel, rfl, by decide +kernel, by decide +kernel⟩
/-- the greatest number that is drawn -/
theorem pick_le {d : Int} (h0 : 0 ≤ d) (h1 : d < 5) : ∃ m : Int, atI [V.int 26, .int 702, .int 18278, .int 475254, .int 95428956661682176] d = some (.int m) ∧ 0 < m ∧ m ≤ 95428956661682176 := by
  have e : d = 0 ∨ d = 1 ∨ d = 2 ∨ d = 3 ∨ d = 4 := by omega
  rcases e with rfl | rfl | rfl | rfl | rfl
  · exact ⟨_, rfl, by decide, by decide⟩
  · exact ⟨_, rfl, by decide, by decide⟩
  · exact ⟨_, rfl, by decide, by decide⟩
  · exact ⟨_, rfl, by decide, by decide⟩
  · exact ⟨_, rfl, by decide, by decide⟩
theorem pool_upd {H : Hp} {a b p : Addr} {o : HO} (h : PoolAt H a b) (n : p ≠ a) (m : p ≠ b) : PoolAt (upd H p o) a b := by
  obtain ⟨ns, i, v, c, s, h1, h2, h3, h4⟩ := h
  exact ⟨ns, i, v, c, s, by rw [upd_ne n.symm]; exact h1, by rw [upd_ne m.symm]; exact h2, h3, h4⟩
theorem pool_same {H H' : Hp} {a b : Addr} (h : PoolAt H a b) (e : Same H H') : PoolAt H' a b := by
  obtain ⟨ns, i, v, c, s, h1, h2, h3, h4⟩ := h
  exact ⟨ns, i, v, c, s, e _ _ h1, e _ _ h2, h3, h4⟩
theorem pool_new {H : Hp} {a b p : Addr} {o : HO} (h : PoolAt H a b) (n : H p = none) : PoolAt (upd H p o) a b := pool_same h (same_new n o)
theorem pool_a {H : Hp} {a b p : Addr} (h : PoolAt H a b) (n : H p = none) : p ≠ a := by
  obtain ⟨ns, i, v, c, s, h1, h2, h3, h4⟩ := h
  exact (ne_of_none h1 n).symm
theorem pool_b {H : Hp} {a b p : Addr} (h : PoolAt H a b) (n : H p = none) : p ≠ b := by
  obtain ⟨ns, i, v, c, s, h1, h2, h3, h4⟩ := h
  exact (ne_of_none h2 n).symm
theorem ok_words {f g e : Addr} {fd gd ed : FuncData} (F : Fun K "_law_words" "_law_words" sWords f fd) (B : Blt mg) (G : FnOk P w K mg base CX0 2 g gd ["pool", "many"] spDraw) (bG : Binds K gd ["pool", "many"] [])
    (kG : PySem.W.keepIn K (.ref g) = true) (mG : mg "_law_draw" = some (.ref g)) (S : FnOk P w K mg base CX0 1 e ed ["number"] spSpelled) (bS : Binds K ed ["number"] []) (kS : PySem.W.keepIn K (.ref e) = true) (mS : mg "_law_spelled" = some (.ref e)) :
    FnOk P w K mg base CX0 3 f fd ["pool", "many"] spWords := by
  refine F.ok scWords (fun vs H Q E h => ?_) (fun cdv A outer s H vs Q E hr h => ?_)
  · obtain ⟨a, b, m, rfl, _⟩ := h
    rfl
  obtain ⟨a, b, m, rfl, hp, hm, q⟩ := h
  have nd := scWords.nd
  refine ⟨_, pss_cons (ps_set (i := 2) nd rfl (.inl rfl) (pe_lst pa_nil))
    (pss_cons (ps_for PassesOwn.never rfl (pi_range1 rfl B.range (pa_cons (pv 1) pa_nil)) (pg_name (i := 3) nd rfl (.inl rfl))
      (pss_cons (ps_set (i := 4) nd rfl (.inl rfl) (pe_op op_add pe_int (pe_call G hr rfl mG kG bG .nil pass0 (pa_cons (pv 0) (pa_cons
          (pe_ix ix_tup (pe_tup (pa_cons pe_int (pa_cons pe_int (pa_cons pe_int (pa_cons pe_int (pa_cons pe_int pa_nil)))))) (pe_call G hr rfl mG kG bG .nil pass0 (pa_cons (pv 0) (pa_cons pe_int pa_nil))) (fun _ _ => rfl)) pa_nil)))))
      (pss_cons (ps_while PassesOwn.never (pt_cmpR op_in_seq (pv 4) (pv 2) (by rfl)) (pss_one (ps_set (i := 4) nd rfl (.inl rfl) (pe_op op_add (pv 4) pe_int))))
      (pss_one (ps_expr (pe_bm PySem.F.plainAttrs_list PySem.F.slot_list_append PySem.F.type_list_append mt_append (pv 2) (pa_cons (pv 4) pa_nil)))))))
    (pss_one (ps_ret (pe_lc (own := [("number", 4)]) (g := gName 4) (tt := tYes) rfl nd (pi_list (pv 2)) (blkOk_by (N := ["pool", "many", "taken", "k", "number"]) (sc := defScope sWords) (by decide +kernel))
      (fun _ _ _ _ _ => pg_name (i := 4) nd rfl (.inl rfl)) (fun _ _ _ _ _ => pts_nil) (fun _ _ _ _ _ => pe_call S (hr.mono (by decide)) rfl mS kS bS .nil pass0 (pa_cons (pv 4) pa_nil)))))), ?_⟩
  refine ⟨(by show 0 ≤ sizeLine; decide), fun p np => ?_⟩
  have npa : p ≠ a := pool_a hp np
  have npb : p ≠ b := pool_b hp np
  refine ⟨_, rfl, _, rfl, by omega, by omega, ?_⟩
  refine for_range (n := m) (fun i σ H1 => ∃ (ns : List Nat) (kv nv : Option V), σ = [some (.ref a), some (nV m), some (.ref p), kv, nv] ∧ H1 p = some (.lst (ns.map nV)) ∧ ns.length = i ∧ ns.Nodup ∧ (∀ n ∈ ns, 0 < n ∧ n ≤ 95428956661682176 + i) ∧ PoolAt H1 a b ∧ But a H H1)
    ⟨[], none, none, rfl, upd_same, rfl, List.nodup_nil, fun _ h => (by cases h), pool_new hp np, But.of (same_new np _)⟩ (fun i σ H1 hi h => ?_) (fun σ H1 h => ?_)
  · obtain ⟨ns, kv, nv, rfl, h1, hl, hnd, hns, hp1, e1⟩ := h
    refine ⟨_, rfl, (by show 5 ≤ sizeLine; decide), fun t nt => ?_⟩
    refine ⟨_, rfl, a, b, 5, rfl, pool_new hp1 nt, by decide, by decide, fun d H2 d0 d1 hp2 e2 => ?_⟩
    have tna : t ≠ a := pool_a hp1 nt
    obtain ⟨mx, hat, mx0, mx1⟩ := pick_le d0 d1
    refine ⟨t, _, d, _, rfl, rfl, SqT.of (e2 _ _ tna upd_same), hat, ?_⟩
    refine ⟨a, b, mx, rfl, hp2, mx0, by omega, fun x H3 x0 x1 hp3 e3 => ?_⟩
    refine ⟨_, _, rfl, rfl, ?_⟩
    have e13 : But a H1 H3 := ((But.of (same_new nt _)).trans e2).trans e3
    have h3 : H3 p = some (.lst (ns.map nV)) := e13 _ _ npa h1
    have ex : (1 : Int) + x = ((x.toNat + 1 : Nat) : Int) := by omega
    refine while_by (fun σ H' => H' = H3 ∧ ∃ y : Nat, σ = [some (.ref a), some (nV m), some (.ref p), some (.int (0 + (i : Int))), some (nV y)] ∧ 0 < y ∧ y + from_ y ns ≤ 95428956661682176 + ns.length)
      (fun σ _ => match σ with | [_, _, _, _, some (.int l)] => from_ l.toNat ns | _ => 0) ⟨rfl, x.toNat + 1, ?_, by omega, ?_⟩ (fun σ H' hw => ?_) (fun σ H' Q1 Q2 hmn hc => ?_)
    · show [some (V.ref a), some (nV m), some (V.ref p), some (V.int (0 + (i : Int))), some (V.int (1 + x))] = _
      rw [ex]
    · have := from_le (x.toNat + 1) ns
      omega
    · obtain ⟨rfl, y, rfl, y0, y1⟩ := hw
      refine ⟨_, rfl, _, rfl, p, _, rfl, .inl (SqL.of h3), rfl, flat_nat ns, _, rfl, ?_⟩
      show if inV (nV y) (ns.map nV) = true then _ else _
      rw [inV_nat]
      refine ite2 (fun c => ?_) (fun c => ?_)
      · have hy : y ∈ ns := of_decide_eq_true c
        have st := from_step hy
        refine ⟨_, rfl, _, _, rfl, rfl, ⟨rfl, y + 1, rfl, by omega, by omega⟩, ?_⟩
        show from_ ((y : Int) + 1).toNat ns < from_ ((y : Int)).toNat ns
        have e1 : ((y : Int) + 1).toNat = y + 1 := by omega
        have e2 : ((y : Int)).toNat = y := by omega
        rw [e1, e2]
        omega
      · have hy : y ∉ ns := fun h => c (decide_eq_true h)
        refine ⟨_, rfl, .inl ⟨rfl, _, SqL.of h3⟩, _, rfl, p, _, _, rfl, rfl, h3, ?_, ?_⟩
        · rw [List.length_map]; exact small1000 (by omega)
        refine ⟨ns ++ [y], _, _, rfl, ?_, ?_, ?_, ?_, pool_upd hp3 npa npb, ?_⟩
        · rw [upd_same, List.map_append]
          all_goals rfl
        · rw [List.length_append]
          exact congrArg (· + 1) hl
        · exact List.nodup_append.mpr ⟨hnd, (by simp), fun u hu v hv => by rw [List.mem_singleton.mp hv]; rintro rfl; exact hy hu⟩
        · intro n hn
          rcases List.mem_append.mp hn with h | h
          · have := hns n h; omega
          · rw [List.mem_singleton.mp h]; omega
        · exact fun c o hc hco => by rw [upd_ne (ne_of_none hco np)]; exact (e1.trans e13) _ _ hc hco
    · obtain ⟨x1, e1', x2, e2', p', xs', r1, r2, r3, r4, k, r5, h⟩ := hc
      exact ⟨x1, e1', x2, e2', p', xs', r1, r2, r3, r4, k, r5, hmn _ _ h⟩
  · obtain ⟨ns, kv, nv, rfl, h1, hl, hnd, hns, hp1, e1⟩ := h
    refine ⟨_, rfl, p, rfl, ⟨_, SqL.of h1⟩, fun D nD => ?_⟩
    refine lc_list (xs := ns.map nV) (fun i H' => H' D = some (.lst ((ns.take i).map fun n => V.str (SX.S (spell n)))) ∧ Same H1 H') ⟨upd_same, same_new nD _⟩ (fun i H' _ hh => SqL.of (hh.2 _ _ h1)) (fun i x H' hx hh => ?_) (fun H' hh => ?_)
    · rw [List.getElem?_map] at hx
      obtain ⟨n, hn, rfl⟩ := Option.map_eq_some_iff.mp hx
      have hb := hns n (List.mem_of_getElem? hn)
      refine ⟨rfl, ?_⟩
      refine ⟨_, rfl, n, rfl, ?_, _, hh.1, ?_, ?_, ?_⟩
      · exact Nat.le_trans hb.2 (Nat.le_trans (by omega : _ ≤ 95428956661682176 + 100) (by decide))
      · rw [List.length_map, List.length_take]
        exact small1000 (by omega)
      · rw [upd_same, List.take_add_one, List.map_append, hn]
        all_goals rfl
      · exact fun c o hc => by rw [upd_ne (ne_of_none hc nD)]; exact hh.2 _ _ hc
    · obtain ⟨hD, sm⟩ := hh
      rw [List.length_map, List.take_length] at hD
      refine q (ns.map fun n => SX.S (spell n)) D H' (by rw [List.length_map, hl]) ?_ ?_ ?_ (by rw [hD, List.map_map]; rfl) (pool_same hp1 sm) (e1.trans (But.of sm))
      · exact List.Pairwise.map _ (fun x y (h : x ≠ y) e => h (spell_inj (SX.S_inj e))) hnd
      · intro w hw
        obtain ⟨n, hn, rfl⟩ := List.mem_map.mp hw
        have hb := hns n hn
        exact spell_ok hb.1 (Nat.le_trans hb.2 (Nat.le_trans (by omega : _ ≤ 95428956661682176 + 100) (by decide)))
      · cases z : H D with
        | none => rfl
        | some o =>
          by_cases zz : D = a
          · exact absurd zz (pool_a hp1 nD)
          · rw [e1 D o zz z] at nD; cases nD
end
end Cf
namespace Cf
open PySem L2
/-- a constructor's pair stands at q -/
def PairAt (H : Hp) (q : Addr) (c : Str × Nat) : Prop := H q = some (.tup [.str c.1, nV c.2])
/-- constructors stand at p -/
def ConsAt (H : Hp) (p : Addr) (cs : List (Str × Nat)) : Prop := ∃ ps : List Addr, H p = some (.tup (ps.map V.ref)) ∧ Paired (PairAt H) ps cs
structure ConsOk (cs : List (Str × Nat)) : Prop where
  len : cs.length ≤ 5
  nd : (cs.map (·.1)).Nodup
  word : ∀ c ∈ cs, WordOk c.1
  ar : ∀ c ∈ cs, c.2 ≤ 2
  leaf : ∃ c ∈ cs, c.2 = 0
theorem pairs_keep {H H' : Hp} {ps : List Addr} {cs : List (Str × Nat)} (h : Paired (PairAt H) ps cs) (e : ∀ q xs, H q = some (.tup xs) → H' q = some (.tup xs)) : Paired (PairAt H') ps cs := Paired.mapP h fun _ _ q => e _ _ q
/-- tuples stand on -/
def KeepT (H H' : Hp) : Prop := ∀ q xs, H q = some (.tup xs) → H' q = some (.tup xs)
theorem KeepT.trans {H H1 H2 : Hp} (x : KeepT H H1) (y : KeepT H1 H2) : KeepT H H2 := fun q xs h => y q xs (x q xs h)
theorem KeepT.of {H H' : Hp} (x : Same H H') : KeepT H H' := fun q _ h => x q _ h
theorem KeepT.but {H H' : Hp} {a b : Addr} (x : But a H H') (h : PoolAt H a b) : KeepT H H' := fun q xs hq => by
  obtain ⟨ns, i, v, c, s, h1, _⟩ := h
  exact x q _ (ne_of hq h1 (by intro z; cases z)) hq
theorem ConsAt.keep {H H' : Hp} {p : Addr} {cs : List (Str × Nat)} (h : ConsAt H p cs) (e : KeepT H H') : ConsAt H' p cs := by
  obtain ⟨ps, h1, h2⟩ := h
  exact ⟨ps, e _ _ h1, pairs_keep h2 e⟩
def table : List (List Nat) := [[0, 1], [0, 1, 2], [0, 0, 1], [0, 2], [1, 0, 0, 2], [0, 2, 0], [1, 1, 0], [2, 0, 0], [0, 1, 0, 1, 2], [0, 0]]
theorem table_ok : ∀ ar ∈ table, ar.length ≤ 5 ∧ (∀ n ∈ ar, n ≤ 2) ∧ 0 ∈ ar := by decide
def spCons : Sp := fun vs H Q _ => ∃ (a b : Addr), vs = [.ref a] ∧ PoolAt H a b ∧ ∀ (cs : List (Str × Nat)) (p : Addr) (H' : Hp), ConsOk cs → H p = none → ConsAt H' p cs → PoolAt H' a b → But a H H' → Q (.ref p) H'
section
variable {P : Program} {w : World} {K : PySem.W.Frag} {mg : Str → Option Value} {base : Heap}
theorem scCons : FnScope ["pool", "arities", "words", "k"] ["pool"] (defScope sCons) := ⟨rfl, rfl, rfl, by decide +kernel, rfl, by decide +kernel, by decide +kernel⟩
theorem But.none {a p : Addr} {H H' : Hp} (e : But a H H') (h : H' p = Option.none) (ha : H' a ≠ Option.none) : H p = Option.none := by
  cases z : H p with
  | none => rfl
  | some o =>
    by_cases zz : p = a
    · exact absurd (zz ▸ h) ha
    · rw [e p o zz z] at h; cases h
theorem pool_some {H : Hp} {a b : Addr} (h : PoolAt H a b) : H a ≠ Option.none := by
  obtain ⟨ns, i, v, c, s, h1, _⟩ := h
  rw [h1]; intro z; cases z
theorem ok_cons {f g e : Addr} {fd gd ed : FuncData} (F : Fun K "_law_constructors" "_law_constructors" sCons f fd) (B : Blt mg) (G : FnOk P w K mg base CX0 2 g gd ["pool", "many"] spDraw) (bG : Binds K gd ["pool", "many"] [])
    (kG : PySem.W.keepIn K (.ref g) = true) (mG : mg "_law_draw" = some (.ref g)) (S : FnOk P w K mg base CX0 3 e ed ["pool", "many"] spWords) (bS : Binds K ed ["pool", "many"] []) (kS : PySem.W.keepIn K (.ref e) = true) (mS : mg "_law_words" = some (.ref e)) :
    FnOk P w K mg base CX0 4 f fd ["pool"] spCons := by
  refine F.ok scCons (fun vs H Q E h => ?_) (fun cdv A outer s H vs Q E hr h => ?_)
  · obtain ⟨a, b, rfl, _⟩ := h
    rfl
  obtain ⟨a, b, rfl, hp, q⟩ := h
  have nd := scCons.nd
  have two : ∀ {X : Cx} {i j : Int} {k1 k2 p1 p2 p3 : _} {kk : Nat}, PE X (.Tuple [.Constant (.int i) k1 p1, .Constant (.int j) k2 p2] kk p3) (tTup (tCons (tC (.int i)) (tCons (tC (.int j)) tNil))) := pe_tup (pa_cons pe_int (pa_cons pe_int pa_nil))
  have three : ∀ {X : Cx} {i j l : Int} {k1 k2 k3 p1 p2 p3 p4 : _} {kk : Nat}, PE X (.Tuple [.Constant (.int i) k1 p1, .Constant (.int j) k2 p2, .Constant (.int l) k3 p3] kk p4) (tTup (tCons (tC (.int i)) (tCons (tC (.int j)) (tCons (tC (.int l)) tNil)))) := pe_tup (pa_cons pe_int (pa_cons pe_int (pa_cons pe_int pa_nil)))
  refine ⟨_, pss_cons (ps_set (i := 1) nd rfl (.inr rfl) (pe_ix ix_tup (pe_tup (pa_cons two (pa_cons three (pa_cons three (pa_cons two (pa_cons (pe_tup (pa_cons pe_int (pa_cons pe_int (pa_cons pe_int (pa_cons pe_int pa_nil)))))
      (pa_cons three (pa_cons three (pa_cons three (pa_cons (pe_tup (pa_cons pe_int (pa_cons pe_int (pa_cons pe_int (pa_cons pe_int (pa_cons pe_int pa_nil)))))) (pa_cons two pa_nil)))))))))))
      (pe_call G (hr.mono (by decide)) rfl mG kG bG .nil pass0 (pa_cons (pv 0) (pa_cons pe_int pa_nil))) (fun _ _ => rfl)))
    (pss_cons (ps_set (i := 2) nd rfl (.inr rfl) (pe_call S hr rfl mS kS bS .nil pass0 (pa_cons (pv 0) (pa_cons (pe_callB call_len_seq (by rfl) B.len PySem.boot_len (pa_cons (pv 1) pa_nil)) pa_nil))))
    (pss_one (ps_ret (pe_callTy call_tuple_of (by rfl) B.tuple (by decide +kernel) (pa_cons
      (pe_lc (own := [("k", 3)]) (g := gName 3) (tt := tYes) rfl nd (pi_range1 rfl B.range (pa_cons (pe_callB call_len_seq (by rfl) B.len PySem.boot_len (pa_cons (pv 1) pa_nil)) pa_nil))
        (blkOk_by (N := ["pool", "arities", "words", "k"]) (sc := defScope sCons) (by decide +kernel)) (fun _ _ _ _ _ => pg_name (i := 3) nd rfl (.inl rfl)) (fun _ _ _ _ _ => pts_nil)
        (fun _ _ _ _ _ => pe_tup (pa_cons (pe_ix (r := rIxL K) ix_list (pv 2) (pv 3) (fun _ _ => rfl)) (pa_cons (pe_ix (r := rIxT K) ix_tup (pv 1) (pv 3) (fun _ _ => rfl)) pa_nil)))) pa_nil))))), ?_⟩
  refine ⟨(by show 2 ≤ sizeLine; decide), fun t1 n1 => ?_⟩
  refine ⟨(by show 3 ≤ sizeLine; decide), fun t2 n2 => ?_⟩
  refine ⟨(by show 3 ≤ sizeLine; decide), fun t3 n3 => ?_⟩
  refine ⟨(by show 2 ≤ sizeLine; decide), fun t4 n4 => ?_⟩
  refine ⟨(by show 4 ≤ sizeLine; decide), fun t5 n5 => ?_⟩
  refine ⟨(by show 3 ≤ sizeLine; decide), fun t6 n6 => ?_⟩
  refine ⟨(by show 3 ≤ sizeLine; decide), fun t7 n7 => ?_⟩
  refine ⟨(by show 3 ≤ sizeLine; decide), fun t8 n8 => ?_⟩
  refine ⟨(by show 5 ≤ sizeLine; decide), fun t9 n9 => ?_⟩
  refine ⟨(by show 2 ≤ sizeLine; decide), fun t10 n10 => ?_⟩
  refine ⟨(by show 10 ≤ sizeLine; decide), fun T nT => ?_⟩
  have r10 := same_new nT (HO.tup [.ref t1, .ref t2, .ref t3, .ref t4, .ref t5, .ref t6, .ref t7, .ref t8, .ref t9, .ref t10])
  have r9 := (same_new n10 (HO.tup [.int 0, .int 0])).trans r10
  have r8 := (same_new n9 (HO.tup [.int 0, .int 1, .int 0, .int 1, .int 2])).trans r9
  have r7 := (same_new n8 (HO.tup [.int 2, .int 0, .int 0])).trans r8
  have r6 := (same_new n7 (HO.tup [.int 1, .int 1, .int 0])).trans r7
  have r5 := (same_new n6 (HO.tup [.int 0, .int 2, .int 0])).trans r6
  have r4 := (same_new n5 (HO.tup [.int 1, .int 0, .int 0, .int 2])).trans r5
  have r3 := (same_new n4 (HO.tup [.int 0, .int 2])).trans r4
  have r2 := (same_new n3 (HO.tup [.int 0, .int 0, .int 1])).trans r3
  have r1 := (same_new n2 (HO.tup [.int 0, .int 1, .int 2])).trans r2
  have r0 := (same_new n1 (HO.tup [.int 0, .int 1])).trans r1
  have f1 := r1 _ _ upd_same
  have f2 := r2 _ _ upd_same
  have f3 := r3 _ _ upd_same
  have f4 := r4 _ _ upd_same
  have f5 := r5 _ _ upd_same
  have f6 := r6 _ _ upd_same
  have f7 := r7 _ _ upd_same
  have f8 := r8 _ _ upd_same
  have f9 := r9 _ _ upd_same
  have f10 := r10 _ _ upd_same
  have fT : (upd (upd (upd (upd (upd (upd (upd (upd (upd (upd (upd H t1 (.tup [.int 0, .int 1])) t2 (.tup [.int 0, .int 1, .int 2])) t3 (.tup [.int 0, .int 0, .int 1])) t4 (.tup [.int 0, .int 2])) t5 (.tup [.int 1, .int 0, .int 0, .int 2])) t6 (.tup [.int 0, .int 2, .int 0])) t7 (.tup [.int 1, .int 1, .int 0])) t8 (.tup [.int 2, .int 0, .int 0])) t9 (.tup [.int 0, .int 1, .int 0, .int 1, .int 2])) t10 (.tup [.int 0, .int 0])) T (.tup [.ref t1, .ref t2, .ref t3, .ref t4, .ref t5, .ref t6, .ref t7, .ref t8, .ref t9, .ref t10])) T = some (HO.tup [.ref t1, .ref t2, .ref t3, .ref t4, .ref t5, .ref t6, .ref t7, .ref t8, .ref t9, .ref t10]) := upd_same
  clear r1 r2 r3 r4 r5 r6 r7 r8 r9 r10
  have hT : ∃ HT, HT = upd (upd (upd (upd (upd (upd (upd (upd (upd (upd (upd H t1 (.tup [.int 0, .int 1])) t2 (.tup [.int 0, .int 1, .int 2])) t3 (.tup [.int 0, .int 0, .int 1])) t4 (.tup [.int 0, .int 2])) t5 (.tup [.int 1, .int 0, .int 0, .int 2])) t6 (.tup [.int 0, .int 2, .int 0])) t7 (.tup [.int 1, .int 1, .int 0])) t8 (.tup [.int 2, .int 0, .int 0])) t9 (.tup [.int 0, .int 1, .int 0, .int 1, .int 2])) t10 (.tup [.int 0, .int 0])) T (.tup [.ref t1, .ref t2, .ref t3, .ref t4, .ref t5, .ref t6, .ref t7, .ref t8, .ref t9, .ref t10]) := ⟨_, rfl⟩
  obtain ⟨HT, eT⟩ := hT
  rw [← eT] at r0 f1 f2 f3 f4 f5 f6 f7 f8 f9 f10 fT
  show tCall spDraw [] E0 _ _ (upd _ _ _) _
  rw [← eT]
  clear eT
  refine ⟨_, rfl, a, b, 10, rfl, pool_same hp r0, by decide, by decide, fun d H1 d0 d1 hp1 e1 => ?_⟩
  have kt := KeepT.but e1 (pool_same hp r0)
  have ch : ∃ (t : Addr) (ar : List Nat), atI [V.ref t1, .ref t2, .ref t3, .ref t4, .ref t5, .ref t6, .ref t7, .ref t8, .ref t9, .ref t10] d = some (.ref t) ∧ H1 t = some (.tup (ar.map nV)) ∧ ar ∈ table := by
    have e : d = 0 ∨ d = 1 ∨ d = 2 ∨ d = 3 ∨ d = 4 ∨ d = 5 ∨ d = 6 ∨ d = 7 ∨ d = 8 ∨ d = 9 := by omega
    rcases e with rfl | rfl | rfl | rfl | rfl | rfl | rfl | rfl | rfl | rfl
    · exact ⟨t1, [0, 1], rfl, kt _ _ f1, by decide⟩
    · exact ⟨t2, [0, 1, 2], rfl, kt _ _ f2, by decide⟩
    · exact ⟨t3, [0, 0, 1], rfl, kt _ _ f3, by decide⟩
    · exact ⟨t4, [0, 2], rfl, kt _ _ f4, by decide⟩
    · exact ⟨t5, [1, 0, 0, 2], rfl, kt _ _ f5, by decide⟩
    · exact ⟨t6, [0, 2, 0], rfl, kt _ _ f6, by decide⟩
    · exact ⟨t7, [1, 1, 0], rfl, kt _ _ f7, by decide⟩
    · exact ⟨t8, [2, 0, 0], rfl, kt _ _ f8, by decide⟩
    · exact ⟨t9, [0, 1, 0, 1, 2], rfl, kt _ _ f9, by decide⟩
    · exact ⟨t10, [0, 0], rfl, kt _ _ f10, by decide⟩
  obtain ⟨t, ar, hat, ht, har⟩ := ch
  obtain ⟨ha5, ha2, ha0⟩ := table_ok ar har
  refine ⟨T, _, d, _, rfl, rfl, SqT.of (kt _ _ fT), hat, ?_⟩
  refine ⟨_, rfl, _, rfl, t, _, rfl, .inr (SqT.of ht), a, b, (ar.map nV).length, rfl, hp1, by rw [List.length_map]; omega, fun ws p H2 hwl hwn hwo hpn hw hp2 e2 => ?_⟩
  have kt2 := KeepT.but e2 hp1
  refine ⟨_, rfl, t, _, rfl, .inr (SqT.of (kt2 _ _ ht)), _, rfl, by omega, by rw [List.length_map]; omega, fun D nD => ?_⟩
  have hwl' : ws.length = ar.length := by rw [hwl, List.length_map]
  refine lc_range (n := (ar.map nV).length) (fun i H' => ∃ ps : List Addr, H' D = some (.lst (ps.map V.ref)) ∧ ps.length = i ∧ Paired (PairAt H') ps ((ws.zip ar).take i) ∧ Same H2 H')
    ⟨[], upd_same, rfl, .nil, same_new nD _⟩ (fun i H' hi hh => ?_) (fun H' hh => ?_)
  · obtain ⟨ps, h1, h2, h3, h4⟩ := hh
    rw [List.length_map] at hi
    have hwi : ws[i]? = some ws[i] := List.getElem?_eq_getElem (by omega)
    have hai : ar[i]? = some ar[i] := List.getElem?_eq_getElem hi
    refine ⟨rfl, ?_⟩
    refine ⟨_, rfl, _, rfl, p, _, _, .str ws[i], rfl, rfl, SqL.of (h4 _ _ hw), ?_, ?_⟩
    · rw [Int.zero_add]
      exact atI_nat (by rw [List.getElem?_map, hwi]; rfl)
    refine ⟨_, rfl, _, rfl, t, _, _, nV ar[i], rfl, rfl, SqT.of (h4 _ _ (kt2 _ _ ht)), ?_, ?_⟩
    · rw [Int.zero_add]
      exact atI_nat (by rw [List.getElem?_map, hai]; rfl)
    refine ⟨(by show 2 ≤ sizeLine; decide), fun r nr => ?_⟩
    have hDr : D ≠ r := ne_of_none h1 nr
    refine ⟨_, by rw [upd_ne hDr]; exact h1, by rw [List.length_map]; exact small1000 (by omega), ps ++ [r], ?_, ?_, ?_, ?_⟩
    · rw [upd_same, List.map_append]
      all_goals rfl
    · rw [List.length_append, h2]
      all_goals rfl
    · have hz : (ws.zip ar)[i]? = some (ws[i], ar[i]) := by
        rw [List.getElem?_zip_eq_some]
        exact ⟨hwi, hai⟩
      rw [List.take_add_one, hz]
      refine Paired.snoc (pairs_keep h3 fun q xs hq => ?_) ?_
      · rw [upd_ne (ne_of hq h1 (by intro z; cases z)), upd_ne (ne_of_none hq nr)]
        exact hq
      · show upd _ D _ r = _
        rw [upd_ne hDr.symm, upd_same]
    · exact fun c o hc => by rw [upd_ne (ne_of_none hc nD), upd_ne (ne_of_none (h4 _ _ hc) nr)]; exact h4 _ _ hc
  · obtain ⟨ps, h1, h2, h3, h4⟩ := hh
    refine ⟨D, _, rfl, .inl ⟨SqL.of h1, fun l nl => ?_⟩⟩
    rw [List.length_map, ← hwl', List.take_of_length_le (by rw [List.length_zip, hwl']; omega)] at h3
    have kk : KeepT H' (upd H' l (.tup (ps.map V.ref))) := KeepT.of (same_new nl _)
    have eall : But a H (upd H' l (.tup (ps.map V.ref))) := (((But.of r0).trans e1).trans e2).trans (But.of (h4.trans (same_new nl _)))
    have pl := pool_new (o := .tup (ps.map V.ref)) (pool_same hp2 h4) nl
    refine q (ws.zip ar) l _ ⟨?_, ?_, ?_, ?_, ?_⟩ ?_ ⟨ps, upd_same, pairs_keep h3 kk⟩ pl eall
    · rw [List.length_zip]; omega
    · rw [List.map_fst_zip (by omega)]; exact hwn
    · intro c hc
      exact hwo _ (List.of_mem_zip hc).1
    · intro c hc
      exact ha2 _ (List.of_mem_zip hc).2
    · obtain ⟨i, hi, e⟩ := List.getElem_of_mem ha0
      refine ⟨(ws[i]'(by omega), ar[i]), ?_, e⟩
      exact List.mem_of_getElem? (i := i) (by rw [List.getElem?_zip_eq_some]; exact ⟨List.getElem?_eq_getElem (by omega), List.getElem?_eq_getElem hi⟩)
    · exact ((((But.of r0).trans e1).trans e2).trans (But.of h4)).none nl (pool_some (pool_same hp2 h4))
end
end Cf
namespace Cf
open PySem L2
abbrev sTerm : Stmt := top 15
/-- a term: a variable, or a word and parts -/
inductive Tm where
  | var (n : Int)
  | node (w : Str) (ps : List Tm)
mutual
inductive TmAt (H : Hp) : V → Tm → Prop
  | var (n : Int) : TmAt H (.int n) (.var n)
  | node {p : Addr} {w : Str} {vs : List V} {ps : List Tm} : H p = some (.tup (.str w :: vs)) → TmsAt H vs ps → TmAt H (.ref p) (.node w ps)
inductive TmsAt (H : Hp) : List V → List Tm → Prop
  | nil : TmsAt H [] []
  | cons {v : V} {vs : List V} {t : Tm} {ts : List Tm} : TmAt H v t → TmsAt H vs ts → TmsAt H (v :: vs) (t :: ts)
end
mutual
theorem TmAt.keep {H H' : Hp} (e : KeepT H H') : ∀ (t : Tm) (v : V), TmAt H v t → TmAt H' v t
  | .var n, _, h => by cases h; exact .var n
  | .node w ps, _, h => by
    cases h with
    | node h1 h2 => exact .node (e _ _ h1) (TmsAt.keep e ps _ h2)
theorem TmsAt.keep {H H' : Hp} (e : KeepT H H') : ∀ (ts : List Tm) (vs : List V), TmsAt H vs ts → TmsAt H' vs ts
  | [], _, h => by cases h; exact .nil
  | t :: ts, _, h => by
    cases h with
    | cons h1 h2 => exact .cons (TmAt.keep e t _ h1) (TmsAt.keep e ts _ h2)
end
theorem TmsAt.length {H : Hp} : ∀ {vs : List V} {ts : List Tm}, TmsAt H vs ts → vs.length = ts.length
  | [], _, h => by cases h; rfl
  | v :: vs, _, h => by
    cases h with
    | cons h1 h2 => exact congrArg (· + 1) (TmsAt.length h2)
theorem TmsAt.append {H : Hp} : ∀ {vs us : List V} {ts rs : List Tm}, TmsAt H vs ts → TmsAt H us rs → TmsAt H (vs ++ us) (ts ++ rs)
  | [], _, _, _, h, k => by cases h; exact k
  | v :: vs, _, _, _, h, k => by
    cases h with
    | cons h1 h2 => exact .cons h1 (TmsAt.append h2 k)
theorem TmsAt.snoc {H : Hp} {vs : List V} {v : V} {ts : List Tm} {t : Tm} (h : TmsAt H vs ts) (k : TmAt H v t) : TmsAt H (vs ++ [v]) (ts ++ [t]) := h.append (.cons k .nil)
theorem TmsAt.get {H : Hp} : ∀ {vs : List V} {ts : List Tm} {i : Nat} {t : Tm}, TmsAt H vs ts → ts[i]? = some t → ∃ v, vs[i]? = some v ∧ TmAt H v t
  | _, [], _, _, _, e => by simp at e
  | _, t :: ts, 0, _, h, e => by
    cases h with
    | cons h1 h2 => simp at e; subst e; exact ⟨_, rfl, h1⟩
  | _, t :: ts, i + 1, x, h, e => by
    cases h with
    | cons h1 h2 =>
      obtain ⟨v, a, b⟩ := TmsAt.get (i := i) h2 (by simpa using e)
      exact ⟨v, by simpa using a, b⟩
/-- a term over constructors with variables among some, of a height of at most so much -/
def TmOver (cs : List (Str × Nat)) (ns : List Int) : Nat → Tm → Prop
  | 0, _ => False
  | _ + 1, .var n => n ∈ ns
  | d + 1, .node w ps => (w, ps.length) ∈ cs ∧ ∀ p ∈ ps, TmOver cs ns d p
def spTerm (K : PySem.W.Frag) (n : Nat) : Sp := fun vs H Q _ => ∃ (a b cp np : Addr) (cs : List (Str × Nat)) (ns : List Int) (d : Nat), vs = [.ref a, .ref cp, .ref np, nV d] ∧ PoolAt H a b ∧ ConsAt H cp cs ∧ ConsOk cs ∧
  SqL K H np (ns.map V.int) ∧ np ≠ a ∧ ns.length ≤ 1000 ∧ 1 ≤ d ∧ d ≤ n ∧ ∀ (v : V) (t : Tm) (H' : Hp), TmAt H' v t → TmOver cs ns d t → PoolAt H' a b → But a H H' → Q v H'
theorem paired_left {H : Hp} {q : Addr} : ∀ {ps : List Addr} {cs : List (Str × Nat)}, Paired (PairAt H) ps cs → q ∈ ps → ∃ c ∈ cs, PairAt H q c
  | _, _, .nil, h => by cases h
  | _, _, .cons (b := b) x t, h => by
    rcases List.mem_cons.mp h with e | h
    · subst e; exact ⟨b, List.mem_cons_self, x⟩
    · obtain ⟨c, hc, k⟩ := paired_left t h
      exact ⟨c, List.mem_cons_of_mem _ hc, k⟩
theorem paired_get {H : Hp} {q : Addr} : ∀ {ps : List Addr} {cs : List (Str × Nat)} {i : Nat}, Paired (PairAt H) ps cs → ps[i]? = some q → ∃ c, cs[i]? = some c ∧ PairAt H q c
  | _, _, _, .nil, h => by simp at h
  | _, _, 0, .cons (b := b) x t, h => by simp at h; subst h; exact ⟨b, rfl, x⟩
  | _, _, i + 1, .cons x t, h => by
    obtain ⟨c, hc, k⟩ := paired_get (i := i) t (by simpa using h)
    exact ⟨c, by simpa using hc, k⟩
section
variable {P : Program} {w : World} {K : PySem.W.Frag} {mg : Str → Option Value} {base : Heap}
theorem scTerm : FnScope ["pool", "constructors", "numbers", "deep", "pair", "k"] ["pool", "constructors", "numbers", "deep"] (defScope sTerm) := ⟨rfl, rfl, rfl, by decide +kernel, rfl, by decide +kernel, by decide +kernel⟩
theorem ok_term1 {n : Nat} {f g e : Addr} {fd gd ed : FuncData} (F : Fun K "_law_term" "_law_term" sTerm f fd) (B : Blt mg) (G : FnOk P w K mg base CX0 2 g gd ["pool", "many"] spDraw) (bG : Binds K gd ["pool", "many"] [])
    (kG : PySem.W.keepIn K (.ref g) = true) (mG : mg "_law_draw" = some (.ref g)) (S : FnOk P w K mg base CX0 3 e ed ["pool", "items"] (spPick K)) (bS : Binds K ed ["pool", "items"] []) (kS : PySem.W.keepIn K (.ref e) = true) (mS : mg "_law_pick" = some (.ref e))
    (R : FnOk P w K mg base CX0 (n + 3) f fd ["pool", "constructors", "numbers", "deep"] (spTerm K n)) (bR : Binds K fd ["pool", "constructors", "numbers", "deep"] []) (mR : mg "_law_term" = some (.ref f)) :
    FnOk P w K mg base CX0 (n + 4) f fd ["pool", "constructors", "numbers", "deep"] (spTerm K (n + 1)) := by
  have kR := F.kp
  refine F.ok scTerm (fun vs H Q E h => ?_) (fun cdv A outer s H vs Q E hr h => ?_)
  · obtain ⟨a, b, cp, np, cs, ns, d, rfl, _⟩ := h
    rfl
  obtain ⟨a, b, cp, np, cs, ns, d, rfl, hp, hc, hok, hn, hna, hnl, hd1, hd2, q⟩ := h
  have nd := scTerm.nd
  refine ⟨_, Evl.pss_cut (ps_if (PW.pt (pw_and (pt_cmpR op_gt (pe_callB call_len_seq (by rfl) B.len PySem.boot_len (pa_cons (pv 2) pa_nil)) pe_int (nomark _))
        (pw_and1 (pt_cmpR op_eq (pe_call G (hr.mono (by omega)) rfl mG kG bG .nil pass0 (pa_cons (pv 0) (pa_cons pe_int pa_nil))) pe_int (nomark _)))))
      (pss_one (ps_ret (pe_call S (hr.mono (by omega)) rfl mS kS bS .nil pass0 (pa_cons (pv 0) (pa_cons (pv 2) pa_nil))))) pss_nil)
    (pss_cons (ps_set (i := 4) nd rfl (.inl rfl) (pe_call S (hr.mono (by omega)) rfl mS kS bS .nil pass0 (pa_cons (pv 0) (pa_cons
      (pe_lc (own := [("pair", 4)]) (g := gName 4) (tt := tOr (tTest (tOp rEq (tOp (rIxT K) (tVar 4) (tC (.int 1))) (tC (.int 0)))) (tTest (tOp (rI0 fun i j => .bl (decide (j < i))) (tVar 3) (tC (.int 1))))) rfl nd (pi_tup (pv 1))
        (blkOk_by (N := ["pool", "constructors", "numbers", "deep", "pair", "k"]) (sc := defScope sTerm) (by decide +kernel)) (fun _ _ _ _ _ => pg_name (i := 4) nd rfl (.inl rfl))
        (fun _ _ _ _ _ => pts_one (PW.pt (pw_or (pt_cmpR op_eq (pe_ix (r := rIxT K) ix_tup (pv 4) pe_int (fun _ _ => rfl)) pe_int (nomark _)) (pw_or1 (pt_cmpR op_gt (pv 3) pe_int (nomark _))))))
        (fun _ _ _ _ _ => pv 4)) pa_nil))))
    (pss_one (ps_ret (pe_op op_catA (pe_tup (pa_cons (pe_ix ix_tup (pv 4) pe_int (fun _ _ => rfl)) pa_nil)) (pe_callTy call_tuple_of (by rfl) B.tuple (by decide +kernel) (pa_cons
      (pe_lc (own := [("k", 5)]) (g := gName 5) (tt := tYes) rfl nd (pi_range1 rfl B.range (pa_cons (pe_ix ix_tup (pv 4) pe_int (fun _ _ => rfl)) pa_nil))
        (blkOk_by (N := ["pool", "constructors", "numbers", "deep", "pair", "k"]) (sc := defScope sTerm) (by decide +kernel)) (fun _ _ _ _ _ => pg_name (i := 5) nd rfl (.inl rfl)) (fun _ _ _ _ _ => pts_nil)
        (fun _ _ _ _ _ => pe_call R hr rfl mR kR bR .nil pass0 (pa_cons (pv 0) (pa_cons (pv 1) (pa_cons (pv 2) (pa_cons (pe_op op_sub (pv 3) pe_int) pa_nil)))))) pa_nil)))))), ?_⟩
  refine ⟨fun σ H1 => σ = [some (.ref a), some (.ref cp), some (.ref np), some (nV d), none, none] ∧ PoolAt H1 a b ∧ But a H H1, ?_, ?_⟩
  · refine ⟨_, rfl, np, _, rfl, .inl hn, _, _, rfl, rfl, _, rfl, ite2 (fun c1 => ?_) (fun c1 => iteF ⟨rfl, hp, But.refl _ _⟩)⟩
    have h0 : 0 < (ns.map V.int).length := by
      have c' : (0 : Int) < ((ns.map V.int).length : Int) := of_decide_eq_true c1
      omega
    refine ⟨_, rfl, a, b, 2, rfl, hp, by decide, by decide, fun x H1 x0 x1 hp1 e1 => ?_⟩
    refine ⟨rfl, _, rfl, ite2 (fun c2 => ?_) (fun c2 => ⟨rfl, hp1, e1⟩)⟩
    refine ⟨_, rfl, _, rfl, a, b, np, _, rfl, hp1, .inl (e1.seqL hna hn), hna, h0, by rw [List.length_map]; omega, fun v H2 hv hp2 e2 => ?_⟩
    obtain ⟨m, hm, rfl⟩ := List.mem_map.mp hv
    obtain ⟨d', rfl⟩ : ∃ d', d = d' + 1 := ⟨d - 1, by omega⟩
    exact q (.int m) (.var m) H2 (.var m) hm hp2 (e1.trans e2)
  · rintro σ H1 ⟨rfl, hp1, e1⟩
    have k1 : KeepT H H1 := KeepT.but e1 hp
    obtain ⟨qs, hc1, hc2⟩ := hc.keep k1
    have hqc : qs.length = cs.length := Paired.length hc2
    refine ⟨_, rfl, _, rfl, cp, rfl, ⟨_, SqT.of hc1⟩, fun D nD => ?_⟩
    refine lc_tup (xs := qs.map V.ref) (fun i H' => ∃ rs : List Addr, H' D = some (.lst (rs.map V.ref)) ∧ rs.length ≤ i ∧ Same H1 H' ∧ (∀ r ∈ rs, ∃ c ∈ cs, PairAt H1 r c ∧ (c.2 = 0 ∨ 1 < d)) ∧ ((∃ c ∈ cs.take i, c.2 = 0) → 0 < rs.length))
      ⟨[], upd_same, Nat.le_refl _, same_new nD _, fun _ h => (by cases h), fun h => by obtain ⟨c, hc, _⟩ := h; rw [List.take_zero] at hc; cases hc⟩ (fun i H' _ hh => ?_) (fun i x H' hx hh => ?_) (fun H' hh => ?_)
    · obtain ⟨rs, h1, h2, h3, h4, h5⟩ := hh
      exact SqT.of (h3 _ _ hc1)
    · obtain ⟨rs, h1, h2, h3, h4, h5⟩ := hh
      rw [List.getElem?_map] at hx
      obtain ⟨r, hr', rfl⟩ := Option.map_eq_some_iff.mp hx
      obtain ⟨c, hci, hcr⟩ := paired_get hc2 hr'
      have hil : i < cs.length := (List.getElem?_eq_some_iff.mp hci).1
      refine ⟨rfl, ?_⟩
      -- one kept: the list grows
      have keep1 : (c.2 = 0 ∨ 1 < d) → ∃ acc, H' D = some (.lst acc) ∧ acc.length < sizeLine ∧ ∃ rs : List Addr, upd H' D (.lst (acc ++ [V.ref r])) D = some (.lst (rs.map V.ref)) ∧ rs.length ≤ i + 1 ∧ Same H1 (upd H' D (.lst (acc ++ [V.ref r]))) ∧ (∀ r ∈ rs, ∃ c ∈ cs, PairAt H1 r c ∧ (c.2 = 0 ∨ 1 < d)) ∧ ((∃ c ∈ cs.take (i + 1), c.2 = 0) → 0 < rs.length) := fun hz => by
        refine ⟨_, h1, by rw [List.length_map]; exact small1000 (by have := hok.len; omega), rs ++ [r], ?_, ?_, ?_, ?_, ?_⟩
        · rw [upd_same, List.map_append]
          all_goals rfl
        · rw [List.length_append]; exact Nat.succ_le_succ h2
        · exact fun b o hb => by rw [upd_ne (ne_of_none hb nD)]; exact h3 _ _ hb
        · intro x hx
          rcases List.mem_append.mp hx with h | h
          · exact h4 x h
          · rw [List.mem_singleton.mp h]
            exact ⟨c, List.mem_of_getElem? hci, hcr, hz⟩
        · intro _; rw [List.length_append]; exact Nat.succ_pos _
      refine ⟨_, rfl, r, _, 1, _, rfl, rfl, SqT.of (h3 _ _ hcr), rfl, rfl, _, rfl, ite2 (fun c1 => ?_) (fun c1 => ?_)⟩
      · have hz : c.2 = 0 := by
          have e : nV c.2 = V.int 0 := of_decide_eq_true c1
          have e2 : (c.2 : Int) = 0 := V.int.inj e
          omega
        exact iteT ⟨_, rfl, keep1 (.inl hz)⟩
      · have hz : ¬ c.2 = 0 := fun e => c1 (decide_eq_true (by rw [e]; rfl))
        refine ⟨_, rfl, _, _, rfl, rfl, _, rfl, ite2 (fun c2 => ?_) (fun c2 => ?_)⟩
        · have hd' : 1 < d := by have c' : (1 : Int) < (d : Int) := of_decide_eq_true c2; omega
          exact ⟨_, rfl, keep1 (.inr hd')⟩
        · refine ⟨rs, h1, by omega, h3, h4, fun hcs => ?_⟩
          obtain ⟨c', hc', z⟩ := hcs
          rw [List.take_add_one, hci] at hc'
          rcases List.mem_append.mp hc' with h | h
          · exact h5 ⟨c', h, z⟩
          · have e : c' = c := by simpa using h
            rw [e] at z; exact absurd z hz
    · obtain ⟨rs, h1, h2, h3, h4, h5⟩ := hh
      rw [List.length_map, hqc, List.take_of_length_le (Nat.le_refl _)] at h5
      rw [List.length_map, hqc] at h2
      have hpos : 0 < rs.length := h5 hok.leaf
      refine ⟨a, b, D, _, rfl, pool_same hp1 h3, .inl (SqL.of h1), pool_a hp1 nD, by rw [List.length_map]; exact hpos, by rw [List.length_map]; have := hok.len; omega, fun v H2 hv hp2 e2 => ?_⟩
      obtain ⟨r, hr1, rfl⟩ := List.mem_map.mp hv
      obtain ⟨c, hcm, hcr, hcd⟩ := h4 r hr1
      have k2 : KeepT H1 H2 := (KeepT.of h3).trans (KeepT.but e2 (pool_same hp1 h3))
      have e12 : But a H H2 := (e1.trans (But.of h3)).trans e2
      have hr2 := k2 _ _ hcr
      refine ⟨_, rfl, r, _, 0, _, rfl, rfl, SqT.of hr2, rfl, (by show 1 ≤ sizeLine; decide), fun u nu => ?_⟩
      have ku := same_new nu (HO.tup [V.str c.1])
      have hc2' := hok.ar c hcm
      refine ⟨_, rfl, r, _, 1, _, rfl, rfl, SqT.of (ku _ _ hr2), rfl, _, rfl, by omega, by omega, fun D2 nD2 => ?_⟩
      have sm2 := ku.trans (same_new nD2 (HO.lst []))
      refine lc_range (n := c.2) (fun i H' => ∃ (vs : List V) (ts : List Tm), H' D2 = some (.lst vs) ∧ vs.length = i ∧ TmsAt H' vs ts ∧ (∀ t ∈ ts, TmOver cs ns (d - 1) t) ∧ PoolAt H' a b ∧ But a H2 H' ∧ H' u = some (.tup [V.str c.1]))
        ⟨[], [], upd_same, rfl, .nil, fun _ h => (by cases h), pool_same hp2 sm2, But.of sm2, by rw [upd_ne (ne_of_none upd_same nD2)]; exact upd_same⟩ (fun i H' hi hh => ?_) (fun H' hh => ?_)
      · obtain ⟨vs, ts, g1, g2, g3, g4, g5, g6, g7⟩ := hh
        have hd1' : 1 < d := by rcases hcd with h | h <;> omega
        refine ⟨rfl, ?_⟩
        have ed : (d : Int) - 1 = ((d - 1 : Nat) : Int) := by omega
        refine ⟨_, rfl, _, rfl, _, rfl, _, rfl, _, _, rfl, rfl, a, b, cp, np, cs, ns, d - 1, ?_, g5, ?_, hok, (e12.trans g6).seqL hna hn, hna, hnl, by omega, by omega, fun v t H3 t1 t2 t3 t4 => ?_⟩
        · show [V.ref a, V.ref cp, V.ref np, V.int ((d : Int) - 1)] = _
          rw [ed]
        · exact ConsAt.keep (ConsAt.keep ⟨qs, hc1, hc2⟩ k2) (KeepT.but g6 hp2)
        have nDa : D2 ≠ a := pool_a (pool_same hp2 ku) nD2
        refine ⟨vs, t4 _ _ nDa g1, small1000 (by omega), vs ++ [v], ts ++ [t], upd_same, by rw [List.length_append, g2]; rfl, ?_, ?_, ?_, ?_, ?_⟩
        · have kk : KeepT H' H3 := KeepT.but t4 g5
          have k3 : KeepT H3 (upd H3 D2 (.lst (vs ++ [v]))) := fun x xs hx => by rw [upd_ne (ne_of hx (t4 _ _ nDa g1) (by intro z; cases z))]; exact hx
          exact (TmsAt.keep k3 _ _ (TmsAt.keep kk _ _ g3)).snoc (TmAt.keep k3 _ _ t1)
        · intro y hy
          rcases List.mem_append.mp hy with h | h
          · exact g4 y h
          · rw [List.mem_singleton.mp h]; exact t2
        · exact pool_upd t3 nDa (pool_b (pool_same hp2 ku) nD2)
        · exact fun x o hx hxo => by rw [upd_ne (ne_of_none (ku _ _ hxo) nD2)]; exact t4 _ _ hx (g6 _ _ hx hxo)
        · have huD : u ≠ D2 := ne_of_none upd_same nD2
          rw [upd_ne huD]
          exact KeepT.but t4 g5 _ _ g7
      · obtain ⟨vs, ts, g1, g2, g3, g4, g5, g6, g7⟩ := hh
        refine ⟨D2, vs, rfl, .inl ⟨SqL.of g1, fun l nl => ?_⟩⟩
        have kl := same_new nl (HO.tup vs)
        have hts : ts.length = c.2 := by rw [← TmsAt.length g3, g2]
        obtain ⟨d', rfl⟩ : ∃ d', d = d' + 1 := ⟨d - 1, by omega⟩
        have hov : TmOver cs ns (d' + 1) (.node c.1 ts) := ⟨by rw [hts]; exact hcm, g4⟩
        have eA : But a H H' := e12.trans g6
        refine ⟨u, l, _, _, rfl, rfl, SqT.of (kl _ _ g7), SqT.of upd_same, ?_, fun z => (by cases z), fun _ z => ?_, fun _ z p np' => ?_⟩
        · show 1 + vs.length ≤ sizeLine
          exact Nat.le_of_lt (small1000 (by omega))
        · subst z
          cases g3
          exact q (.ref u) (.node c.1 []) _ (.node (kl _ _ g7) .nil) hov (pool_same g5 kl) (eA.trans (But.of kl))
        · have kp := kl.trans (same_new np' (HO.tup (V.str c.1 :: vs)))
          exact q (.ref p) (.node c.1 ts) _ (.node upd_same (TmsAt.keep (KeepT.of kp) _ _ g3)) hov (pool_same g5 kp) (eA.trans (But.of kp))
theorem ok_term {f g e : Addr} {fd gd ed : FuncData} (F : Fun K "_law_term" "_law_term" sTerm f fd) (B : Blt mg) (G : FnOk P w K mg base CX0 2 g gd ["pool", "many"] spDraw) (bG : Binds K gd ["pool", "many"] [])
    (kG : PySem.W.keepIn K (.ref g) = true) (mG : mg "_law_draw" = some (.ref g)) (S : FnOk P w K mg base CX0 3 e ed ["pool", "items"] (spPick K)) (bS : Binds K ed ["pool", "items"] []) (kS : PySem.W.keepIn K (.ref e) = true) (mS : mg "_law_pick" = some (.ref e))
    (bR : Binds K fd ["pool", "constructors", "numbers", "deep"] []) (mR : mg "_law_term" = some (.ref f)) : ∀ n : Nat, FnOk P w K mg base CX0 (n + 3) f fd ["pool", "constructors", "numbers", "deep"] (spTerm K n)
  | 0 => none_left fun vs H Q E h => by
    obtain ⟨a, b, cp, np, cs, ns, d, _, _, _, _, _, _, _, h1, h2, _⟩ := h
    omega
  | n + 1 => ok_term1 F B G bG kG mG S bS kS mS (ok_term F B G bG kG mG S bS kS mS bR mR n) bR mR
end
end Cf
namespace Cf
open PySem L2
abbrev sPool : Stmt := top 8
def spPool (K : PySem.W.Frag) : Sp := fun vs H Q _ => ∃ (a : Addr) (ns : List Int), vs = [.ref a] ∧ SqL K H a (ns.map V.int) ∧ ns.length ≤ 63 ∧ ∀ (p b : Addr) (H' : Hp), PoolAt H' p b → Same H H' → H p = none → Q (.ref p) H'
section
variable {P : Program} {w : World} {K : PySem.W.Frag} {mg : Str → Option Value} {base : Heap}
theorem scPool : FnScope ["script", "salt", "cell"] ["script"] (defScope sPool) := ⟨rfl, rfl, rfl, by decide +kernel, rfl, by decide +kernel, by decide +kernel⟩
theorem ok_pool {f : Addr} {fd : FuncData} (F : Fun K "_law_pool" "_law_pool" sPool f fd) (B : Blt mg) : FnOk P w K mg base CX0 1 f fd ["script"] (spPool K) := by
  refine F.ok scPool (fun vs H Q E h => ?_) (fun cdv A outer s H vs Q E hr h => ?_)
  · obtain ⟨a, ns, rfl, _⟩ := h
    rfl
  obtain ⟨a, ns, rfl, hS, hl, q⟩ := h
  have nd := scPool.nd
  refine ⟨_, pss_cons (ps_set (i := 1) nd rfl (.inl rfl) pe_int)
    (pss_cons (ps_for PassesOwn.never rfl (pi_list (pe_slice sl_list (pv 0) po_none (po_some pe_int))) (pg_name (i := 2) nd rfl (.inl rfl))
      (pss_one (ps_set (i := 1) nd rfl (.inl rfl) (pe_op op_mod (pe_callTy call_int1 (by rfl) B.int (by decide +kernel) (pa_cons (pe_op op_add (pe_op op_mul (pv 1) pe_int) (pv 2)) pa_nil)) pe_int))))
    (pss_one (ps_ret (pe_lst (pa_cons (pe_callTy call_list_of (by rfl) B.list (by decide +kernel) (pa_cons (pv 0) pa_nil)) (pa_cons pe_int (pa_cons pe_int (pa_cons pe_int (pa_cons (pv 1) pa_nil))))))))), ?_⟩
  refine ⟨_, rfl, 63, rfl, a, _, rfl, hS, fun p np => ?_⟩
  have sm := same_new np (HO.lst (cutV (ns.map V.int) none (some 63)))
  have hsub : ∀ v ∈ cutV (ns.map V.int) none (some 63), ∃ i : Int, v = .int i := fun v hv => by
    have h1 := List.mem_of_mem_drop (List.mem_of_mem_take hv)
    obtain ⟨i, _, e⟩ := List.mem_map.mp h1
    exact ⟨i, e.symm⟩
  refine ⟨p, rfl, ⟨_, SqL.of upd_same⟩, ?_⟩
  refine for_list (xs := cutV (ns.map V.int) none (some 63)) (fun i σ H' => H' = upd H p (.lst (cutV (ns.map V.int) none (some 63))) ∧ ∃ (t : Int) (c : Option V), σ = [some (.ref a), some (.int t), c])
    ⟨rfl, _, _, rfl⟩ (fun i σ H' _ hp => by rw [hp.1]; exact SqL.of upd_same) (fun i x σ H' hx hp => ?_) (fun σ H' hp => ?_)
  · obtain ⟨rfl, t, c, rfl⟩ := hp
    obtain ⟨i, rfl⟩ := hsub x (List.mem_of_getElem? hx)
    refine ⟨_, rfl, _, _, rfl, rfl, .inr ⟨by decide, by decide⟩, _, rfl, _, _, rfl, rfl, .inl ⟨_, rfl, _, _, rfl, rfl, (by show (0 : Int) < _; decide), ?_⟩⟩
    exact ⟨rfl, _, _, rfl⟩
  · obtain ⟨rfl, t, c, rfl⟩ := hp
    refine ⟨_, rfl, a, _, rfl, .inl (sm.seq hS), fun l nl => ?_⟩
    refine ⟨_, rfl, (by show 5 ≤ sizeLine; decide), fun m nm => ?_⟩
    have s2 := sm.trans ((same_new nl (HO.lst (ns.map V.int))).trans (same_new nm (HO.lst [.ref l, .int 0, .int 0, .int 0, .int t])))
    refine q m l _ ⟨ns, 0, 0, 0, t, upd_same, ?_, hl, Int.le_refl 0⟩ s2 ((sm.trans (same_new nl (HO.lst (ns.map V.int)))).free nm)
    rw [upd_ne (ne_of_none upd_same nm), upd_same]
end
end Cf
namespace Cf
open PySem L2
abbrev sSame : Stmt := top 6
abbrev sIsInt : Stmt := top 7
/-- the same data to a depth, told by the heap -/
def Eqd (H : Hp) : Nat → V → V → Prop
  | 0, _, _ => False
  | n + 1, x, y => (x = y ∧ flatV x = true) ∨ ∃ (p q : Addr) (xs ys : List V), x = .ref p ∧ y = .ref q ∧ ((H p = some (.lst xs) ∧ H q = some (.lst ys)) ∨ (H p = some (.tup xs) ∧ H q = some (.tup ys))) ∧
      xs.length = ys.length ∧ xs.length ≤ 1000000 ∧ ∀ (i : Nat) (x y : V), xs[i]? = some x → ys[i]? = some y → Eqd H n x y
theorem Eqd.flat {H : Hp} {n : Nat} {x : V} (h : flatV x = true) : Eqd H (n + 1) x x := .inl ⟨rfl, h⟩
theorem Eqd.lst {H : Hp} {n : Nat} {p q : Addr} {xs ys : List V} (h1 : H p = some (.lst xs)) (h2 : H q = some (.lst ys)) (h3 : xs.length = ys.length) (h4 : xs.length ≤ 1000000)
    (h5 : ∀ (i : Nat) (x y : V), xs[i]? = some x → ys[i]? = some y → Eqd H n x y) : Eqd H (n + 1) (.ref p) (.ref q) := .inr ⟨p, q, xs, ys, rfl, rfl, .inl ⟨h1, h2⟩, h3, h4, h5⟩
theorem Eqd.tup {H : Hp} {n : Nat} {p q : Addr} {xs ys : List V} (h1 : H p = some (.tup xs)) (h2 : H q = some (.tup ys)) (h3 : xs.length = ys.length) (h4 : xs.length ≤ 1000000)
    (h5 : ∀ (i : Nat) (x y : V), xs[i]? = some x → ys[i]? = some y → Eqd H n x y) : Eqd H (n + 1) (.ref p) (.ref q) := .inr ⟨p, q, xs, ys, rfl, rfl, .inr ⟨h1, h2⟩, h3, h4, h5⟩
theorem Eqd.keep {H H' : Hp} (e : Same H H') : ∀ {n : Nat} {x y : V}, Eqd H n x y → Eqd H' n x y
  | 0, _, _, h => h
  | n + 1, _, _, h => by
    rcases h with h | ⟨p, q, xs, ys, rfl, rfl, h, h3, h4, h5⟩
    · exact .inl h
    · refine .inr ⟨p, q, xs, ys, rfl, rfl, ?_, h3, h4, fun i x y a b => Eqd.keep e (h5 i x y a b)⟩
      rcases h with ⟨a, b⟩ | ⟨a, b⟩
      · exact .inl ⟨e _ _ a, e _ _ b⟩
      · exact .inr ⟨e _ _ a, e _ _ b⟩
theorem Eqd.mono {H : Hp} : ∀ {n m : Nat} {x y : V}, n ≤ m → Eqd H n x y → Eqd H m x y
  | 0, _, _, _, _, h => h.elim
  | n + 1, 0, _, _, l, _ => by omega
  | n + 1, m + 1, _, _, l, h => by
    rcases h with h | ⟨p, q, xs, ys, rfl, rfl, h, h3, h4, h5⟩
    · exact .inl h
    · exact .inr ⟨p, q, xs, ys, rfl, rfl, h, h3, h4, fun i x y a b => Eqd.mono (by omega) (h5 i x y a b)⟩
def spSame (n : Nat) : Sp := fun vs H Q _ => ∃ x y : V, vs = [x, y] ∧ Eqd H n x y ∧ ∀ H', Same H H' → Q (.bl true) H'
/-- the name of a value's class -/
def TyN (H : Hp) : V → String → Prop
  | .non, T => T = "NoneType"
  | .bl _, T => T = "bool"
  | .int _, T => T = "int"
  | .str _, T => T = "str"
  | .ref p, T => (T = "list" ∧ ∃ xs, H p = some (.lst xs)) ∨ (T = "tuple" ∧ ∃ xs, H p = some (.tup xs)) ∨ (T = "dict" ∧ ∃ kvs, H p = some (.dK kvs))
  | _, _ => False
theorem tyx {K : PySem.W.Frag} {H : Hp} {v : V} {T : String} (h : TyN H v T) : TyX K H v (.type T) := by
  cases v with
  | non => cases (show T = "NoneType" from h); exact .base .non
  | bl b => cases (show T = "bool" from h); exact .base (.bl b)
  | int i => cases (show T = "int" from h); exact .base (.int i)
  | str z => cases (show T = "str" from h); exact .base (.str z)
  | ref p =>
    rcases h with ⟨rfl, xs, h⟩ | ⟨rfl, xs, h⟩ | ⟨rfl, xs, h⟩
    · exact .base (.lst h)
    · exact .base (.tup h)
    · exact .base (.dK h)
  | byt _ => exact (show False from h).elim
  | flt _ => exact (show False from h).elim
  | ty _ => exact (show False from h).elim
/-- isinstance(v, C), read -/
theorem isi {K : PySem.W.Frag} {H : Hp} {v : V} {T C : String} {b : Bool} {Q : VK} (h : TyN H v T) (k : kitB T C = some b) (q : Q (.bl b) H) : rIsi K [v, .ty C] H Q := ⟨v, .ty C, .type T, .type C, b, rfl, .ty C, tyx h, kit_ty k, q⟩
def spIsInt : Sp := fun vs H Q _ => ∃ (v : V) (T : String), vs = [v] ∧ TyN H v T ∧ Q (.bl (decide (T = "int"))) H
section
variable {P : Program} {w : World} {K : PySem.W.Frag} {mg : Str → Option Value} {base : Heap}
theorem scIsInt : FnScope ["actual"] ["actual"] (defScope sIsInt) := ⟨rfl, rfl, rfl, by decide +kernel, rfl, by decide +kernel, by decide +kernel⟩
theorem ok_isInt {f : Addr} {fd : FuncData} (F : Fun K "_law_is_integer" "_law_is_integer" sIsInt f fd) (B : Blt mg) : FnOk P w K mg base CX0 1 f fd ["actual"] spIsInt := by
  refine F.ok scIsInt (fun vs H Q E h => ?_) (fun cdv A outer s H vs Q E hr h => ?_)
  · obtain ⟨v, T, rfl, _⟩ := h
    rfl
  obtain ⟨v, T, rfl, hT, q⟩ := h
  refine ⟨_, pss_one (ps_ret (pe_and (pe_callB call_isi (by rfl) B.isinstance (by decide +kernel) (pa_cons (pv 0) (pa_cons (pe_bltn (v := .ty "int") (by rfl) B.int (by decide +kernel) rfl) pa_nil)))
    (pe_one (pe_not (pe_callB call_isi (by rfl) B.isinstance (by decide +kernel) (pa_cons (pv 0) (pa_cons (pe_bltn (v := .ty "bool") (by rfl) B.bool (by decide +kernel) rfl) pa_nil)))))))  , ?_⟩
  refine ⟨_, rfl, ?_⟩
  have hh := hT
  cases v with
  | non => cases (show T = "NoneType" from hT); exact ⟨_, _, _, _, false, rfl, .ty _, tyx hh, kit_ty (by decide +kernel), _, rfl, iteF q⟩
  | bl b => cases (show T = "bool" from hT); exact ⟨_, _, _, _, true, rfl, .ty _, tyx hh, kit_ty (by decide +kernel), _, rfl, iteT ⟨_, rfl, ⟨_, _, _, _, true, rfl, .ty _, tyx hh, kit_ty (by decide +kernel), _, rfl, q⟩⟩⟩
  | int i => cases (show T = "int" from hT); exact ⟨_, _, _, _, true, rfl, .ty _, tyx hh, kit_ty (by decide +kernel), _, rfl, iteT ⟨_, rfl, ⟨_, _, _, _, false, rfl, .ty _, tyx hh, kit_ty (by decide +kernel), _, rfl, q⟩⟩⟩
  | str z => cases (show T = "str" from hT); exact ⟨_, _, _, _, false, rfl, .ty _, tyx hh, kit_ty (by decide +kernel), _, rfl, iteF q⟩
  | ref p =>
    rcases hT with ⟨rfl, xs, h⟩ | ⟨rfl, xs, h⟩ | ⟨rfl, xs, h⟩
    · exact ⟨_, _, _, _, false, rfl, .ty _, tyx hh, kit_ty (by decide +kernel), _, rfl, iteF q⟩
    · exact ⟨_, _, _, _, false, rfl, .ty _, tyx hh, kit_ty (by decide +kernel), _, rfl, iteF q⟩
    · exact ⟨_, _, _, _, false, rfl, .ty _, tyx hh, kit_ty (by decide +kernel), _, rfl, iteF q⟩
  | byt _ => exact (show False from hT).elim
  | flt _ => exact (show False from hT).elim
  | ty _ => exact (show False from hT).elim
end
end Cf
namespace Cr
open PySem PySem.Spec PyProof.Rows L2
/-! list.extend by a tuple -/
theorem ext_tup (l b : Addr) (items items2 : Array Value) (n n2 : Nat) (od : Option Addr) (sl : Array (Option Value)) (h0 : ¬(!items.isEmpty && Builtin.List.listTooLong (items.size + items2.size)) = true)
    (h1 : items.size ≤ sizeLine) (h2 : (items ++ items2).size ≤ sizeLine + 1) :
    Meets (Builtin.«list.extend» ⟨[.ref l, .ref b], []⟩) (fun _ R s =>
      s.heap.get? l = some { cls := .type "list", dict := none, data := .seq items n, slots := #[] } ∧
      s.heap.get? b = some ⟨.type "tuple", od, .seq items2 n2, sl⟩ ∧
      R (.ok (.ret Value.none)) { s with heap := s.heap.update l (Obj.mapSeq fun x => x ++ items2), toks := s.toks }) :=
  .of_wp fun prog w A R s h => by
    obtain ⟨hp, g, d, tk, os⟩ := s
    obtain ⟨hl, hb, h⟩ := h
    have f1 := AutoSeq1.idx_int
    have f2 := AutoSeq1.sub_tuple_tuple
    have f3 := AutoSeq1.sub_list_list
    have f4 := AutoSeq1.sub_tuple_list
    have f5 := AutoSeq1.sub_list_tuple
    wp_walk using (wpAny_updateSeq hl rfl (hz := h1) (_hz' := h2)), AutoSeq1.wpAny_loadPart' hl, AutoSeq1.wpAny_loadPart' hb
    exact ⟨_, rfl, h⟩
def rExtT (K : PySem.W.Frag) : V → List V → Hp → VK → Prop := fun x vs H Q => ∃ (l b : Addr) (xs zs : List V), x = .ref l ∧ vs = [.ref b] ∧ H l = some (.lst xs) ∧ H b = some (.tup zs) ∧ xs.length + zs.length ≤ sizeLine ∧ Q .non (upd H l (.lst (xs ++ zs)))
theorem mt_extT {X : Cx} : MtM X "list.extend" (rExtT X.K) := by
  intro pins s σ H x vs v us Q I rx rv ⟨l, b, xs, zs, ex, evs, hL, hB, hz, q⟩
  subst ex evs
  obtain rfl : v = Value.ref l := rx
  obtain ⟨u, rfl, ru⟩ := rv.one
  obtain rfl : u = Value.ref b := ru
  obtain ⟨z1, i1, n1, r1, len1, e1⟩ := I.lstM hL
  obtain ⟨z2, i2, r2, ob, e2, c2, n2, d2⟩ := (show ObjOk X.prog X.w H s.heap b (.tup zs) from I.hok b _ hB)
  obtain ⟨oc, od, dt, sl⟩ := ob
  simp only at c2 d2
  subst c2 d2
  have len2 := r2.length
  have hh : (i1.toArray ++ i2.toArray).size ≤ sizeLine := by rw [Array.size_append, List.size_toArray, List.size_toArray]; omega
  have h0 : ¬(!i1.toArray.isEmpty && Builtin.List.listTooLong (i1.toArray.size + i2.toArray.size)) = true := by
    rw [notLongL (by rw [← Array.size_append]; exact hh), Bool.and_false]
    exact Bool.false_ne_true
  refine call_meets F.slot_list_extend ⟨_, e1, rfl⟩ F.entry_list_extend (F.args_list_extend_2 _ _)
    (ext_tup l b i1.toArray i2.toArray n1 n2 od sl h0 (by rw [List.size_toArray]; omega) (by omega)) ⟨e1, e2, ?_⟩
  exact ⟨.non, _, I.lset (its' := i1 ++ i2) hL e1 (by simp) (r1.append r2) (by rw [List.length_append]; exact hz), rfl, q⟩
/-! t[::-1] and t[:0:-1] of a tuple -/
theorem back_adjust {hi : Option Int} {k n : Nat} (h : (hi = none ∧ k = 0) ∨ (hi = some 0 ∧ k = 1 ∧ 0 < n)) : Builtin.Slice.sliceAdjust none hi (-1) (n : Int) = ((n : Int) - 1, (k : Int) - 1) := by
  rcases h with ⟨rfl, rfl⟩ | ⟨rfl, rfl, h⟩
  · rfl
  · have e : ¬ ((0 : Int) < 0) := by decide
    show ((n : Int) - 1, if (0 : Int) < 0 then max (0 + (n : Int)) (-1) else min 0 ((n : Int) - 1)) = _
    rw [if_neg e]
    exact Prod.ext rfl (by show min 0 ((n : Int) - 1) = ((1 : Nat) : Int) - 1; omega)
theorem back_places (k n : Nat) : Builtin.Slice.slicePlaces ((n : Int) - 1) ((k : Int) - 1) (-1) = n - k := by
  have e : ¬ ((-1 : Int) > 0) := by decide
  unfold Builtin.Slice.slicePlaces
  rw [if_neg e]
  by_cases h : (n : Int) - 1 > (k : Int) - 1
  · rw [if_pos h]
    show (((n : Int) - 1 - ((k : Int) - 1) - 1) / 1 + 1).toNat = n - k
    rw [Int.ediv_one]
    omega
  · rw [if_neg h]
    show 0 = n - k
    omega
theorem back_pick (xs : Array Value) (k : Nat) : ∀ c : Nat, c ≤ xs.size - k → (List.range c).filterMap (fun (m : Nat) => xs[((xs.size : Int) - 1 + (m : Int) * (-1)).toNat]?) = ((xs.toList.drop k).reverse).take c
  | 0, _ => by simp
  | c + 1, h => by
    have hl : (xs.toList.drop k).length = xs.size - k := by rw [List.length_drop, Array.length_toList]
    have e : ((xs.size : Int) - 1 + (c : Int) * (-1)).toNat = xs.size - 1 - c := by omega
    rw [List.range_succ, List.filterMap_append, back_pick xs k c (by omega), List.take_add_one, List.getElem?_reverse (by omega), List.getElem?_drop, hl]
    have e2 : k + (xs.size - k - 1 - c) = xs.size - 1 - c := by omega
    rw [e2, Array.getElem?_toList]
    congr 1
    rw [List.filterMap_cons, e]
    cases xs[xs.size - 1 - c]? <;> rfl
section
variable {prog : Program} {w : World} {A : Around} {E : Value → Shared → Prop} {s : Shared}
theorem applied_back {sl : Addr} {vl vu vs : Value} {hi : Option Int} {n k : Nat} {Q : Int × Int × Nat → Shared → Prop} (hs : s.heap.IsSliceOf sl vl vu vs) (pl : IsPart vl none) (pu : IsPart vu hi) (ps : IsPart vs (some (-1)))
    (hk : (hi = none ∧ k = 0) ∨ (hi = some 0 ∧ k = 1 ∧ 0 < n)) (h : Q ((n : Int) - 1, -1, n - k) s) : wpAny (model prog w) A (Builtin.Slice.sliceApplied (.ref sl) (pure (n : Int))) Q E s := by
  obtain ⟨ob, hob, _, hd⟩ := id hs
  unfold Builtin.Slice.sliceApplied Builtin.Slice.sliceFields
  have f2 : ∀ {R : Value × Value × Value → Shared → Prop}, R (vl, vu, vs) s → wpAny (model prog w) A (do return (← field (.ref sl) 0, ← field (.ref sl) 1, ← field (.ref sl) 2)) R E s := fun hR =>
    wpAny_bind (wpAny_field hob hd (x := vl) rfl (wpAny_bind (wpAny_field hob hd (x := vu) rfl (wpAny_bind (wpAny_field hob hd (x := vs) rfl (wpAny_pure hR))))))
  refine wpAny_bind (f2 (wpAny_bind (HT.slicePart_ ps ?_)))
  show wpAny _ _ (if ((-1 : Int) == 0) = true then _ else _) _ _ s
  rw [if_neg (by decide)]
  refine wpAny_bind (HT.slicePart_ pl (wpAny_bind (HT.slicePart_ pu (wpAny_bind (wpAny_pure ?_)))))
  show wpAny _ _ (match Builtin.Slice.sliceAdjust none hi (-1) (n : Int) with | (lo, up) => pure (lo, (-1 : Int), Builtin.Slice.slicePlaces lo up (-1))) _ _ s
  rw [back_adjust hk]
  show wpAny _ _ (pure ((n : Int) - 1, (-1 : Int), Builtin.Slice.slicePlaces ((n : Int) - 1) ((k : Int) - 1) (-1))) _ _ s
  rw [back_places]
  exact wpAny_pure h
theorem item_back {t sl : Addr} {items : Array Value} {vl vu vs : Value} {hi : Option Int} {k : Nat} {Q : Value → Shared → Prop} (ht : IsTup s.heap t items) (hs : s.heap.IsSliceOf sl vl vu vs) (pl : IsPart vl none) (pu : IsPart vu hi) (ps : IsPart vs (some (-1)))
    (hk : (hi = none ∧ k = 0) ∨ (hi = some 0 ∧ k = 1 ∧ 0 < items.size)) (hz : items.size ≤ sizeLine)
    (h : Q (.ref s.heap.objs.size) { s with heap := s.heap.push { cls := .type "tuple", data := .seq ((items.toList.drop k).reverse).toArray } }) : wpAny (model prog w) A (getItem (.ref t) (.ref sl)) Q E s := by
  obtain ⟨ob, hob, hc, _⟩ := id hs
  have isl : s.TypeIs (.ref sl) "slice" := ⟨ob, hob, hc⟩
  have room : sizeOk (.seq ((items.toList.drop k).reverse).toArray) := by
    show ((items.toList.drop k).reverse).toArray.size ≤ sizeLine
    rw [List.size_toArray, List.length_reverse, List.length_drop, Array.length_toList]
    omega
  unfold getItem
  try with_reducible refine wpAny_holding ?_
  first | refine wpAny_bind (wpAny_pure ?_) | skip
  refine wpAny_bind (wpAny_sequenceKey ht.typeIs (by decide) (wpAny_bind ?_))
  refine wpAny_callSpecial?_slot (name := Str.ofString "__getitem__") ht.typeIs PyProof.Rows.slot_tuple_getitem ?_
  refine wpAny_call_entry PyProof.Rows.slot_tuple_getitem ht.typeIs entry_tuple_getitem ?_ (args_tuple_getitem _ _)
  show wpAny _ _ (Builtin.Tuple.tupleItemsOf (.ref t) >>= _) _ _ s
  refine wpAny_bind (tupleItemsOf_ ht (wpAny_bind (wpAny_typeOf isl ?_)))
  rw [if_pos (by decide)]
  refine wpAny_bind (applied_back hs pl pu ps hk ?_)
  have hno : ¬ ((((items.size : Int) - 1 == 0) && ((-1 : Int) == 1) && (items.size - k == items.size)) = true) := by
    rw [show ((-1 : Int) == 1) = false by decide, Bool.and_false, Bool.false_and]
    exact Bool.false_ne_true
  show wpAny _ _ (if (((items.size : Int) - 1 == 0) && ((-1 : Int) == 1) && (items.size - k == items.size)) = true then _ else _) _ _ s
  have hp := back_pick items k (items.size - k) (Nat.le_refl _)
  rw [List.take_of_length_le (by rw [List.length_reverse, List.length_drop, Array.length_toList]; exact Nat.le_refl _)] at hp
  rw [if_neg hno, hp]
  first
    | exact wpAny_bind (m := Builtin.Tuple.tupleExact _) (wpAny_newObj_type (wpAny_pure ⟨_, rfl, wpAny_pure h⟩) room)
    | exact wpAny_bind (m := Builtin.Tuple.tupleExact _) (wpAny_newObj_type (wpAny_bind (wpAny_pure (wpAny_pure ⟨_, rfl, wpAny_pure h⟩))) room)
    | exact wpAny_bind (wpAny_bind (m := Builtin.Tuple.tupleExact _) (wpAny_newObj_type (wpAny_pure (wpAny_pure ⟨_, rfl, wpAny_pure h⟩)) room))
    | exact wpAny_bind (wpAny_bind (m := Builtin.Tuple.tupleExact _) (wpAny_newObj_type (wpAny_pure ⟨_, rfl, wpAny_pure h⟩) room))
end
section
variable {X : Cx}
/-- t[:hi:-1], hi left out or 0: k items at the front are left out, the rest backwards -/
def tBack (K : PySem.W.Frag) (te : TE) (tu : TO) : TE := fun σ H Q => te σ H fun x H1 => tu σ H1 fun u H2 => ∃ (a : Addr) (xs : List V) (k : Nat), x = .ref a ∧ SqT K H2 a xs ∧ ((u = none ∧ k = 0) ∨ (u = some 0 ∧ k = 1 ∧ 0 < xs.length)) ∧
  ∀ p, H2 p = none → Q (.ref p) (upd H2 p (.tup (xs.drop k).reverse))
theorem pe_back {e : Expr} {hi : Option Expr} {te : TE} {tu : TO} {kk : Nat} {p1 p2 p3 pos : Pos} (he : PE X e te) (hu : PO X hi tu) :
    PE X (.Subscript e (.Slice none hi (some (.UnaryOp .USub (.Constant (.int 1) kk p1) p2)) p3) pos) (tBack X.K te tu) := by
  refine ⟨fun pins s0 σ H0 Q I0 h => Subscript_ (thn (he.run pins s0 σ H0 _ I0 h) fun v s1 ⟨x, H1, I1, rx, q1⟩ => ?_)⟩
  have hst : PO X (some (.UnaryOp .USub (.Constant (.int 1) kk p1) p2)) (tPart (tUn (rU fun i => .int (-i)) (tC (.int 1)))) := po_some (pe_un un_neg pe_int)
  refine wpAny_Slice (thn (po_none.run pins s1 σ H1 (fun o G => o = none ∧ G = H1) I1 ⟨rfl, rfl⟩) fun vl s2 ⟨o1, G, I2, pl, eo, eG⟩ => ?_)
  subst eo eG
  refine thn (hu.run pins s2 σ G _ I2 q1) fun vu s3 ⟨u, G2, I3, pu, q2⟩ => ?_
  refine thn (hst.run pins s3 σ G2 (fun o G => o = some (-1) ∧ G = G2) I3 ⟨1, rfl, -1, rfl, rfl, rfl⟩) fun vs s4 ⟨o2, G3, I4, ps, eo2, eG2⟩ => ?_
  subst eo2 eG2
  obtain ⟨a, xs, k, ex, hx, hk, q⟩ := q2
  subst ex
  obtain rfl : v = Value.ref a := rx
  have I5 : Inv X pins σ G3 { s4 with heap := s4.heap.push { cls := .type "slice", data := .fields #[vl, vu, vs] } } := I4.kept (t' := s4.toks) fun b ob q => Heap.get?_push_of_some _ q
  obtain ⟨its, r, ht, hz⟩ := I5.tuple hx
  have hlen := r.length
  show wpAny (model X.prog X.w) X.A (subscriptTail e (.Slice none hi (some (.UnaryOp .USub (.Constant (.int 1) kk p1) p2)) p3) (.ref a) (.ref s4.heap.objs.size)) (EP X pins σ Q) X.xe _
  refine tail_any (ops := [.ref a, .ref s4.heap.objs.size]) ht.typeIs PyProof.Rows.slot_tuple_getitem.lookup ?_ (by with_unfolding_all rfl)
  refine item_back (k := k) ht (Heap.IsSliceOf.new _ vl vu vs) pl pu ps ?_ (by rw [List.size_toArray]; omega) ?_
  · rcases hk with h | ⟨h1, h2, h3⟩
    · exact .inl h
    · exact .inr ⟨h1, h2, by rw [List.size_toArray]; omega⟩
  refine ⟨.ref _, _, I5.laid (t' := s4.toks) (o := .tup (xs.drop k).reverse) (fun b ob q => Heap.get?_push_of_some _ q) (Nat.le_refl _) ?_, rfl, q _ (I5.hok.fresh (Nat.le_refl _))⟩
  exact ⟨by rw [List.length_reverse, List.length_drop]; omega, _, (r.drop k).reverse, IsTup.new _ _⟩
end
end Cr
namespace Cr
open PySem PySem.Spec PyProof.Rows L2
section
variable {J : It} {n : Nat} {G : Hp → Prop} {Y : Nat → Hp → V → Hp → Prop}
/-- a dict comprehension over a walk: what holds (Pv) by the turn and the heap, the new dict at D within it -/
theorem dc_it (walk : Walk J n G Y) {g : TG} {tt : TT} {tk tv : TE} {vs : List Nat} {σ : L2.St} {H1 : Hp} {D : Addr} {Qd : Hp → Prop} (Pv : Nat → Hp → Prop) (start : Pv 0 (upd H1 D (.dK []))) (stays : ∀ i H, i ≤ n → Pv i H → G H)
    (turn : ∀ i x H H', i < n → Pv i H → Y i H x H' → g x (wipe σ vs) H' fun σ2 H2 => wipe σ2 vs = wipe σ vs ∧ tt σ2 H2 fun b H3 =>
      if b = true then tk σ2 H3 fun y H4 => tv σ2 H4 fun z H5 => ∃ kvs k, y = kV k ∧ H5 D = some (.dK kvs) ∧ kvs.length < sizeLine ∧ Pv (i + 1) (upd H5 D (.dK (putK kvs k z))) else Pv (i + 1) H3) (fin : ∀ H, Pv n H → Qd H) :
    ∃ W : Nat → Nat → Hp → Prop, (∃ m, W 0 m (upd H1 D (.dK []))) ∧ ∀ i m H, W i m H →
      (J.stop i H ∧ Qd H) ∨ (J.go i H ∧ ∃ Nx : Hp → Prop, (∀ H', Nx H' → ∃ m', m' < m ∧ W (i + 1) m' H') ∧ ∀ x H', J.yld i H x H' → g x (wipe σ vs) H' fun σ2 H2 => wipe σ2 vs = wipe σ vs ∧ tt σ2 H2 fun b H3 =>
        if b = true then tk σ2 H3 fun y H4 => tv σ2 H4 fun z H5 => ∃ kvs k, y = kV k ∧ H5 D = some (.dK kvs) ∧ kvs.length < sizeLine ∧ Nx (upd H5 D (.dK (putK kvs k z))) else Nx H3) := by
  refine ⟨fun i m G' => (i ≤ n ∧ m = n - i) ∧ Pv i G', ⟨n, ⟨Nat.zero_le _, rfl⟩, start⟩, fun i m G' hw => ?_⟩
  obtain ⟨⟨hi, rfl⟩, p⟩ := hw
  have st := stays i G' hi p
  rcases Nat.lt_or_ge i n with hlt | hge
  · exact .inr ⟨walk.goes i G' hlt st, Pv (i + 1), fun H' p' => ⟨n - (i + 1), by omega, ⟨hlt, rfl⟩, p'⟩, fun x H' y => turn i x G' H' hlt p (walk.yields i G' x H' hlt st y)⟩
  · obtain rfl : i = n := by omega
    exact .inl ⟨walk.stops G' st, fin G' p⟩
end
/-- how many different ints are in a list -/
def many (ns : List Int) : Nat := (firstMet (fun i => ns.getD i 0) ns.length).length
section
variable {X : Cx}
def tSize (K : PySem.W.Frag) (ta : TE) : TE := fun σ H Q => ta σ H fun x H1 => ∃ (l : Addr) (ns : List Int), x = .ref l ∧ SqL K H1 l (ns.map V.int) ∧ ns.length ≤ 4000 ∧ Q (.int (many ns : Nat)) H1
/-- len(set(xs)), xs a list of ints -/
theorem pe_lenSet {e : Expr} {ta : TE} {p p2 q pos : Pos} (gl : Gl X "len") (ml : X.mg "len" = none) (gs : Gl X "set") (ms : X.mg "set" = none) (ha : PE X e ta) (hc : X.calm = true := by rfl)
    (na : starEach [e] X.env = (false, eval e X.env) :: starEach [] X.env := by rfl) : PE X (.Call (.Name "len" p) [.Call (.Name "set" p2) [e] [] q] [] pos) (tSize X.K ta) := by
  refine ⟨fun pins s σ H Q I h => Call_ (ld_blt I gl ml boot_len (PyProof.Rows.callWith_builtin1 (PyProof.Rows.args_cons (Call_ (ld_blt I gs ms boot_set ?_)) rfl) rfl rfl))⟩
  refine PyProof.Rows.callWith_type1 (PyProof.Rows.args_cons (thn (ha.run pins s σ H _ I h) fun v s1 ⟨x, H1, I1, r1, q1⟩ => PyProof.Rows.args_nil ?_) na) na rfl
  obtain ⟨l, ns, ex, hq, hl, q1⟩ := q1
  subst ex
  obtain rfl : v = Value.ref l := r1
  obtain ⟨its, r, pl, hz⟩ := I1.list hq
  have es : its.toArray.size = ns.length := by rw [List.size_toArray, ← r.length, List.length_map]
  refine call_set_list (I1.ok.hd hc) pl.isList (by simpa using RZ.intsAre_vals r) (by rw [es]; unfold scanBound; omega) fun h' tk hS hk => PyProof.Rows.args_nil ?_
  rw [es] at hS
  obtain ⟨o, en, ep, t, ho, hex, hd, _, _, _, hf, hn⟩ := hS
  have lm := firstMet_length_le (fun i => ns.getD i 0) ns.length
  refine call_len_set ho hex hd hf (by rw [hn]; omega) ⟨.int (many ns : Nat), H1, (I1.kept (t' := tk) fun b o e => hk b o (Heap.lt_size e) e).tok _, ⟨_, by rw [hn]; rfl⟩, q1⟩
end
end Cr
namespace Cr
open PySem PySem.Spec PyProof.Rows L2
/-! list(zip(a, b)) of two tuples -/
theorem zip_len0 : typeLookup (.type "zip") "__len__" = pure none := by rw [typeLookup_type, builtinLookup_eq_fast]; kernel_rfl
theorem zip_hint0 : typeLookup (.type "zip") "__length_hint__" = pure none := by rw [typeLookup_type, builtinLookup_eq_fast]; kernel_rfl
section
variable {prog : Program} {w : World} {A : Around} {E : Value → Shared → Prop} {s : Shared}
theorem hintZ {z : Addr} (hT : s.TypeIs (.ref z) "zip") {Q : Bool → Shared → Prop} (q : Q true s) : wpAny (model prog w) A (Builtin.List.listLengthHint (.ref z)) Q E s := by
  unfold Builtin.List.listLengthHint
  refine wpAny_bind (wpAny_specialOf hT zip_len0 ?_)
  refine wpAny_bind (wpAny_specialOf hT zip_hint0 ?_)
  exact wpAny_pure q
variable {z I O T i1 i2 a b : Addr} {f : Bool} {o : Obj} {i j : Nat} {us vs : Array Value} {u v : Value}
/-- the next pair, the one before being held -/
theorem heldT {Q : Option Value → Shared → Prop} (D : ZipApart z I O i1 i2 a b) (hz : IsZipHeld s.heap z I O T f) (hT : s.heap.get? T = some o) (hI : IsPair s.heap I (.ref i1) (.ref i2)) (g1 : s.heap.IsTupleIter i1 a i) (g2 : s.heap.IsTupleIter i2 b j)
    (ha : s.heap.IsTuple a us) (hb : s.heap.IsTuple b vs) (eu : us[i]? = some u) (ev : vs[j]? = some v)
    (q : ∀ h', IsZipHeld h' z I O T true → h'.IsTupleIter i1 a (i + 1) → h'.IsTupleIter i2 b (j + 1) → IsPair h' s.heap.objs.size u v → h'.objs.size = s.heap.objs.size + 1 →
      (∀ c y, c ≠ z → c ≠ i1 → c ≠ i2 → s.heap.get? c = some y → h'.get? c = some y) → Q (some (.ref s.heap.objs.size)) { s with heap := h' }) : wpAny (model prog w) A (pyNext (.ref z)) Q E s := by
  have ty : s.TypeIs (.ref z) "zip" := ⟨_, hz, rfl⟩
  unfold pyNext
  refine wpAny_bind (wpAny_attempt (wpAny_callSpecial?_slot (name := Str.ofString "__next__") ty F.slot_zip_next (wpAny_call_entry F.slot_zip_next ty F.entry_zip_next ?_ (F.args_zip_next_1 _))))
  show wpAny _ _ (field (.ref z) 2 >>= fun _ => _) _ _ _
  refine wpAny_bind (wpAny_field hz rfl (x := .bool false) rfl ?_)
  show wpAny _ _ (field (.ref z) 3 >>= fun _ => _) _ _ _
  refine wpAny_bind (wpAny_field hz rfl (x := .ref I) rfl ?_)
  refine wpAny_bind (wpAny_seqItems hI rfl ?_)
  show wpAny _ _ (Builtin.SmallTypes.ownedTupleIsFree (.ref z) >>= fun _ => _) _ _ _
  refine wpAny_bind (wpAny_tupleHeld_zip hz hT fun p1 z1 c1 => ?_)
  simp only [Bool.false_eq_true, if_false]
  refine wpAny_bind ?_
  rw [← Array.forIn_toList]
  simp only [List.forIn_cons, List.forIn_nil]
  refine wpAny_bind (wpAny_bind (wpAny_holding ?_))
  show wpAny _ _ (Builtin.SmallTypes.nextOf (.ref i1) >>= fun _ => _) _ _ _
  refine wpAny_bind (RZ.nextOf_tuple_item (s := { s with heap := p1 }) (g1.extBut c1.extBut D.i1z) (ha.extBut c1.extBut D.l1z) eu fun p2 k2 c2 => wpAny_pure (wpAny_pure ?_))
  refine wpAny_bind (wpAny_bind (wpAny_holding ?_))
  show wpAny _ _ (Builtin.SmallTypes.nextOf (.ref i2) >>= fun _ => _) _ _ _
  refine wpAny_bind (RZ.nextOf_tuple_item (s := { s with heap := p2 }) ((g2.extBut c1.extBut D.i2z).extBut c2.extBut D.i12.symm) ((hb.extBut c1.extBut D.l2z).extBut c2.extBut D.l2i1) ev fun p3 k3 c3 => wpAny_pure (wpAny_pure (wpAny_pure ?_)))
  show wpAny _ _ (newTuple [u, v] >>= fun _ => _) _ _ _
  refine wpAny_bind (wpAny_newTuple ?_)
  have sz : p3.objs.size = s.heap.objs.size := by rw [c3.1, c2.1, c1.1]
  have z3 : IsZipHeld p3 z I O T true := c3.extBut _ _ D.i2z.symm (c2.extBut _ _ D.i1z.symm z1)
  have k1 : p3.IsTupleIter i1 a (i + 1) := k2.extBut c3.extBut D.i12
  have new : IsPair (p3.push { cls := .type "tuple", data := .seq #[u, v] }) p3.objs.size u v := Heap.get?_push_size _ rfl
  have s4 : (p3.push { cls := .type "tuple", data := .seq #[u, v] }).objs.size = p3.objs.size + 1 := Heap.size_push ..
  have fin := q (p3.push { cls := .type "tuple", data := .seq #[u, v] }) (Heap.get?_push_of_some _ z3) (k1.at fun y e => Heap.get?_push_of_some _ e) (k3.at fun y e => Heap.get?_push_of_some _ e) (sz ▸ new) (sz ▸ s4)
    fun c y h1 h2 h3 e => Heap.get?_push_of_some _ (c3.extBut _ _ h3 (c2.extBut _ _ h2 (c1.extBut _ _ h1 e)))
  rw [← sz] at fin
  exact wpAny_pure ⟨_, rfl, wpAny_pure fin⟩
theorem heldT_end {Q : Option Value → Shared → Prop} (hh : A.handled = none) (D : ZipApart z I O i1 i2 a b) (hz : IsZipHeld s.heap z I O T f) (hT : s.heap.get? T = some o) (hI : IsPair s.heap I (.ref i1) (.ref i2)) (g1 : s.heap.IsTupleIter i1 a i) (g2 : s.heap.IsTupleIter i2 b j)
    (ha : s.heap.IsTuple a us) (hb : s.heap.IsTuple b vs) (out : us[i]? = none ∨ vs[j]? = none)
    (q : ∀ h', (∀ c y, c ≠ z → c ≠ i1 → c ≠ i2 → s.heap.get? c = some y → h'.get? c = some y) → Q none { s with heap := h' }) : wpAny (model prog w) A (pyNext (.ref z)) Q E s := by
  have ty : s.TypeIs (.ref z) "zip" := ⟨_, hz, rfl⟩
  unfold pyNext
  have stop : ∀ (h' : Heap) (e : Addr), (∀ c y, c ≠ z → c ≠ i1 → c ≠ i2 → s.heap.get? c = some y → h'.get? c = some y) → (∃ y, h'.get? e = some y ∧ y.cls = .type "StopIteration") →
      wpAny (model prog w) A (do if ← isInstance (.ref e) (.type "StopIteration") then return (none : Option Value) else throw (.ref e)) Q E { s with heap := h' } := fun h' e k ⟨y, h1, h2⟩ =>
    wpAny_bind (wpAny_isInstance (T := "StopIteration") (b := true) ⟨y, h1, h2⟩ isSubtype_stop (wpAny_pure (q _ k)))
  refine wpAny_bind (wpAny_attempt (wpAny_callSpecial?_slot (name := Str.ofString "__next__") ty F.slot_zip_next (wpAny_call_entry F.slot_zip_next ty F.entry_zip_next ?_ (F.args_zip_next_1 _))))
  show wpAny _ _ (field (.ref z) 2 >>= fun _ => _) _ _ _
  refine wpAny_bind (wpAny_field hz rfl (x := .bool false) rfl ?_)
  show wpAny _ _ (field (.ref z) 3 >>= fun _ => _) _ _ _
  refine wpAny_bind (wpAny_field hz rfl (x := .ref I) rfl ?_)
  refine wpAny_bind (wpAny_seqItems hI rfl ?_)
  show wpAny _ _ (Builtin.SmallTypes.ownedTupleIsFree (.ref z) >>= fun _ => _) _ _ _
  refine wpAny_bind (wpAny_tupleHeld_zip hz hT fun p1 z1 c1 => ?_)
  simp only [Bool.false_eq_true, if_false]
  refine wpAny_bind ?_
  rw [← Array.forIn_toList]
  simp only [List.forIn_cons, List.forIn_nil]
  refine wpAny_bind (wpAny_bind (wpAny_holding ?_))
  show wpAny _ _ (Builtin.SmallTypes.nextOf (.ref i1) >>= fun _ => _) _ _ _
  cases eu : us[i]? with
  | none =>
    refine wpAny_bind (RZ.nextOf_tuple_end (s := { s with heap := p1 }) hh (g1.extBut c1.extBut D.i1z) (ha.extBut c1.extBut D.l1z) eu fun p2 e c2 he => ?_)
    exact stop p2 e (fun c y h1 h2 _ x => c2 _ _ h2 (c1.extBut _ _ h1 x)) he
  | some u =>
    have ev : vs[j]? = none := by rcases out with h | h; rw [eu] at h; cases h; exact h
    refine wpAny_bind (RZ.nextOf_tuple_item (s := { s with heap := p1 }) (g1.extBut c1.extBut D.i1z) (ha.extBut c1.extBut D.l1z) eu fun p2 k2 c2 => wpAny_pure (wpAny_pure ?_))
    refine wpAny_bind (wpAny_bind (wpAny_holding ?_))
    show wpAny _ _ (Builtin.SmallTypes.nextOf (.ref i2) >>= fun _ => _) _ _ _
    refine wpAny_bind (RZ.nextOf_tuple_end (s := { s with heap := p2 }) hh ((g2.extBut c1.extBut D.i2z).extBut c2.extBut D.i12.symm) ((hb.extBut c1.extBut D.l2z).extBut c2.extBut D.l2i1) ev fun p3 e c3 he => ?_)
    exact stop p3 e (fun c y h1 h2 h3 x => c3 _ _ h3 (c2.extBut _ _ h2 (c1.extBut _ _ h1 x))) he
/-- a zip of the tuples a and b, k pairs given out, the last one at lo or above -/
def ZSt (h : Heap) (z I O i1 i2 a b : Addr) (lo k : Nat) : Prop := IsPair h I (.ref i1) (.ref i2) ∧ h.IsTupleIter i1 a k ∧ h.IsTupleIter i2 b k ∧
  ((IsZip h z I O .none ∧ ∃ x y, IsPair h O x y) ∨ ∃ (T : Addr) (f : Bool) (o : Obj), IsZipHeld h z I O T f ∧ h.get? T = some o ∧ lo ≤ T)
theorem off {S T : Addr} {lo : Nat} (h : S < lo) (k : lo ≤ T) : T ≠ S := Nat.ne_of_gt (Nat.lt_of_lt_of_le h k)
theorem ZSt.keep {h h' : Heap} {lo k : Nat} {S : Addr} (x : ZSt h z I O i1 i2 a b lo k) (e : ∀ c y, c ≠ S → h.get? c = some y → h'.get? c = some y) (hS : S < lo) (n1 : z ≠ S) (n2 : I ≠ S) (n3 : O ≠ S) (n4 : i1 ≠ S) (n5 : i2 ≠ S) : ZSt h' z I O i1 i2 a b lo k := by
  obtain ⟨x1, x2, x3, x4⟩ := x
  refine ⟨e _ _ n2 x1, x2.at fun y q => e _ y n4 q, x3.at fun y q => e _ y n5 q, ?_⟩
  rcases x4 with ⟨x4, p, q, x5⟩ | ⟨T, f, o, x4, x5, x6⟩
  · exact .inl ⟨e _ _ n1 x4, p, q, e _ _ n3 x5⟩
  · exact .inr ⟨T, f, o, e _ _ n1 x4, e _ _ (off hS x6) x5, x6⟩
theorem ZSt.next {lo k : Nat} {Q : Option Value → Shared → Prop} (D : ZipApart z I O i1 i2 a b) (x : ZSt s.heap z I O i1 i2 a b lo k) (hlo : lo ≤ s.heap.objs.size) (lz : z < lo) (lI : I < lo) (l1 : i1 < lo) (l2 : i2 < lo) (ha : s.heap.IsTuple a us) (hb : s.heap.IsTuple b vs) (eu : us[k]? = some u) (ev : vs[k]? = some v)
    (q : ∀ h', ZSt h' z I O i1 i2 a b lo (k + 1) → IsPair h' s.heap.objs.size u v → h'.objs.size = s.heap.objs.size + 1 → (∀ c y, c ≠ z → c ≠ O → c ≠ i1 → c ≠ i2 → s.heap.get? c = some y → h'.get? c = some y) → Q (some (.ref s.heap.objs.size)) { s with heap := h' }) :
    wpAny (model prog w) A (pyNext (.ref z)) Q E s := by
  obtain ⟨x1, x2, x3, x4⟩ := x
  rcases x4 with ⟨x4, p, r, x5⟩ | ⟨T, f, o, x4, x5, x6⟩
  · exact RZ.pyNext_zipT_item D x4 x1 x5 x2 x3 ha hb eu ev fun h' y1 y2 y3 y4 y5 y6 y7 => q h' ⟨y7 _ _ D.TIz D.TITO D.TIi1 D.TIi2 x1, y3, y4, .inr ⟨_, false, _, y1, y5, hlo⟩⟩ y5 y6 y7
  · exact heldT D x4 x5 x1 x2 x3 ha hb eu ev fun h' y1 y3 y4 y5 y6 y7 => q h' ⟨y7 _ _ D.TIz D.TIi1 D.TIi2 x1, y3, y4, .inr ⟨T, true, o, y1, y7 _ _ (off lz x6) (off l1 x6) (off l2 x6) x5, x6⟩⟩ y5 y6 fun c y h1 _ h3 h4 e => y7 c y h1 h3 h4 e
theorem ZSt.stop {lo k : Nat} {Q : Option Value → Shared → Prop} (hh : A.handled = none) (D : ZipApart z I O i1 i2 a b) (x : ZSt s.heap z I O i1 i2 a b lo k) (ha : s.heap.IsTuple a us) (hb : s.heap.IsTuple b vs) (out : us[k]? = none ∨ vs[k]? = none)
    (q : ∀ h', (∀ c y, c ≠ z → c ≠ O → c ≠ i1 → c ≠ i2 → s.heap.get? c = some y → h'.get? c = some y) → Q none { s with heap := h' }) : wpAny (model prog w) A (pyNext (.ref z)) Q E s := by
  obtain ⟨x1, x2, x3, x4⟩ := x
  rcases x4 with ⟨x4, p, r, x5⟩ | ⟨T, f, o, x4, x5, x6⟩
  · exact RZ.pyNext_zipT_end hh D x4 x1 x5 x2 x3 ha hb out q
  · exact heldT_end hh D x4 x5 x1 x2 x3 ha hb out fun h' k => q h' fun c y h1 _ h3 h4 e => k c y h1 h3 h4 e
/-- the pairs made -/
def ZGot (h : Heap) (us vs : Array Value) (lo : Nat) (as : List Addr) : Prop := as.Nodup ∧ ∀ (j : Nat) (T : Addr), as[j]? = some T → lo ≤ T ∧ ∃ u v, us[j]? = some u ∧ vs[j]? = some v ∧ IsPair h T u v
theorem ZGot.keep {h h' : Heap} {lo : Nat} {as : List Addr} (g : ZGot h us vs lo as) (e : ∀ c y, lo ≤ c → h.get? c = some y → h'.get? c = some y) : ZGot h' us vs lo as :=
  ⟨g.1, fun j T t => by obtain ⟨h1, u, v, h2, h3, h4⟩ := g.2 j T t; exact ⟨h1, u, v, h2, h3, e _ _ h1 h4⟩⟩
theorem ZGot.there {h : Heap} {lo : Nat} {as : List Addr} (g : ZGot h us vs lo as) {T : Addr} (t : T ∈ as) : T < h.objs.size := by
  obtain ⟨j, hj⟩ := List.mem_iff_getElem?.mp t
  obtain ⟨_, _, _, _, _, e⟩ := g.2 j T hj
  exact Heap.lt_size e
theorem zloop {S lo n : Nat} {R : Result → Shared → Prop} (hh : A.handled = none) (D : ZipApart z I O i1 i2 a b) (lS : S < lo) (lz : z < lo) (lI : I < lo) (lO : O < lo) (l1 : i1 < lo) (l2 : i2 < lo) (n1 : z ≠ S) (n2 : I ≠ S) (n3 : O ≠ S) (n4 : i1 ≠ S) (n5 : i2 ≠ S)
    (na : a ≠ S) (nb : b ≠ S) (aO : a ≠ O) (bO : b ≠ O) (lu : n ≤ us.size) (lv : n ≤ vs.size) (end_ : us.size ≤ n ∨ vs.size ≤ n) (hn : n ≤ sizeLine) (res : Value) {h0 : Heap}
    (fin : ∀ h' tk acc c as, (∀ b o, b < lo → b ≠ S → b ≠ z → b ≠ O → b ≠ i1 → b ≠ i2 → h0.get? b = some o → h'.get? b = some o) → h'.get? S = some { cls := .type "list", dict := none, data := .seq acc c, slots := #[] } → as.length = n → ZGot h' us vs lo as →
      acc.toList = as.map Value.ref → R (.ok (.ret res)) { s with heap := h', toks := tk }) :
    ∀ (k i : Nat) (h : Heap) (tk c : Nat) (acc : Array Value) (as : List Addr), n - i = k → i ≤ n → lo ≤ h.objs.size → ZSt h z I O i1 i2 a b lo i → h.IsTuple a us → h.IsTuple b vs → (∀ b o, b < lo → b ≠ S → b ≠ z → b ≠ O → b ≠ i1 → b ≠ i2 → h0.get? b = some o → h.get? b = some o) →
      h.get? S = some { cls := .type "list", dict := none, data := .seq acc c, slots := #[] } → acc.toList = as.map Value.ref → as.length = i → ZGot h us vs lo as →
      codeAny (model prog w) A (.builtin "list.extend.loop" ⟨[.ref S, .ref z, res], []⟩) R { s with heap := h, toks := tk } := by
  intro k
  induction k with
  | zero =>
    intro i h tk c acc as hk hi hlo st ha hb keep hS hacc hal got
    refine codeAny_builtin PySem.F.entry_extend_loop ?_
    rw [Around.under_plainId PySem.F.plain_extend_loop _]
    show wpAny _ A.in1 (pyNext (.ref z) >>= fun _ => _) _ _ _
    have out : us[i]? = none ∨ vs[i]? = none := by
      rcases end_ with e | e
      · exact .inl (Array.getElem?_eq_none (by omega))
      · exact .inr (Array.getElem?_eq_none (by omega))
    refine wpAny_bind (ZSt.stop (s := { s with heap := h, toks := tk }) (A := A.in1) hh D st ha hb out fun h' e => ?_)
    exact wpAny_pure (fin h' tk acc c as (fun b o h1 h2 h3 h4 h5 h6 q => e b o h3 h4 h5 h6 (keep b o h1 h2 h3 h4 h5 h6 q)) (e S _ n1.symm n3.symm n4.symm n5.symm hS) (by omega) (got.keep fun c y hc q => e c y (off lz hc) (off lO hc) (off l1 hc) (off l2 hc) q) hacc)
  | succ k ih =>
    intro i h tk c acc as hk hi hlo st ha hb keep hS hacc hal got
    have eu : us[i]? = some us[i] := Array.getElem?_eq_getElem (by omega)
    have ev : vs[i]? = some vs[i] := Array.getElem?_eq_getElem (by omega)
    have hsz : acc.size = i := by rw [← Array.length_toList, hacc, List.length_map, hal]
    refine codeAny_builtin PySem.F.entry_extend_loop ?_
    rw [Around.under_plainId PySem.F.plain_extend_loop _]
    show wpAny _ A.in1 (pyNext (.ref z) >>= fun _ => _) _ _ _
    refine wpAny_bind (ZSt.next (s := { s with heap := h, toks := tk }) D st hlo lz lI l1 l2 ha hb eu ev fun h' st' new sz e => ?_)
    dsimp only at new sz e ⊢
    have hS' := e S _ n1.symm n3.symm n4.symm n5.symm hS
    have up : ∀ b o, b ≠ S → h'.get? b = some o → (h'.update S (Obj.mapSeq (·.push (Value.ref h.objs.size)))).get? b = some o := fun b o hb q => (Heap.get?_update_other _ _ (Ne.symm hb)).trans q
    have two : ∀ c y, lo ≤ c → h.get? c = some y → (h'.update S (Obj.mapSeq (·.push (Value.ref h.objs.size)))).get? c = some y := fun c y hc q => up c y (off lS hc) (e c y (off lz hc) (off lO hc) (off l1 hc) (off l2 hc) q)
    show wpAny _ A.in1 (updateSeq S (·.push (Value.ref h.objs.size)) >>= fun _ => _) _ _ _
    refine wpAny_bind (wpAny_updateSeq hS' rfl (wpAny_pure ⟨plainId_quiet PySem.F.plain_extend_loop _, ih (i + 1) _ tk _ (acc.push (Value.ref h.objs.size)) (as ++ [h.objs.size]) (by omega) (by omega) ?_ (st'.keep up lS n1 n2 n3 n4 n5)
      ((ha.at fun o q => e a o D.l1z aO D.l1i1 D.l1i2 q).at fun o q => up a o na q) ((hb.at fun o q => e b o D.l2z bO D.l2i1 D.l2i2 q).at fun o q => up b o nb q) (fun b o h1 h2 h3 h4 h5 h6 q => up b o h2 (e b o h3 h4 h5 h6 (keep b o h1 h2 h3 h4 h5 h6 q))) (Heap.get?_update_self _ hS' rfl)
      (by rw [Array.toList_push, hacc, List.map_append]; rfl) (by rw [List.length_append, hal]; rfl) ?_⟩) (by rw [hsz]; omega) (by show (acc.push (Value.ref h.objs.size)).size ≤ sizeLine + 1; rw [Array.size_push]; omega))
    · have := Heap.lt_size (up _ _ (off lS hlo) new)
      exact Nat.le_of_lt (Nat.lt_of_le_of_lt hlo this)
    · refine ⟨?_, fun j T t => ?_⟩
      · refine List.nodup_append.mpr ⟨got.1, (by simp), fun x hx y hy z => ?_⟩
        have := got.there hx
        rw [List.mem_singleton.mp hy] at z
        exact absurd z (Nat.ne_of_lt this)
      · rcases Nat.lt_trichotomy j as.length with h1 | h1 | h1
        · rw [List.getElem?_append_left h1] at t
          obtain ⟨h2, u, v, h3, h4, h5⟩ := got.2 j T t
          exact ⟨h2, u, v, h3, h4, two _ _ h2 h5⟩
        · subst h1
          have e1 : h.objs.size = T := by simpa using t
          subst e1
          rw [hal]
          exact ⟨hlo, _, _, eu, ev, up _ _ (off lS hlo) new⟩
        · rw [List.getElem?_eq_none (by rw [List.length_append, List.length_singleton]; omega)] at t
          cases t
/-- list(z), z a zip of two tuples that has given nothing out -/
theorem call_listZ {n : Nat} {Q : Value → Shared → Prop} (hh : A.handled = none) (D : ZipApart z I O i1 i2 a b) (lz : z < s.heap.objs.size) (lI : I < s.heap.objs.size) (lO : O < s.heap.objs.size) (l1 : i1 < s.heap.objs.size) (l2 : i2 < s.heap.objs.size)
    (st : ZSt s.heap z I O i1 i2 a b (s.heap.objs.size + 1) 0) (ha : s.heap.IsTuple a us) (hb : s.heap.IsTuple b vs) (lu : n ≤ us.size) (lv : n ≤ vs.size) (end_ : us.size ≤ n ∨ vs.size ≤ n) (hn : n ≤ sizeLine)
    (q : ∀ h' tk acc c as, (∀ b o, b ≠ z → b ≠ O → b ≠ i1 → b ≠ i2 → s.heap.get? b = some o → h'.get? b = some o) → h'.get? s.heap.objs.size = some { cls := .type "list", dict := none, data := .seq acc c, slots := #[] } → as.length = n → ZGot h' us vs (s.heap.objs.size + 1) as →
      acc.toList = as.map Value.ref → Q (.ref s.heap.objs.size) { s with heap := h', toks := tk }) : wpAny (model prog w) A (call (.type "list") [.ref z]) Q E s := by
  refine callType_codes (Q₁ := fun x t => x = .ref s.heap.objs.size ∧ t = { s with heap := s.heap.push { cls := .type "list", data := .seq #[] } }) PySem.F.called_list (PySem.F.typeCall_list_1 _) PySem.F.entry_list_init (code_list_new _ ⟨rfl, rfl⟩) fun x t ht => ?_
  obtain ⟨rfl, rfl⟩ := ht
  have hS : (s.heap.push { cls := .type "list", data := .seq #[] }).get? s.heap.objs.size = some { cls := .type "list", data := .seq #[] } := Heap.get?_push_size _ rfl
  have old : ∀ (c : Addr) (y : Obj), s.heap.get? c = some y → c ≠ s.heap.objs.size := fun c y e => Nat.ne_of_lt (Heap.lt_size e)
  have la : a < s.heap.objs.size := let ⟨_, e, _⟩ := ha; Heap.lt_size e
  have lb : b < s.heap.objs.size := let ⟨_, e, _⟩ := hb; Heap.lt_size e
  refine ⟨⟨_, hS, rfl⟩, PySem.F.args_list_init_2 _ _, ?_⟩
  generalize hSz : s.heap.objs.size = S at *
  have tyz : ∃ y, s.heap.get? z = some y ∧ y.cls = .type "zip" := by
    rcases st.2.2.2 with ⟨x, _⟩ | ⟨_, _, _, x, _, _⟩
    · exact ⟨_, x, rfl⟩
    · exact ⟨_, x, rfl⟩
  have nzS : z ≠ S := Nat.ne_of_lt lz
  -- from a heap with the empty list at S and all else kept, the loop
  have go : ∀ (R : Result → Shared → Prop) (_ : ∀ t, Q (.ref S) t → R (.ok (.ret .none)) t) (h : Heap) (c tk : Nat), (∀ b o, b ≠ S → s.heap.get? b = some o → h.get? b = some o) → h.get? S = some { cls := .type "list", data := .seq #[] c } → h.objs.size = S + 1 →
      codeAny (model prog w) A.in1 (.builtin "list.extend.loop" ⟨[.ref S, .ref z, .none], []⟩) R { s with heap := h, toks := tk } := by
    intro R hR h c tk k hS' hz
    refine zloop (A := A.in1) (h0 := s.heap) (lo := S + 1) (n := n) hh D (Nat.lt_succ_self _) (Nat.lt_succ_of_lt lz) (Nat.lt_succ_of_lt lI) (Nat.lt_succ_of_lt lO) (Nat.lt_succ_of_lt l1) (Nat.lt_succ_of_lt l2) nzS (Nat.ne_of_lt lI) (Nat.ne_of_lt lO) (Nat.ne_of_lt l1) (Nat.ne_of_lt l2)
      (Nat.ne_of_lt la) (Nat.ne_of_lt lb) D.l1TO D.l2TO lu lv end_ hn .none (fun h' tk' acc c' as e hS2 hl got hacc => hR _ (q h' tk' acc c' as (fun b o h3 h4 h5 h6 x => e b o ?_ ?_ h3 h4 h5 h6 x) hS2 hl got hacc))
      n 0 h tk c #[] [] (Nat.sub_zero _) (Nat.zero_le _) (by rw [hz]; exact Nat.le_refl _) (st.keep k (Nat.lt_succ_self _) nzS (Nat.ne_of_lt lI) (Nat.ne_of_lt lO) (Nat.ne_of_lt l1) (Nat.ne_of_lt l2)) (ha.at fun o x => k a o (Nat.ne_of_lt la) x) (hb.at fun o x => k b o (Nat.ne_of_lt lb) x)
      (fun b o _ h2 _ _ _ _ x => k b o h2 x) hS' rfl rfl ⟨List.nodup_nil, fun j T t => by simp at t⟩
    · have := Heap.lt_size x
      rw [hSz] at this
      exact Nat.lt_succ_of_lt this
    · exact old b o x
  show wpAny _ _ (do let old ← Builtin.List.listItems (.ref S); Builtin.List.listUpdate (.ref S) (fun _ => #[]); letGo old.toList.reverse; Builtin.List.listExtendWith (.ref S) (.ref z) .none) _ _ _
  refine wpAny_bind ?_
  unfold Builtin.List.listItems
  refine wpAny_bind (wpAny_seqItems hS rfl (wpAny_pure ?_))
  show wpAny _ _ (updateSeq S (fun _ => #[]) >>= fun _ => letGo (#[] : Array Value).toList.reverse >>= fun _ => Builtin.List.listExtendWith (.ref S) (.ref z) .none) _ _ _
  refine wpAny_bind (wpAny_updateSeq hS rfl ?_)
  have hS2 := Heap.get?_update_self (Obj.mapSeq (fun _ => (#[] : Array Value))) hS rfl
  have oth : ∀ b o, b ≠ S → s.heap.get? b = some o → ((s.heap.push { cls := .type "list", data := .seq #[] }).update S (Obj.mapSeq (fun _ => (#[] : Array Value)))).get? b = some o := fun b o hb e =>
    (Heap.get?_update_other _ _ (Ne.symm hb)).trans (Heap.get?_push_of_some _ e)
  refine wpAny_bind (wpAny_letGo ?_)
  unfold Builtin.List.listExtendWith
  obtain ⟨oz, hoz, tz⟩ := tyz
  have hoz2 := oth z oz nzS hoz
  refine wpAny_bind (wpAny_typeOf (T := "zip") ⟨oz, hoz2, tz⟩ ?_)
  have e1 : Builtin.List.listSameRef (.ref S) (.ref z) = false := by simp [Builtin.List.listSameRef, nzS.symm]
  have e2 : (Value.type "zip" == Value.type "list") = false := by decide
  have e3 : (Value.type "zip" == Value.type "tuple") = false := by decide
  simp only [e1, e2, e3, Bool.or_false, Bool.false_eq_true, if_false]
  have iter : ∀ {A' : Around} {E' : Value → Shared → Prop} {R' : Value → Shared → Prop} {t : Shared}, (∀ b o, b ≠ S → s.heap.get? b = some o → t.heap.get? b = some o) → R' (.ref z) t → wpAny (model prog w) A' (pyIter (.ref z)) R' E' t := fun k r => by
    rcases st.2.2.2 with ⟨x, _⟩ | ⟨T, f, o, x, _, _⟩
    · exact wpAny_pyIter_zip (k _ _ nzS x) r
    · have hT : Shared.TypeIs _ (.ref z) "zip" := ⟨_, k _ _ nzS x, rfl⟩
      refine wpAny_pyIter_slot hT F.slot_zip_iter (wpAny_call_entry F.slot_zip_iter hT F.entry_zip_iter ?_ (F.args_zip_iter_1 _))
      exact wpAny_pure ⟨_, rfl, "zip", _, hT, F.slot_zip_next.lookup, r⟩
  refine wpAny_bind (iter oth ?_)
  refine wpAny_bind (wpAny_holding (hintZ ⟨oz, hoz2, tz⟩ ?_))
  refine wpAny_ite_split (fun _ => ?_) (fun c => absurd rfl c)
  refine wpAny_bind (wpAny_rule ?_)
  refine wpAny_bind ?_
  show wpAny _ _ (updateSeq S (·.push .none) >>= fun _ => updateSeq S (·.pop)) _ _ _
  refine wpAny_bind (wpAny_updateSeq hS2 rfl ?_)
  have hS3 := Heap.get?_update_self (Obj.mapSeq (·.push Value.none)) hS2 rfl
  refine wpAny_updateSeq (hz := by seq_fits) hS3 rfl ?_
  have hS4 := Heap.get?_update_self (Obj.mapSeq (·.pop)) hS3 rfl
  refine wpAny_pure ⟨plainId_quiet PySem.F.plain_extend_loop _, go _ (fun t x => ⟨rfl, x⟩) _ _ _ (fun b o hb e => ?_) hS4 ?_⟩
  · exact (Heap.get?_update_other _ _ (Ne.symm hb)).trans ((Heap.get?_update_other _ _ (Ne.symm hb)).trans (oth b o hb e))
  · rw [Heap.size_update, Heap.size_update, Heap.size_update, Heap.size_push, hSz]
end
section
variable {X : Cx} {pins : List (Addr × Obj)} {σ : L2.St} {H H' : Hp} {s : Shared} {h' : Heap}
/-- several new things laid at once -/
theorem inv_many {t' : Nat} (I : Inv X pins σ H s) (k : ∀ b u, s.heap.get? b = some u → h'.get? b = some u) (same : ∀ b o, H b = some o → H' b = some o) (new : ∀ b o, H' b = some o → H b = none → s.heap.objs.size ≤ b ∧ ObjOk X.prog X.w H' h' b o) :
    Inv X pins σ H' { s with heap := h', toks := t' } := by
  refine I.un ⟨fun b u q _ _ _ => k b u q, fun b u q _ _ _ => ⟨u.slots, k b u q⟩, fun b u q n _ => ?_, fun b u q _ => ⟨u, k b u q⟩, fun b xs q => same _ _ q, fun b u xs q => same _ _ q, fun b ps q => ⟨#[], by rw [same _ _ q]; simp⟩⟩ fun b u e => ?_
  · cases hb : H' b with
    | none => rfl
    | some o => exact absurd (Heap.lt_size q) (Nat.not_lt.mpr (new b o hb n).1)
  · cases hb : H b with
    | none => exact (new b u e hb).2
    | some o =>
      have e2 := (same b o hb).symm.trans e
      cases e2
      exact (I.hok b u hb).stay (fun c v _ q => k c v q) (fun c q => same _ _ q) fun c xs q => same _ _ q
theorem refs_vals : ∀ as : List Addr, Vals (as.map V.ref) (as.map Value.ref)
  | [] => .nil
  | _ :: r => .cons rfl (refs_vals r)
/-- the pair that stands at an address -/
def zlook : List Addr → List V → List V → Addr → Option (V × V)
  | T :: Ts, x :: xs, y :: ys, b => if b = T then some (x, y) else zlook Ts xs ys b
  | _, _, _, _ => none
theorem zlook_some {b : Addr} {x y : V} : ∀ {Ts : List Addr} {xs ys : List V}, zlook Ts xs ys b = some (x, y) → ∃ j : Nat, Ts[j]? = some b ∧ xs[j]? = some x ∧ ys[j]? = some y
  | [], _, _, h => by simp [zlook] at h
  | _ :: _, [], _, h => by simp [zlook] at h
  | _ :: _, _ :: _, [], h => by simp [zlook] at h
  | T :: Ts, x' :: xs, y' :: ys, h => by
    unfold zlook at h
    by_cases e : b = T
    · rw [if_pos e] at h
      cases h
      exact ⟨0, by rw [e]; rfl, rfl, rfl⟩
    · rw [if_neg e] at h
      obtain ⟨j, h1, h2, h3⟩ := zlook_some h
      exact ⟨j + 1, by simpa using h1, by simpa using h2, by simpa using h3⟩
theorem zlook_at {b : Addr} {x y : V} : ∀ {Ts : List Addr} {xs ys : List V} {j : Nat}, Ts.Nodup → Ts[j]? = some b → xs[j]? = some x → ys[j]? = some y → zlook Ts xs ys b = some (x, y)
  | [], _, _, _, _, h, _, _ => by simp at h
  | _ :: _, [], _, _, _, _, h, _ => by simp at h
  | _ :: _, _ :: _, [], _, _, _, _, h => by simp at h
  | T :: Ts, x' :: xs, y' :: ys, 0, n, h1, h2, h3 => by
    simp at h1 h2 h3
    subst h1 h2 h3
    unfold zlook
    rw [if_pos rfl]
  | T :: Ts, x' :: xs, y' :: ys, j + 1, n, h1, h2, h3 => by
    obtain ⟨n1, n2⟩ := List.nodup_cons.mp n
    have h1' : Ts[j]? = some b := by simpa using h1
    unfold zlook
    rw [if_neg fun (e : b = T) => n1 (e ▸ List.mem_of_getElem? h1')]
    exact zlook_at n2 h1' (by simpa using h2) (by simpa using h3)
/-- the pairs of two rows stand at these addresses -/
def PairsAt (H : Hp) (Ts : List Addr) (xs ys : List V) : Prop := Ts.length = min xs.length ys.length ∧ ∀ (j : Nat) (T : Addr) (x y : V), Ts[j]? = some T → xs[j]? = some x → ys[j]? = some y → H T = some (.tup [x, y])
def tListZip (K : PySem.W.Frag) (ta : TA) : TE := fun σ H Q => ta σ H fun vs H1 => ∃ (a b : Addr) (xs ys : List V), vs = [.ref a, .ref b] ∧ SqT K H1 a xs ∧ SqT K H1 b ys ∧
  ∀ (p : Addr) (Ts : List Addr) (H2 : Hp), H1 p = none → Same H1 H2 → H2 p = some (.lst (Ts.map V.ref)) → PairsAt H2 Ts xs ys → Q (.ref p) H2
theorem pe_listZip {e e2 : Expr} {ta : TA} {p p2 q pos : Pos} (gl : Gl X "list") (ml : X.mg "list" = none) (gz : Gl X "zip") (mz : X.mg "zip" = none) (ha : PA X [e, e2] ta) (hc : X.calm = true := by rfl)
    (hs : starEach [e, e2] X.env = (false, eval e X.env) :: starEach [e2] X.env := by rfl) (hpl : (backTo q (starEach [e2] X.env)).any (·.1) = false := by rfl) :
    PE X (.Call (.Name "list" p) [.Call (.Name "zip" p2) [e, e2] [] q] [] pos) (tListZip X.K ta) := by
  refine ⟨fun pins s σ H Q I h => Call_ (ld_blt I gl ml boot_list (PyProof.Rows.callWith_type1 (PyProof.Rows.args_cons (Call_ (ld_blt I gz mz PyProof.Rows.boot_zip (PyProof.Rows.callWith_type1 (thn (ha.run q pins s σ H _ I h) fun us s1 ⟨vs, H1, I1, r1, q1⟩ => ?_) hs hpl))) rfl) rfl rfl))⟩
  obtain ⟨a, b, xs, ys, rfl, hx, hy, q1⟩ := q1
  cases r1 with
  | cons r rr =>
  cases rr with
  | cons r' rr =>
  cases rr
  cases r
  cases r'
  obtain ⟨its, rv, t1, _⟩ := I1.tuple hx
  obtain ⟨its2, rv2, t2, _⟩ := I1.tuple hy
  have l1 := rv.length
  have l2 := rv2.length
  have zx := (I1.tuple hx).choose_spec.2.2
  obtain ⟨o1, ho1, _⟩ := id t1
  obtain ⟨o2, ho2, _⟩ := id t2
  refine RZ.call_zipT (show s1.heap.IsTuple a its.toArray from t1) (show s1.heap.IsTuple b its2.toArray from t2) fun h' hz hTI hTO h1 h2 hsz hk => PyProof.Rows.args_nil ?_
  have t1' : h'.IsTuple a its.toArray := Heap.IsTuple.at (show s1.heap.IsTuple a its.toArray from t1) fun o q => hk _ _ q
  have t2' : h'.IsTuple b its2.toArray := Heap.IsTuple.at (show s1.heap.IsTuple b its2.toArray from t2) fun o q => hk _ _ q
  have above : ∀ k, k < 5 → s1.heap.objs.size + k < h'.objs.size := fun k hk => by rw [hsz]; omega
  refine call_listZ (s := { s1 with heap := h' }) (n := min xs.length ys.length) (us := its.toArray) (vs := its2.toArray) (I1.ok.hd hc) (PySem.W.ktu_apart s1.heap.objs.size a b (Heap.lt_size ho1) (Heap.lt_size ho2)) (above 4 (by decide)) (above 2 (by decide)) (above 3 (by decide)) (above 0 (by decide)) (above 1 (by decide))
    ⟨hTI, h1, h2, .inl ⟨hz, _, _, hTO⟩⟩ t1' t2' (by rw [List.size_toArray, ← l1]; exact Nat.min_le_left _ _) (by rw [List.size_toArray, ← l2]; exact Nat.min_le_right _ _)
    (by rw [List.size_toArray, List.size_toArray, ← l1, ← l2]; omega) (by omega) fun h3 tk acc c as k3 hS hl got hacc => ?_
  dsimp only at hS got k3
  have kept : ∀ (b : Addr) (u : Obj), s1.heap.get? b = some u → h3.get? b = some u := fun b u q => by
    have lt := Heap.lt_size q
    exact k3 b u (Nat.ne_of_lt (Nat.lt_of_lt_of_le lt (Nat.le_add_right _ 4))) (Nat.ne_of_lt (Nat.lt_of_lt_of_le lt (Nat.le_add_right _ 3))) (Nat.ne_of_lt lt) (Nat.ne_of_lt (Nat.lt_of_lt_of_le lt (Nat.le_add_right _ 1))) (hk _ _ q)
  have low : s1.heap.objs.size ≤ h'.objs.size := by rw [hsz]; exact Nat.le_add_right _ _
  have hp0 : H1 h'.objs.size = none := I1.hok.fresh low
  have inAs : ∀ {T : Addr}, T ∈ as → h'.objs.size + 1 ≤ T := fun ht => by
    obtain ⟨j, hj⟩ := List.mem_iff_getElem?.mp ht
    exact (got.2 j _ hj).1
  have get_x : ∀ {j : Nat} {T : Addr}, as[j]? = some T → ∃ x y u v, xs[j]? = some x ∧ ys[j]? = some y ∧ RelV x u ∧ RelV y v ∧ IsPair h3 T u v := fun {j T} hj => by
    obtain ⟨_, u, v, hu, hv, hpr⟩ := got.2 j T hj
    have hjx : j < xs.length := by rw [l1]; have := (Array.getElem?_eq_some_iff.mp hu).1; simpa using this
    have hjy : j < ys.length := by rw [l2]; have := (Array.getElem?_eq_some_iff.mp hv).1; simpa using this
    obtain ⟨u', e1, ru⟩ := rv.get (List.getElem?_eq_getElem hjx)
    obtain ⟨v', e2, rv'⟩ := rv2.get (List.getElem?_eq_getElem hjy)
    have e1' : u' = u := by rw [List.getElem?_toArray] at hu; exact Option.some.inj (e1.symm.trans hu)
    have e2' : v' = v := by rw [List.getElem?_toArray] at hv; exact Option.some.inj (e2.symm.trans hv)
    subst e1' e2'
    exact ⟨_, _, _, _, List.getElem?_eq_getElem hjx, List.getElem?_eq_getElem hjy, ru, rv', hpr⟩
  let H2 : Hp := fun b => if b = h'.objs.size then some (.lst (as.map V.ref)) else match zlook as xs ys b with | some (x, y) => some (.tup [x, y]) | none => H1 b
  have zl0 : ∀ b o, H1 b = some o → zlook as xs ys b = none := fun b o hb => by
    cases hz : zlook as xs ys b with
    | none => rfl
    | some r =>
      obtain ⟨x, y⟩ := r
      obtain ⟨j, hj, _, _⟩ := zlook_some hz
      have l := inAs (List.mem_of_getElem? hj)
      have := I1.hok.fresh (a := b) (Nat.le_trans low (Nat.le_of_succ_le l))
      rw [hb] at this; cases this
  have same : ∀ b o, H1 b = some o → H2 b = some o := fun b o hb => by
    show (if b = h'.objs.size then _ else _) = _
    rw [if_neg (ne_of_none hb hp0), zl0 b o hb]
    exact hb
  have I2 : Inv X pins σ H2 { s1 with heap := h3, toks := tk } := inv_many I1 kept same fun b o hb hn => by
    by_cases e : b = h'.objs.size
    · subst e
      have e2 : some (HO.lst (as.map V.ref)) = some o := by rw [← hb]; exact (if_pos rfl).symm
      cases e2
      refine ⟨low, by rw [List.length_map, hl]; omega, acc.toList, c, ?_, by rw [Array.toArray_toList]; exact hS⟩
      rw [hacc]
      exact refs_vals as
    · have hb2 : (match zlook as xs ys b with | some (x, y) => some (HO.tup [x, y]) | none => H1 b) = some o := by rw [← hb]; exact (if_neg e).symm
      cases hz : zlook as xs ys b with
      | none => rw [hz] at hb2; exact absurd (hn.symm.trans hb2) (by intro z; cases z)
      | some r =>
        obtain ⟨x, y⟩ := r
        rw [hz] at hb2
        cases hb2
        obtain ⟨j, hj, hxj, hyj⟩ := zlook_some hz
        obtain ⟨x', y', u, v, g1, g2, g3, g4, g5⟩ := get_x hj
        cases hxj.symm.trans g1
        cases hyj.symm.trans g2
        exact ⟨Nat.le_trans low (Nat.le_of_succ_le (inAs (List.mem_of_getElem? hj))), by show 2 ≤ sizeLine; decide, [u, v], .cons g3 (.cons g4 .nil), ⟨_, g5, rfl, _, rfl⟩⟩
  refine ⟨.ref h'.objs.size, H2, I2, rfl, q1 h'.objs.size as H2 hp0 same (if_pos rfl) ⟨hl, fun j T x y hj hx' hy' => ?_⟩⟩
  have hT : T ≠ h'.objs.size := Nat.ne_of_gt (inAs (List.mem_of_getElem? hj))
  show (if T = h'.objs.size then _ else _) = _
  rw [if_neg hT, zlook_at got.1 hj hx' hy']
end
end Cr
namespace Cr
open PySem PySem.Spec PyProof.Rows L2
/-! the law's own frame stands outside every repr; repr of nested data -/
def RunsG (P : Program) (w : World) (K : PySem.W.Frag) (mg : Str → Option Value) (base : Heap) (k : Nat) (f : Addr) (fd : FuncData) (ps : List Str) (sp : Sp) : Prop :=
  ∀ (A : Around) (outer : List Env) (s : Shared) (H : Hp) (args : Args) (us : List Value) (vs : List V) (Q : VK) (E : XK), A.guards = some [] → Room k A → Env0 P w K mg base A outer s H → BindsTo s fd args (ps.zip us) → Vals vs us → sp vs H Q E →
    codeAny (model P w) A (.call (.ref f) args) (CR CX0 outer P w H s Q E) s
section
variable {P : Program} {w : World} {K : PySem.W.Frag} {mg : Str → Option Value} {base : Heap}
theorem fn_g {k : Nat} {x qual : Str} {st : Stmt} {f : Addr} {fd : FuncData} {N ps : List Str} {sp : Sp} (F : Fun K x qual st f fd) (S : FnScope N ps (defScope st)) (len : ∀ vs H Q E, sp vs H Q E → vs.length = ps.length)
    (body : ∀ (cdv : Value) (A : Around) (outer : List Env) (s : Shared) (H : Hp) (vs : List V) (Q : VK) (E : XK), A.guards = some [] → Room k (A.deeper (envOfC qual (defScope st) s.heap.objs.size f cdv)) → sp vs H Q E →
      ∃ t, PSs (cxOf CX0 P w K mg base N qual (defScope st) f cdv A outer s H E).nox (defBody st) t ∧ t { nx := fun _ H' => Q .non H', rt := Q } (start N vs) H) : RunsG P w K mg base (k + 1) f fd ps sp := by
  obtain ⟨oc, od, kV, doc, pm, an, cdv, ct, osl, rfl, lk, hcd⟩ := F.ex
  intro A outer s H args us vs Q E hg hr env bind rel hsp
  have n1 := len _ _ _ _ hsp
  have kin : K.In s.heap := env.mod.kin.keeps fun c u z => (env.bs c u z).1
  have nol : s.heap.NoLimit := env.mod.nolimit.keeps fun c u z => (env.bs c u z).1
  have kinds : ∀ y ∈ ps.zip us, (defScope st).names.lookup y.1 = some .local ∨ ((defScope st).names.lookup y.1 = some .cell ∧ ((cellsFrom (s.heap.objs.size + 1) (defScope st).names []).lookup y.1).isSome = true) := by
    rintro ⟨n, v⟩ hy
    rcases S.par n (List.of_mem_zip hy).1 with z | z
    · exact Or.inl z
    · exact Or.inr ⟨z, PySem.W.cellsFrom_some _ _ _ (Or.inl z)⟩
  refine codeAny_call_function hr.depth (kin _ _ lk) rfl S.co S.gen rfl (PySem.W.codeRec_of kin hcd) (bind _ _ _ _ (wpAny_newFunctionEnv_cells S.kind kinds fun e1 h1 t1 y => ?_))
  subst h1
  refine ⟨nol.keeps y.toInCall.keep, codeAny_func ?_⟩
  obtain ⟨t, ht, hq⟩ := body cdv A outer s H vs Q E hg (hr.deeper _) hsp
  have inv0 : Inv (cxOf CX0 P w K mg base N qual (defScope st) f cdv A outer s H E) [] (start N vs) H t1 := inv_start S hr.hd env n1 rel y
  refine wpAny_mono (ht.nox.run [] t1 (start N vs) H _ inv0 hq) (fun fl s' z => ?_) fun e s' z => z
  cases fl with
  | ret u =>
    obtain ⟨v, σ', H', J, rv, q⟩ := z
    exact ⟨v, H', J.os, J.bare, J.base, J.hok, rv, q⟩
  | next =>
    obtain ⟨σ', H', J, q⟩ := z
    exact ⟨V.non, H', J.os, J.bare, J.base, J.hok, rfl, q⟩
  | brk => exact z.elim fun _ z => z.elim fun _ z => z.2.elim
  | cont => exact z.elim fun _ z => z.elim fun _ z => z.2.elim
end
/-- the call of the law by the claim's caller -/
theorem law_g {P : Program} {w : World} {K : PySem.W.Frag} {mg mb : Str → Option Value} {k : Nat} {fa a : Addr} {fd : FuncData} {x : Str} {sp : Sp} {t : Shared} {us : List Value} {ns : List Int} (kin : K.In t.heap) (main : t.heap.Ns mainGlobals mg) (blt : t.heap.Ns builtinsNs mb)
    (boot : ∀ y : Str, y ≠ "__name__" → mb y = bootBuiltins y) (nol : t.heap.NoLimit) (gens : t.gens = #[]) (scr : t.heap.get? a = some { cls := .type "list", data := .seq us.toArray }) (nums : IntsAre us ns) (short : ns.length ≤ sizeLine) (room : Room k callerA)
    (F : ∀ base : Heap, K.In base → base.Ns mainGlobals mg → RunsG P w K mg base k fa fd [x] sp) (bind : ∀ (s : Shared) (u : Value), BindsTo s fd ⟨[u], []⟩ [(x, u)]) (say : ∀ H : Hp, Only H → SqL K H a (ns.map V.int) → sp [.ref a] H (fun v _ => v = .bl true) fun _ _ _ => False) :
    codeAny (model P w) callerA (.call (.ref fa) ⟨[.ref a], []⟩) (fun r s' => r = .ok (.ret (.bool true)) ∧ OldK t.heap s'.heap ∧ s'.os = t.os ∧ AllBare s'.gens) t := by
  have vals := vals_ints nums
  have main1 : ∀ H : Hp, Only H → SqL K H a (ns.map V.int) → HOk P w H t.heap → (∀ c, H c ≠ none → c = a) → (H a ≠ none → K.lookup a = none) →
      codeAny (model P w) callerA (.call (.ref fa) ⟨[.ref a], []⟩) (fun r s' => r = .ok (.ret (.bool true)) ∧ OldK t.heap s'.heap ∧ s'.os = t.os ∧ AllBare s'.gens) t := by
    intro H only seq ok just noK
    have free : ∀ {c : Addr} {o : Obj} {es : Array DictEntry} {ep : Nat}, t.heap.get? c = some o → o.data = .dict es ep → H c = none := by
      intro c o es ep e d
      cases z : H c with
      | none => rfl
      | some u =>
        obtain rfl : c = a := just c (by rw [z]; exact Option.some_ne_none u)
        rw [scr] at e
        cases e
        exact absurd (show Data.seq us.toArray _ = Data.dict es ep from d) (by intro y; cases y)
    have ns2 : ∀ {c : Addr} {m : Str → Option Value}, t.heap.Ns c m → (hidT t.heap H).Ns c m := by
      rintro c m ⟨o, es, ep, e, d, r⟩
      exact ⟨o, es, ep, hidT_get e (free e d), d, r⟩
    have kin2 : K.In (hidT t.heap H) := by
      intro c o e
      refine hidT_get (kin c o e) ?_
      cases z : H c with
      | none => rfl
      | some u =>
        obtain rfl : c = a := just c (by rw [z]; exact Option.some_ne_none u)
        rw [noK (by rw [z]; exact Option.some_ne_none u)] at e
        cases e
    have mod : Mod K mg (hidT t.heap H) := ⟨kin2, ns2 main, ⟨mb, ns2 blt, boot⟩, by obtain ⟨mc, y1, y2⟩ := nol; exact ⟨mc, ns2 y1, y2⟩⟩
    have env : Env0 P w K mg (hidT t.heap H) callerA [] t H := ⟨rfl, mod, fun c o e => of_hidT e, Nat.le_of_eq (hidT_size _ _), trivial, fun c hc => absurd (show c ∈ ([] : List Addr) from hc) (by simp), ok, .of_eq gens⟩
    refine codeAny_mono (F _ kin2 (ns2 main) callerA [] t H ⟨[.ref a], []⟩ [.ref a] [.ref a] _ _ rfl room env (bind t (.ref a)) (.cons rfl .nil) (say H only seq)) fun r s' z => ?_
    match r, z with
    | .error e, z => exact False.elim z
    | .ok .next, z => exact False.elim z
    | .ok .brk, z => exact False.elim z
    | .ok .cont, z => exact False.elim z
    | .ok (.ret u), z =>
      obtain ⟨v, H', os, bare, un, ok', rv, q⟩ := z
      cases (show v = .bl true from q)
      cases (show u = Value.bool true from rv)
      refine ⟨rfl, OldK.of_keep fun c o e => ?_, os, bare⟩
      cases z : H c with
      | none => exact un.keep c o e z (fun y => absurd (show c ∈ ([] : List Addr) from y) (by simp)) (by simp)
      | some u =>
        rcases only c with y | ⟨oc, xs, y⟩
        · rw [z] at y
          cases y
        · obtain ⟨y1, _⟩ := ok c _ y
          obtain ⟨y2, _⟩ := ok' c _ (un.frzs c oc _ y)
          rw [e] at y1
          cases y1
          exact y2
  cases hk : K.lookup a with
  | some o =>
    have e := kin a o hk
    rw [scr] at e
    cases e
    refine main1 (fun _ => none) (fun _ => Or.inl rfl) (.inr ⟨_, us.toArray, _, hk, rfl, rfl, rfl, by rw [List.size_toArray, nums.length]; exact short, by simpa using vals⟩) (fun c u z => ?_) (fun c z => absurd rfl z) fun z => absurd rfl z
    exact absurd (show (none : Option HO) = some u from z) (by intro y; cases y)
  | none =>
    refine main1 (upd (fun _ => none) a (.frz { cls := .type "list", data := .seq us.toArray } (.lst (ns.map V.int)))) (fun c => ?_) (.inl (.inr ⟨{ cls := .type "list", data := .seq us.toArray }, upd_same⟩)) (fun c u z => ?_) (fun c z => ?_) fun _ => hk
    · by_cases e : c = a
      · subst e
        exact Or.inr ⟨_, _, upd_same⟩
      · exact Or.inl (upd_ne e)
    · by_cases e : c = a
      · subst e
        cases upd_same.symm.trans z
        exact ⟨scr, by rw [List.length_map]; exact short, us, _, vals, scr⟩
      · cases (upd_ne e).symm.trans z
    · by_cases e : c = a
      · exact e
      · exact absurd (upd_ne e) z
theorem walk_g {l : PySem.W.OpenLaw} {n k : Nat} {q : Program} {loose : List Str} {XP : (Str → Option Value) → Heap → Prop} {YP : World → Heap → Prop} {d : DefRec} {K : Params → PySem.W.Frag} {sp : World → Sp} {x : Str} (hn : l.most = some n) (hn2 : n ≤ sizeLine) (hdf : d.params.defaults = []) (room : Room k callerA)
    (hY : ∀ (w : World) (h : Heap), YP w h → (K w.params).In h)
    (F : ∀ (w : World) (mg : Str → Option Value) (fa : Addr) (h : Heap), (K w.params).In h → h.Ns mainGlobals mg → mg d.name = some (.ref fa) → ∃ fd : FuncData, (∀ (s : Shared) (u : Value), BindsTo s fd ⟨[u], []⟩ [(x, u)]) ∧
      ∀ base : Heap, (K w.params).In base → base.Ns mainGlobals mg → RunsG l.prog w (K w.params) mg base k fa fd [x] (sp w))
    (say : ∀ (w : World) (H : Hp) (a : Addr) (ns : List Int), ns.length ≤ n → Only H → SqL (K w.params) H a (ns.map V.int) → sp w [.ref a] H (fun v _ => v = .bl true) fun _ _ _ => False) : PySem.W.WalkO q loose XP YP l.row.toRowW d [] (fun f vs => PySem.call f vs) := by
  refine Att.attach_call hn hdf fun w _ t mg mb fa o pm cd doc a us ns G Y ho hd hcd hmg hobj hints hlen hg => ?_
  obtain ⟨fd, bind, run⟩ := F w mg fa _ (hY w _ Y) G.T.g hmg
  exact law_g (hY w _ Y) G.T.g G.T.b G.T.builtins G.T.nolimit hg hobj hints (Nat.le_trans hlen hn2) room run bind fun H only seq => say w H a ns hlen only seq
section
open PySem.Builtin PySem.Builtin.List
variable {prog : Program} {w : World} {A : Around} {E : Value → Shared → Prop} {s : Shared}
/-- repr of a list that has items -/
theorem repr_list {a : Addr} {o : Obj} {x : Value} {l : List Value} {n : Nat} {ds : List PyData} {as : List Addr} {Q : Value → Shared → Prop} (ho : s.heap.get? a = some o) (hc : o.cls = .type "list") (hd : o.data = .seq (x :: l).toArray n) (rs : ReadsAll s.heap (x :: l) ds as)
    (hs : PyData.showableAll ds = true) (hsm : sysModules ∉ as) (hz : (listText (PyData.shownAll ds)).length ≤ sizeLine) (hg : A.guards = some []) (hu : A.units + 1 + (PyData.depthAll ds + 1) < cLine)
    (q : ∀ h' u tk, (∀ b o, s.heap.get? b = some o → h'.get? b = some o) → Q (.str (listText (PyData.shownAll ds)) u) { s with heap := h', toks := tk }) : wpAny (model prog w) A (call (.builtin "repr") [.ref a]) Q E s := by
  obtain ⟨bs, hb, hk⟩ := ReprAllK.of_readsAll (prog := prog) (w := w) rs hs (fun _ => hsm) (fun t ht => Nat.le_trans (listText_mem_le ht) hz)
  have r : Reads s.heap (.ref a) (.list ds) (a :: as) := .list ho hc hd (by simpa using rs)
  have hna : a ∉ bs := not_mem_of_deeper r (by simp only [PyData.depth]; omega) hb
  have ty : s.TypeIs (.ref a) "list" := ⟨o, ho, hc⟩
  refine Calls.call_function_entry PySem.F.kind_repr PySem.F.plain_repr PySem.F.entry_repr (PySem.F.args_repr1 _) ?_
  unfold Builtin.«repr»
  refine wpAny_bind (m := oneArg "repr" _) (wpAny_pure ?_)
  refine wpAny_bind (wpAny_cRoomFor (by show A.units + 1 < cLine; omega) ?_)
  refine wpAny_bind (wpAny_specialOf (name := Str.ofString "__repr__") ty PySem.F.slot_list_repr.lookup ?_)
  rw [if_neg (by simp)]
  refine wpAny_bind (m := callSpecialIfBound? (.ref a) (Str.ofString "__repr__") _) (wpAny_callSpecialIfBound?_slot (name := Str.ofString "__repr__") ty PySem.F.slot_list_repr
    (call_list_reprK ho hc hd hna (by simpa using hk.length_eq) (fun i y e => hk.item i y (by simpa using e)) (show A.in1.guards = some [] from hg) (fun b _ => Clear.nil b) (by show A.units + 1 + _ < cLine; exact hu) (fun _ _ e => e) (fun h' u tk k => ?_) hz))
  refine wpAny_bind (wpAny_isInstance (typeIs_str _ _ _) isSubtype_str_str ?_)
  exact wpAny_pure ⟨_, rfl, q h' u tk k⟩
end
end Cr
namespace Cr
open PySem PySem.Spec PyProof.Rows L2
section
variable {X : Cx}
/-- name = {..} on one line, the name a local -/
theorem ps_setDc {i : Nat} {y : Str} {py : Pos} {kx vx tg iter : Expr} {ifs : List Expr} {scope : Scope} {own : List (Str × Nat)} {pos spos : Pos} {wi : TI} {g : TG} {tt : TT} {tk tv : TE} (hc : X.calm = true) (nd : X.N.Nodup) (at_ : X.N[i]? = some y) (loc : X.env.scope.names.lookup y = some .local)
    (sw : swapsWith (.DictComp kx vx [⟨tg, iter, ifs, 0⟩] scope pos) (some (.Name y py)) spos.line X.env = pure true) (hi : PI X tg iter wi) (ok : BlkOk X.N X.env.scope scope own)
    (hg : ∀ (s : Shared) (H : Hp) (C : Addr) (cl : List (Str × Addr)) (fp : List Addr), PG (X.blk s H scope (compEnvC scope cl C X.env) fp) tg g) (ht : ∀ (s : Shared) (H : Hp) (C : Addr) (cl : List (Str × Addr)) (fp : List Addr), PTs (X.blk s H scope (compEnvC scope cl C X.env) fp) ifs tt)
    (hk : ∀ (s : Shared) (H : Hp) (C : Addr) (cl : List (Str × Addr)) (fp : List Addr), PE (X.blk s H scope (compEnvC scope cl C X.env) fp) kx tk) (hv : ∀ (s : Shared) (H : Hp) (C : Addr) (cl : List (Str × Addr)) (fp : List Addr), PE (X.blk s H scope (compEnvC scope cl C X.env) fp) vx tv)
    (hs : ∀ x, foldedSetIterable iter X.env x = pure x := by intro _; rfl) : PS X (.Assign [.Name y py] (.DictComp kx vx [⟨tg, iter, ifs, 0⟩] scope pos) spos) (tAsg (tDc wi g tt tk tv (own.map (·.2))) (gName i)) := by
  refine ⟨fun pins s σ H D I h => ?_⟩
  rw [exec_Assign_Name_used _ _ _ _ sw]
  refine wpAny_bind (wpAny_standAt (wpAny_bind ?_))
  show wpAny _ X.A (do let _ ← comprehension (.DictComp kx vx [⟨tg, iter, ifs, 0⟩] scope pos) scope X.env (firstIterPos [⟨tg, iter, ifs, 0⟩] pos) newDict false (eval iter X.env) (some (assign (.Name y py) X.env))) _ _ s
  have h2 : tDc wi g tt tk tv (own.map (·.2)) σ H (fun x H1 => gName i x σ H1 D.nx) := h
  refine wpAny_bind (thn (dc_core (Qf := fun _ t => SP X pins D .next t) hc nd I hi ok hg ht hk hv hs h2 fun L C t m H' J q ns fp => ?_) fun _ t z => wpAny_pure (wpAny_pure z))
  show wpAny _ _ (assign (.Name y py) X.env (.ref L)) _ _ _
  refine wpAny_assign_Name (store_ok2 (v := V.ref L) J nd at_ (.inl loc) rfl (fun t2 J2 ⟨c, sb, hcc⟩ => ?_) (.inr loc))
  obtain ⟨b0, b1, b2, b3, b4, b5⟩ := fp
  have apart : C ≠ c := hcc.elim (fun z => z ▸ b1) fun z e => b4 y c z e.symm
  refine ⟨m, ns.sameBut sb apart, fun h3 sb3 => ⟨_, H', J2.turned (t' := t2.toks) (fun b o hb e => (sb3.2 b hb).trans e) b0 b1 b3 b4 b5, q⟩⟩
theorem sw_dict {kx vx : Expr} {gs : List Comprehension} {scope : Scope} {pos py : Pos} {y : Str} {l : Nat} {env : Env} (kind : env.scope.kind = .function) (loc : env.scope.names.lookup y = some .local) (line : (py.line == pos.line) = true)
    (none : (scope.names.any fun (n, k) => n == y && (k == .local || k == .cell)) = false) : swapsWith (.DictComp kx vx gs scope pos) (some (.Name y py)) l env = pure true := by
  have k1 : env.kindOf y = some .local := loc
  have k2 : env.blockKind = .function := by unfold Env.blockKind; rw [kind]; rfl
  unfold swapsWith
  simp only [k2, k1, none, Expr.pos, line]
  rfl
end
end Cr
namespace Cr
open PySem PySem.Spec PyProof.Rows L2
section
variable {X : Cx}
/-- t[:hi:-1] of a tuple, hi left out or 0; t[::-1] of a list -/
def tBack2 (K : PySem.W.Frag) (te : TE) (tu : TO) : TE := fun σ H Q => te σ H fun x H1 => tu σ H1 fun u H2 =>
  (∃ (a : Addr) (xs : List V) (k : Nat), x = .ref a ∧ SqT K H2 a xs ∧ ((u = none ∧ k = 0) ∨ (u = some 0 ∧ k = 1 ∧ 0 < xs.length)) ∧ ∀ p, H2 p = none → Q (.ref p) (upd H2 p (.tup (xs.drop k).reverse))) ∨
  (∃ (a : Addr) (xs : List V), x = .ref a ∧ u = none ∧ SqL K H2 a xs ∧ ∀ p, H2 p = none → Q (.ref p) (upd H2 p (.lst xs.reverse)))
theorem pe_back2 {e : Expr} {hi : Option Expr} {te : TE} {tu : TO} {kk : Nat} {p1 p2 p3 pos : Pos} (he : PE X e te) (hu : PO X hi tu) :
    PE X (.Subscript e (.Slice none hi (some (.UnaryOp .USub (.Constant (.int 1) kk p1) p2)) p3) pos) (tBack2 X.K te tu) := by
  refine ⟨fun pins s0 σ H0 Q I0 h => Subscript_ (thn (he.run pins s0 σ H0 _ I0 h) fun v s1 ⟨x, H1, I1, rx, q1⟩ => ?_)⟩
  have hst : PO X (some (.UnaryOp .USub (.Constant (.int 1) kk p1) p2)) (tPart (tUn (rU fun i => .int (-i)) (tC (.int 1)))) := po_some (pe_un un_neg pe_int)
  refine wpAny_Slice (thn (po_none.run pins s1 σ H1 (fun o G => o = none ∧ G = H1) I1 ⟨rfl, rfl⟩) fun vl s2 ⟨o1, G, I2, pl, eo, eG⟩ => ?_)
  subst eo eG
  refine thn (hu.run pins s2 σ G _ I2 q1) fun vu s3 ⟨u, G2, I3, pu, q2⟩ => ?_
  refine thn (hst.run pins s3 σ G2 (fun o G => o = some (-1) ∧ G = G2) I3 ⟨1, rfl, -1, rfl, rfl, rfl⟩) fun vs s4 ⟨o2, G3, I4, ps, eo2, eG2⟩ => ?_
  subst eo2 eG2
  have I5 : Inv X pins σ G3 { s4 with heap := s4.heap.push { cls := .type "slice", data := .fields #[vl, vu, vs] } } := I4.kept (t' := s4.toks) fun b ob q => Heap.get?_push_of_some _ q
  rcases q2 with ⟨a, xs, k, ex, hx, hk, q⟩ | ⟨a, xs, ex, eu, hx, q⟩
  · subst ex
    obtain rfl : v = Value.ref a := rx
    obtain ⟨its, r, ht, hz⟩ := I5.tuple hx
    have hlen := r.length
    show wpAny (model X.prog X.w) X.A (subscriptTail e (.Slice none hi (some (.UnaryOp .USub (.Constant (.int 1) kk p1) p2)) p3) (.ref a) (.ref s4.heap.objs.size)) (EP X pins σ Q) X.xe _
    refine tail_any (ops := [.ref a, .ref s4.heap.objs.size]) ht.typeIs PyProof.Rows.slot_tuple_getitem.lookup ?_ (by with_unfolding_all rfl)
    refine item_back (k := k) ht (Heap.IsSliceOf.new _ vl vu vs) pl pu ps ?_ (by rw [List.size_toArray]; omega) ?_
    · rcases hk with h | ⟨h1, h2, h3⟩
      · exact .inl h
      · exact .inr ⟨h1, h2, by rw [List.size_toArray]; omega⟩
    refine ⟨.ref _, _, I5.laid (t' := s4.toks) (o := .tup (xs.drop k).reverse) (fun b ob q => Heap.get?_push_of_some _ q) (Nat.le_refl _) ?_, rfl, q _ (I5.hok.fresh (Nat.le_refl _))⟩
    exact ⟨by rw [List.length_reverse, List.length_drop]; omega, _, (r.drop k).reverse, IsTup.new _ _⟩
  · subst ex eu
    obtain rfl : v = Value.ref a := rx
    obtain ⟨its, r, ht, hz⟩ := I5.list hx
    have hlen := r.length
    show wpAny (model X.prog X.w) X.A (subscriptTail e (.Slice none hi (some (.UnaryOp .USub (.Constant (.int 1) kk p1) p2)) p3) (.ref a) (.ref s4.heap.objs.size)) (EP X pins σ Q) X.xe _
    refine tail_any (ops := [.ref a, .ref s4.heap.objs.size]) ht.isList.typeIs (PySem.slot_list_getitem.lookup) ?_ (by with_unfolding_all rfl)
    refine wpAny_getItem_list_slice ht.isList (Heap.IsSliceOf.new _ vl vu vs) pl pu ps (by decide) ?_ (by rw [List.size_toArray]; omega)
    rw [PySem.W.krv_pick]
    refine ⟨.ref _, _, I5.laid (t' := s4.toks) (o := .lst xs.reverse) (fun b ob q => Heap.get?_push_of_some _ q) (Nat.le_refl _) ?_, rfl, q _ (I5.hok.fresh (Nat.le_refl _))⟩
    exact ⟨by rw [List.length_reverse]; exact hz, _, 0, r.reverse, Heap.get?_push_size _ rfl⟩
end
end Cr
namespace Lq
open PySem L2
/-! ### plain data in the abstract heap -/
theorem _root_.L2.Rd.there {H : Hp} {a : Addr} {u : HO} (r : Rd H a u) : H a ≠ none := by
  rcases r with r | ⟨o, r⟩ <;> rw [r] <;> exact Option.some_ne_none _
theorem _root_.L2.Rd.to {H H' : Hp} {a : Addr} {u : HO} (r : Rd H a u) (k : ∀ o, H a = some o → H' a = some o) : Rd H' a u := by
  rcases r with r | ⟨o, r⟩
  · exact .inl (k _ r)
  · exact .inr ⟨o, k _ r⟩
/-- a dict's key as data -/
def kD : Key → PyData
  | .inl i => .int i
  | .inr x => .str x
mutual
/-- v stands for d; lists and dicts within it stand outside of U -/
inductive Dat (U : Addr → Prop) (H : Hp) : V → PyData → Prop
  | non : Dat U H .non .none
  | bl (b : Bool) : Dat U H (.bl b) (.bool b)
  | int (i : Int) : Dat U H (.int i) (.int i)
  | str (x : Str) : Dat U H (.str x) (.str x)
  | tup {p : Addr} {vs : List V} {ds : List PyData} : H p = some (.tup vs) → Dats U H vs ds → Dat U H (.ref p) (.tuple ds)
  | lst {p : Addr} {vs : List V} {ds : List PyData} : ¬ U p → H p = some (.lst vs) → Dats U H vs ds → Dat U H (.ref p) (.list ds)
  | dic {p : Addr} {kvs : List (Key × V)} {es : List (PyData × PyData)} : ¬ U p → Rd H p (.dK kvs) → DatK U H kvs es → Dat U H (.ref p) (.dict es)
  | dit {p : Addr} {kvs : List (List Key × V)} {es : List (PyData × PyData)} : ¬ U p → Rd H p (.dT kvs) → DatT U H kvs es → Dat U H (.ref p) (.dict ((.none, .none) :: es))
inductive Dats (U : Addr → Prop) (H : Hp) : List V → List PyData → Prop
  | nil : Dats U H [] []
  | cons {v : V} {d : PyData} {vs : List V} {ds : List PyData} : Dat U H v d → Dats U H vs ds → Dats U H (v :: vs) (d :: ds)
inductive DatK (U : Addr → Prop) (H : Hp) : List (Key × V) → List (PyData × PyData) → Prop
  | nil : DatK U H [] []
  | cons {k : Key} {v : V} {d : PyData} {vs : List (Key × V)} {ds : List (PyData × PyData)} : Dat U H v d → DatK U H vs ds → DatK U H ((k, v) :: vs) ((kD k, d) :: ds)
inductive DatT (U : Addr → Prop) (H : Hp) : List (List Key × V) → List (PyData × PyData) → Prop
  | nil : DatT U H [] []
  | cons {k : List Key} {v : V} {d : PyData} {vs : List (List Key × V)} {ds : List (PyData × PyData)} : Dat U H v d → DatT U H vs ds → DatT U H ((k, v) :: vs) ((.tuple (k.map kD), d) :: ds)
end
section
variable {U U' : Addr → Prop} {H H' : Hp}
mutual
theorem Dat.to (hU : ∀ p, ¬ U p → H p ≠ none → ¬ U' p) (ht : ∀ p vs, H p = some (.tup vs) → H' p = some (.tup vs)) (hl : ∀ p o, ¬ U p → H p = some o → H' p = some o) : ∀ {v : V} {d : PyData}, Dat U H v d → Dat U' H' v d
  | _, _, .non => .non
  | _, _, .bl b => .bl b
  | _, _, .int i => .int i
  | _, _, .str x => .str x
  | _, _, .tup h r => .tup (ht _ _ h) (Dats.to hU ht hl r)
  | _, _, .lst n h r => .lst (hU _ n (by rw [h]; exact Option.some_ne_none _)) (hl _ _ n h) (Dats.to hU ht hl r)
  | _, _, .dic n h r => .dic (hU _ n h.there) (h.to fun o => hl _ o n) (DatK.to hU ht hl r)
  | _, _, .dit n h r => .dit (hU _ n h.there) (h.to fun o => hl _ o n) (DatT.to hU ht hl r)
theorem Dats.to (hU : ∀ p, ¬ U p → H p ≠ none → ¬ U' p) (ht : ∀ p vs, H p = some (.tup vs) → H' p = some (.tup vs)) (hl : ∀ p o, ¬ U p → H p = some o → H' p = some o) : ∀ {v : List V} {d : List PyData}, Dats U H v d → Dats U' H' v d
  | _, _, .nil => .nil
  | _, _, .cons h r => .cons (Dat.to hU ht hl h) (Dats.to hU ht hl r)
theorem DatK.to (hU : ∀ p, ¬ U p → H p ≠ none → ¬ U' p) (ht : ∀ p vs, H p = some (.tup vs) → H' p = some (.tup vs)) (hl : ∀ p o, ¬ U p → H p = some o → H' p = some o) : ∀ {v : List (Key × V)} {d : List (PyData × PyData)}, DatK U H v d → DatK U' H' v d
  | _, _, .nil => .nil
  | _, _, .cons h r => .cons (Dat.to hU ht hl h) (DatK.to hU ht hl r)
theorem DatT.to (hU : ∀ p, ¬ U p → H p ≠ none → ¬ U' p) (ht : ∀ p vs, H p = some (.tup vs) → H' p = some (.tup vs)) (hl : ∀ p o, ¬ U p → H p = some o → H' p = some o) : ∀ {v : List (List Key × V)} {d : List (PyData × PyData)}, DatT U H v d → DatT U' H' v d
  | _, _, .nil => .nil
  | _, _, .cons h r => .cons (Dat.to hU ht hl h) (DatT.to hU ht hl r)
end
theorem Dat.same (e : Same H H') {v : V} {d : PyData} (h : Dat U H v d) : Dat U H' v d := h.to (fun _ n _ => n) (fun p vs => e p _) fun p o _ => e p o
theorem Dats.same (e : Same H H') {v : List V} {d : List PyData} (h : Dats U H v d) : Dats U H' v d := h.to (fun _ n _ => n) (fun p vs => e p _) fun p o _ => e p o
theorem Dat.less (hU : ∀ p, H p ≠ none → U' p → U p) {v : V} {d : PyData} (h : Dat U H v d) : Dat U' H v d := h.to (fun p n z y => n (hU p z y)) (fun _ _ => id) fun _ _ _ => id
theorem Dats.less (hU : ∀ p, H p ≠ none → U' p → U p) {v : List V} {d : List PyData} (h : Dats U H v d) : Dats U' H v d := h.to (fun p n z y => n (hU p z y)) (fun _ _ => id) fun _ _ _ => id
theorem Dats.length : ∀ {vs : List V} {ds : List PyData}, Dats U H vs ds → vs.length = ds.length
  | _, _, .nil => rfl
  | _, _, .cons _ r => congrArg (· + 1) r.length
theorem Dats.append : ∀ {vs us : List V} {ds es : List PyData}, Dats U H vs ds → Dats U H us es → Dats U H (vs ++ us) (ds ++ es)
  | _, _, _, _, .nil, k => k
  | _, _, _, _, .cons h r, k => .cons h (r.append k)
theorem Dats.get : ∀ {vs : List V} {ds : List PyData} {i : Nat} {d : PyData}, Dats U H vs ds → ds[i]? = some d → ∃ v, vs[i]? = some v ∧ Dat U H v d
  | _, _, _, _, .nil, e => by simp at e
  | _, _, 0, _, .cons h _, e => by simp at e; subst e; exact ⟨_, rfl, h⟩
  | _, _, i + 1, d, .cons _ r, e => by
    obtain ⟨v, a, b⟩ := Dats.get (i := i) (d := d) r (by simpa using e)
    exact ⟨v, by simpa using a, b⟩
theorem Dats.getV : ∀ {vs : List V} {ds : List PyData} {i : Nat} {v : V}, Dats U H vs ds → vs[i]? = some v → ∃ d, ds[i]? = some d ∧ Dat U H v d
  | _, _, _, _, .nil, e => by simp at e
  | _, _, 0, _, .cons h _, e => by simp at e; subst e; exact ⟨_, rfl, h⟩
  | _, _, i + 1, d, .cons _ r, e => by
    obtain ⟨v, a, b⟩ := Dats.getV (i := i) (v := d) r (by simpa using e)
    exact ⟨v, by simpa using a, b⟩
theorem Dats.take : ∀ {vs : List V} {ds : List PyData} (n : Nat), Dats U H vs ds → Dats U H (vs.take n) (ds.take n)
  | _, _, 0, _ => .nil
  | _, _, _ + 1, .nil => .nil
  | _, _, n + 1, .cons h r => .cons h (r.take n)
theorem Dats.drop : ∀ {vs : List V} {ds : List PyData} (n : Nat), Dats U H vs ds → Dats U H (vs.drop n) (ds.drop n)
  | _, _, 0, r => r
  | _, _, _ + 1, .nil => .nil
  | _, _, n + 1, .cons _ r => r.drop n
theorem Dats.set {v : V} {d : PyData} (h : Dat U H v d) : ∀ {vs : List V} {ds : List PyData} (i : Nat), Dats U H vs ds → Dats U H (vs.set i v) (ds.set i d)
  | _, _, _, .nil => .nil
  | _, _, 0, .cons _ r => .cons h r
  | _, _, i + 1, .cons k r => .cons k (Dats.set h i r)
theorem Dats.snoc {vs : List V} {ds : List PyData} {v : V} {d : PyData} (h : Dats U H vs ds) (k : Dat U H v d) : Dats U H (vs ++ [v]) (ds ++ [d]) := h.append (.cons k .nil)
theorem Dats.reverse : ∀ {vs : List V} {ds : List PyData}, Dats U H vs ds → Dats U H vs.reverse ds.reverse
  | _, _, .nil => .nil
  | _, _, .cons h r => by
    rw [List.reverse_cons, List.reverse_cons]
    exact r.reverse.snoc h
end
/-! ### what a step leaves -/
abbrev Pl := Option (Addr × Addr)
/-- all that stood is as it was but for the pool, which is a pool still -/
structure Ex (pl : Pl) (H H' : Hp) : Prop where
  keep : ∀ b o, (∀ a c, pl = some (a, c) → b ≠ a) → H b = some o → H' b = some o
  pool : ∀ a c, pl = some (a, c) → Cf.PoolAt H' a c
  there : ∀ b, H b ≠ none → H' b ≠ none
theorem Ex.trans {pl : Pl} {H H1 H2 : Hp} (x : Ex pl H H1) (y : Ex pl H1 H2) : Ex pl H H2 :=
  ⟨fun b o n h => y.keep b o n (x.keep b o n h), y.pool, fun b h => y.there b (x.there b h)⟩
theorem same_there {H H' : Hp} (e : Same H H') : ∀ b, H b ≠ none → H' b ≠ none := fun b h => by
  cases z : H b with
  | none => exact absurd z h
  | some o => rw [e b o z]; exact Option.some_ne_none _
/-- things that stood before the def or that an object holds: no name of the def holds them itself -/
inductive Gh where
  | lst (ds : List PyData)
  | dic (es : List (PyData × PyData))
  | dit (es : List (PyData × PyData))
/-- what stands in a slot: nothing that is spoken of; data; a list, a dict of the def's own; the pool; a thing that stood before (b) or that is held elsewhere; a name of the thing of slot j -/
inductive Sl where
  | un
  | val (d : PyData)
  | lst (ds : List PyData)
  | dic (es : List (PyData × PyData))
  | dit (es : List (PyData × PyData))
  | pool
  | gh (b : Bool) (g : Gh)
  | ptr (j : Nat)
inductive SlotAt (W : Addr → Prop) (pl : Pl) (H : Hp) : Option Addr → Option V → Sl → Prop
  | un (x : Option V) : SlotAt W pl H none x .un
  | val {v : V} {d : PyData} : Dat W H v d → SlotAt W pl H none (some v) (.val d)
  | lst {p : Addr} {vs : List V} {ds : List PyData} : H p = some (.lst vs) → Dats W H vs ds → SlotAt W pl H (some p) (some (.ref p)) (.lst ds)
  | dic {p : Addr} {kvs : List (Key × V)} {es : List (PyData × PyData)} : H p = some (.dK kvs) → DatK W H kvs es → SlotAt W pl H (some p) (some (.ref p)) (.dic es)
  | dit {p : Addr} {kvs : List (List Key × V)} {es : List (PyData × PyData)} : H p = some (.dT kvs) → DatT W H kvs es → SlotAt W pl H (some p) (some (.ref p)) (.dit es)
  | pool {a c : Addr} : pl = some (a, c) → SlotAt W pl H none (some (.ref a)) .pool
  | gl {b : Bool} {p : Addr} {vs : List V} {ds : List PyData} : H p = some (.lst vs) → Dats W H vs ds → SlotAt W pl H (some p) none (.gh b (.lst ds))
  | gd {b : Bool} {p : Addr} {kvs : List (Key × V)} {es : List (PyData × PyData)} : H p = some (.dK kvs) → DatK W H kvs es → SlotAt W pl H (some p) none (.gh b (.dic es))
  | gt {b : Bool} {p : Addr} {kvs : List (List Key × V)} {es : List (PyData × PyData)} : H p = some (.dT kvs) → DatT W H kvs es → SlotAt W pl H (some p) none (.gh b (.dit es))
  | ptr {x : Option V} (j : Nat) : SlotAt W pl H none x (.ptr j)
inductive Slots (W : Addr → Prop) (pl : Pl) (H : Hp) : List (Option Addr) → St → List Sl → Prop
  | nil : Slots W pl H [] [] []
  | cons {o : Option Addr} {x : Option V} {s : Sl} {O : List (Option Addr)} {σ : St} {ρ : List Sl} : SlotAt W pl H o x s → Slots W pl H O σ ρ → Slots W pl H (o :: O) (x :: σ) (s :: ρ)
section
variable {W W' : Addr → Prop} {pl : Pl} {H H' : Hp}
theorem Slots.get : ∀ {O : List (Option Addr)} {σ : St} {ρ : List Sl} {i : Nat} {s : Sl}, Slots W pl H O σ ρ → ρ[i]? = some s → ∃ o x, O[i]? = some o ∧ σ[i]? = some x ∧ SlotAt W pl H o x s
  | _, _, _, _, _, .nil, e => by simp at e
  | _, _, _, 0, _, .cons h _, e => by simp at e; subst e; exact ⟨_, _, rfl, rfl, h⟩
  | _, _, _, i + 1, s, .cons _ r, e => by
    obtain ⟨o, x, a, b, c⟩ := Slots.get (i := i) (s := s) r (by simpa using e)
    exact ⟨o, x, by simpa using a, by simpa using b, c⟩
theorem Slots.set {o : Option Addr} {x : Option V} {s : Sl} (h : SlotAt W pl H o x s) : ∀ {O : List (Option Addr)} {σ : St} {ρ : List Sl} (i : Nat), Slots W pl H O σ ρ → Slots W pl H (O.set i o) (σ.set i x) (ρ.set i s)
  | _, _, _, _, .nil => .nil
  | _, _, _, 0, .cons _ r => .cons h r
  | _, _, _, i + 1, .cons k r => .cons k (Slots.set h i r)
theorem Slots.len : ∀ {O : List (Option Addr)} {σ : St} {ρ : List Sl}, Slots W pl H O σ ρ → O.length = ρ.length ∧ σ.length = ρ.length
  | _, _, _, .nil => ⟨rfl, rfl⟩
  | _, _, _, .cons _ r => ⟨congrArg (· + 1) r.len.1, congrArg (· + 1) r.len.2⟩
/-- from one heap to another: own things as well -/
theorem Slots.to (hU : ∀ p, ¬ W p → H p ≠ none → ¬ W' p) (ht : ∀ p vs, H p = some (.tup vs) → H' p = some (.tup vs)) (hl : ∀ p o, ¬ W p → H p = some o → H' p = some o) :
    ∀ {O : List (Option Addr)} {σ : St} {ρ : List Sl}, (∀ p o, some p ∈ O → H p = some o → H' p = some o) → Slots W pl H O σ ρ → Slots W' pl H' O σ ρ
  | _, _, _, _, .nil => .nil
  | _, _, _, ho, .cons h r => by
    refine .cons ?_ (Slots.to hU ht hl (fun p o m => ho p o (List.mem_cons_of_mem _ m)) r)
    cases h with
    | un => exact .un _
    | val h => exact .val (h.to hU ht hl)
    | lst h k => exact .lst (ho _ _ List.mem_cons_self h) (k.to hU ht hl)
    | dic h k => exact .dic (ho _ _ List.mem_cons_self h) (k.to hU ht hl)
    | dit h k => exact .dit (ho _ _ List.mem_cons_self h) (k.to hU ht hl)
    | pool h => exact .pool h
    | gl h k => exact .gl (ho _ _ List.mem_cons_self h) (k.to hU ht hl)
    | gd h k => exact .gd (ho _ _ List.mem_cons_self h) (k.to hU ht hl)
    | gt h k => exact .gt (ho _ _ List.mem_cons_self h) (k.to hU ht hl)
    | ptr j => exact .ptr j
end
/-- where a def stands: U no data's list stands here, Wr what may be written of what stood at the start, the pool, the heap at the start -/
structure Fr where
  U : Addr → Prop
  Wr : Addr → Prop
  pl : Pl
  H0 : Hp
  gh : List (Nat × Addr)
/-- no list of a slot's data stands here -/
def Wd (fr : Fr) (O : List (Option Addr)) : Addr → Prop := fun b => fr.U b ∨ some b ∈ O
def kiG : Option Sl → Bool
  | some (.gh _ _) => true
  | _ => false
def kiP : Option Sl → Bool
  | some (.gh true _) => true
  | _ => false
def kiT : Option Sl → Bool
  | some (.ptr _) => true
  | _ => false
/-- a slot's content that ties nothing -/
def plS (s : Sl) : Bool := !kiG (some s) && !kiT (some s)
/-- names that hold a slot's thing; what stood before stands where it stood -/
structure Tied (g : List (Nat × Addr)) (O : List (Option Addr)) (σ : St) (ρ : List Sl) : Prop where
  ptr : ∀ i j : Nat, ρ[i]? = some (Sl.ptr j) → kiG ρ[j]? = true → ∃ p : Addr, O[j]? = some (some p) ∧ σ[i]? = some (some (V.ref p))
  pin : ∀ (j : Nat) (p : Addr), (j, p) ∈ g → kiP ρ[j]? = true → O[j]? = some (some p)
section
variable {g : List (Nat × Addr)} {O : List (Option Addr)} {σ : St} {ρ : List Sl}
theorem isG_of {s : Option Sl} (h : kiP s = true) : kiG s = true := by
  unfold kiP at h
  split at h
  · rfl
  · cases h
theorem set_ptr {i k j : Nat} {s : Sl} (hs : plS s = true) (h : (ρ.set i s)[k]? = some (.ptr j)) : k ≠ i ∧ ρ[k]? = some (.ptr j) := by
  rw [List.getElem?_set] at h
  split at h
  · split at h
    · cases h; cases hs
    · cases h
  · rename_i n
    exact ⟨fun e => n e.symm, h⟩
theorem set_isG {i j : Nat} {s : Sl} (hs : plS s = true) (h : kiG (ρ.set i s)[j]? = true) : j ≠ i ∧ kiG ρ[j]? = true := by
  rw [List.getElem?_set] at h
  split at h
  · split at h
    · rw [plS, h] at hs; cases hs
    · cases h
  · rename_i n
    exact ⟨fun e => n e.symm, h⟩
theorem Tied.set (t : Tied g O σ ρ) (i : Nat) {s : Sl} {o : Option Addr} {x : Option V} (hs : plS s = true) : Tied g (O.set i o) (σ.set i x) (ρ.set i s) := by
  refine ⟨fun k j hk hj => ?_, fun j p m hj => ?_⟩
  · obtain ⟨n1, k1⟩ := set_ptr hs hk
    obtain ⟨n2, k2⟩ := set_isG hs hj
    obtain ⟨p, h1, h2⟩ := t.ptr k j k1 k2
    exact ⟨p, by rw [List.getElem?_set_ne n2.symm]; exact h1, by rw [List.getElem?_set_ne n1.symm]; exact h2⟩
  · obtain ⟨n2, _⟩ := set_isG hs (isG_of hj)
    rw [List.getElem?_set_ne n2.symm] at hj
    rw [List.getElem?_set_ne n2.symm]
    exact t.pin j p m hj
theorem Tied.put (t : Tied g O σ ρ) (i : Nat) {s : Sl} (hs : plS s = true) : Tied g O σ (ρ.set i s) := by
  refine ⟨fun k j hk hj => t.ptr k j (set_ptr hs hk).2 (set_isG hs hj).2, fun j p m hj => ?_⟩
  obtain ⟨n2, _⟩ := set_isG hs (isG_of hj)
  rw [List.getElem?_set_ne n2.symm] at hj
  exact t.pin j p m hj
theorem Tied.free (h : ∀ s ∈ ρ, plS s = true) : Tied g O σ ρ := by
  have no : ∀ (j : Nat), kiG ρ[j]? = false := fun j => by
    cases e : ρ[j]? with
    | none => rfl
    | some s =>
      have := h s (List.mem_of_getElem? e)
      cases s <;> first | rfl | cases this
  refine ⟨fun i j _ hj => ?_, fun j p _ hj => ?_⟩
  · rw [no] at hj; cases hj
  · have := isG_of hj
    rw [no] at this; cases this
theorem plS_vals {ds : List PyData} {n : Nat} : ∀ s ∈ ds.map Sl.val ++ List.replicate n Sl.un, plS s = true := fun s m => by
  rcases List.mem_append.mp m with m | m
  · obtain ⟨d, _, rfl⟩ := List.mem_map.mp m; rfl
  · rw [List.eq_of_mem_replicate m]; rfl
end
structure At (fr : Fr) (O : List (Option Addr)) (σ : St) (ρ : List Sl) (H : Hp) : Prop where
  sl : Slots (Wd fr O) fr.pl H O σ ρ
  keep : ∀ b o, ¬ fr.Wr b → fr.H0 b = some o → H b = some o
  pool : ∀ a c, fr.pl = some (a, c) → Cf.PoolAt H a c ∧ fr.Wr a ∧ fr.U a
  own : ∀ p, some p ∈ O → (¬ fr.U p ∧ (fr.Wr p ∨ fr.H0 p = none)) ∧ (∀ a c, fr.pl = some (a, c) → p ≠ a ∧ p ≠ c) ∧ (∃ o, H p = some o ∧ ∀ vs, o ≠ .tup vs)
  nd : ∀ (i j : Nat) (p : Addr), O[i]? = some (some p) → O[j]? = some (some p) → i = j
  up : ∀ b, fr.U b → fr.H0 b ≠ none
  st : ∀ b, fr.H0 b ≠ none → H b ≠ none
  gh : Tied fr.gh O σ ρ
theorem pool_obj {H : Hp} {a c : Addr} (h : Cf.PoolAt H a c) : ∃ vs, H a = some (.lst vs) := by
  obtain ⟨_, _, _, _, _, h, _⟩ := h
  exact ⟨_, h⟩
section
variable {fr : Fr} {O O' : List (Option Addr)} {σ σ' : St} {ρ ρ' : List Sl} {H H' : Hp}
theorem At.tupW (A : At fr O σ ρ H) {a c : Addr} (e : fr.pl = some (a, c)) {b : Addr} {vs : List V} (h : H b = some (.tup vs)) : b ≠ a := by
  obtain ⟨us, hu⟩ := pool_obj (A.pool a c e).1
  exact ne_of h hu (by intro z; cases z)
/-- a step that writes nothing but the pool -/
theorem At.ex (A : At fr O σ ρ H) (e : Ex fr.pl H H') : At fr O σ ρ H' where
  sl := by
    refine A.sl.to (fun _ n _ => n) (fun p vs h => e.keep p _ (fun a c z => A.tupW z h) h) (fun p o n h => e.keep p o (fun a c z y => n (.inl (by rw [y]; exact (A.pool a c z).2.2))) h) fun p o m h => e.keep p o (fun a c z => ((A.own p m).2.1 a c z).1) h
  keep := fun b o n h => e.keep b o (fun a c z y => n (by rw [y]; exact (A.pool a c z).2.1)) (A.keep b o n h)
  pool := fun a c z => ⟨e.pool a c z, (A.pool a c z).2⟩
  own := fun p m => by
    obtain ⟨h1, h2, o, h3, h4⟩ := A.own p m
    exact ⟨h1, h2, o, e.keep p o (fun a c z => (h2 a c z).1) h3, h4⟩
  nd := A.nd
  up := A.up
  st := fun b h => e.there b (A.st b h)
  gh := A.gh
theorem At.refl (A : At fr O σ ρ H) : Ex fr.pl H H := ⟨fun _ _ _ h => h, fun a c e => (A.pool a c e).1, fun _ h => h⟩
theorem At.same (A : At fr O σ ρ H) (e : Same H H') : Ex fr.pl H H' := by
  refine ⟨fun b o _ h => e b o h, fun a c z => ?_, same_there e⟩
  obtain ⟨ns, i, v, k, s, h1, h2, h3, h4⟩ := (A.pool a c z).1
  exact ⟨ns, i, v, k, s, e _ _ h1, e _ _ h2, h3, h4⟩
theorem At.wd (A : At fr O σ ρ H) {b : Addr} (h : Wd fr O b) : H b ≠ none := by
  rcases h with h | h
  · exact A.st b (A.up b h)
  · obtain ⟨_, _, o, h, _⟩ := A.own b h
    rw [h]; exact Option.some_ne_none _
/-- data stays through a step that writes nothing but the pool; U' with the pool in it -/
theorem Dat.ex {U : Addr → Prop} {pl : Pl} (e : Ex pl H H') (hp : ∀ a c, pl = some (a, c) → U a ∧ Cf.PoolAt H a c) {v : V} {d : PyData} (h : Dat U H v d) : Dat U H' v d := by
  refine h.to (fun _ n _ => n) (fun p vs h => e.keep p _ (fun a c z => ?_) h) fun p o n h => e.keep p o (fun a c z y => n (by rw [y]; exact (hp a c z).1)) h
  obtain ⟨us, hu⟩ := pool_obj (hp a c z).2
  exact ne_of h hu (by intro y; cases y)
theorem Dats.ex {U : Addr → Prop} {pl : Pl} (e : Ex pl H H') (hp : ∀ a c, pl = some (a, c) → U a ∧ Cf.PoolAt H a c) {v : List V} {d : List PyData} (h : Dats U H v d) : Dats U H' v d := by
  refine h.to (fun _ n _ => n) (fun p vs h => e.keep p _ (fun a c z => ?_) h) fun p o n h => e.keep p o (fun a c z y => n (by rw [y]; exact (hp a c z).1)) h
  obtain ⟨us, hu⟩ := pool_obj (hp a c z).2
  exact ne_of h hu (by intro y; cases y)
theorem At.hp (A : At fr O σ ρ H) : ∀ a c, fr.pl = some (a, c) → Wd fr O a ∧ Cf.PoolAt H a c := fun a c z => ⟨.inl (A.pool a c z).2.2, (A.pool a c z).1⟩
theorem At.hpU (A : At fr O σ ρ H) : ∀ a c, fr.pl = some (a, c) → fr.U a ∧ Cf.PoolAt H a c := fun a c z => ⟨(A.pool a c z).2.2, (A.pool a c z).1⟩
end
/-- the frame from here on -/
def Fr.shift (fr : Fr) (O : List (Option Addr)) (H : Hp) : Fr := ⟨fr.U, fun b => some b ∈ O ∨ ∃ c, fr.pl = some (b, c), fr.pl, H, fr.gh⟩
section
variable {fr : Fr} {O O' : List (Option Addr)} {σ σ' : St} {ρ ρ' : List Sl} {H H' : Hp}
theorem At.shift (A : At fr O σ ρ H) : At (fr.shift O H) O σ ρ H where
  sl := A.sl
  keep := fun _ _ _ h => h
  pool := fun a c z => ⟨(A.pool a c z).1, .inr ⟨c, z⟩, (A.pool a c z).2.2⟩
  own := fun p m => ⟨⟨(A.own p m).1.1, .inl (.inl m)⟩, (A.own p m).2⟩
  nd := A.nd
  up := fun b h => A.wd (.inl h)
  st := fun _ h => h
  gh := A.gh
theorem At.back (A : At fr O σ ρ H) (B : At (fr.shift O H) O' σ' ρ' H') : At fr O' σ' ρ' H' where
  sl := B.sl
  keep := fun b o n h => by
    refine B.keep b o (fun z => ?_) (A.keep b o n h)
    rcases z with z | ⟨c, z⟩
    · rcases (A.own b z).1.2 with y | y
      · exact n y
      · rw [h] at y; cases y
    · exact n (A.pool b c z).2.1
  pool := fun a c z => ⟨(B.pool a c z).1, (A.pool a c z).2⟩
  own := fun p m => by
    obtain ⟨⟨h0, h1⟩, h2, h3⟩ := B.own p m
    refine ⟨⟨h0, ?_⟩, h2, h3⟩
    rcases h1 with (z | ⟨c, z⟩) | z
    · exact (A.own p z).1.2
    · exact absurd rfl (h2 p c z).1
    · refine .inr ?_
      cases y : fr.H0 p with
      | none => rfl
      | some o => exact absurd z (A.st p (by rw [y]; exact Option.some_ne_none _))
  nd := B.nd
  up := A.up
  st := fun b h => B.st b (A.st b h)
  gh := B.gh
/-- what stood outside of what is written stands -/
theorem At.datBack (A : At fr O σ ρ H) (B : At (fr.shift O H) O' σ' ρ' H') {v : V} {d : PyData} (h : Dat (Wd fr O) H v d) : Dat (Wd fr O) H' v d := by
  have key : ∀ p o, (∀ c, fr.pl ≠ some (p, c)) → some p ∉ O → H p = some o → H' p = some o := fun p o n1 n2 h => B.keep p o (fun z => z.elim n2 fun ⟨c, z⟩ => n1 c z) h
  refine h.to (fun _ n _ => n) (fun p vs h => key p _ (fun c z => A.tupW z h rfl) (fun m => ?_) h) fun p o n h => key p o (fun c z => n (.inl (A.pool p c z).2.2)) (fun m => n (.inr m)) h
  obtain ⟨_, _, o, y, z⟩ := A.own p m
  exact z vs (Option.some.inj (y.symm.trans h))
end
/-- a value on its way: a list or dict at the top may be the def's own -/
inductive TopD (U W : Addr → Prop) (H : Hp) : V → PyData → Prop
  | of {v : V} {d : PyData} : Dat W H v d → TopD U W H v d
  | lst {p : Addr} {vs : List V} {ds : List PyData} : ¬ U p → H p = some (.lst vs) → Dats W H vs ds → TopD U W H (.ref p) (.list ds)
  | dic {p : Addr} {kvs : List (Key × V)} {es : List (PyData × PyData)} : ¬ U p → Rd H p (.dK kvs) → DatK W H kvs es → TopD U W H (.ref p) (.dict es)
  | dit {p : Addr} {kvs : List (List Key × V)} {es : List (PyData × PyData)} : ¬ U p → Rd H p (.dT kvs) → DatT W H kvs es → TopD U W H (.ref p) (.dict ((.none, .none) :: es))
section
variable {U W : Addr → Prop} {H : Hp} {v : V}
theorem TopD.tup {ds : List PyData} (h : TopD U W H v (.tuple ds)) : ∃ p vs, v = .ref p ∧ H p = some (.tup vs) ∧ Dats W H vs ds := by
  cases h with
  | of h => cases h with | tup a b => exact ⟨_, _, rfl, a, b⟩
theorem TopD.list {ds : List PyData} (h : TopD U W H v (.list ds)) : ∃ p vs, v = .ref p ∧ H p = some (.lst vs) ∧ Dats W H vs ds := by
  cases h with
  | of h => cases h with | lst _ a b => exact ⟨_, _, rfl, a, b⟩
  | lst _ a b => exact ⟨_, _, rfl, a, b⟩
theorem TopD.dict {es : List (PyData × PyData)} (h : TopD U W H v (.dict es)) : ∃ p, v = .ref p ∧ ((∃ kvs, Rd H p (.dK kvs) ∧ DatK W H kvs es) ∨ ∃ kvs fs, es = (.none, .none) :: fs ∧ Rd H p (.dT kvs) ∧ DatT W H kvs fs) := by
  cases h with
  | of h => cases h with
    | dic _ a b => exact ⟨_, rfl, .inl ⟨_, a, b⟩⟩
    | dit _ a b => exact ⟨_, rfl, .inr ⟨_, _, rfl, a, b⟩⟩
  | dic _ a b => exact ⟨_, rfl, .inl ⟨_, a, b⟩⟩
  | dit _ a b => exact ⟨_, rfl, .inr ⟨_, _, rfl, a, b⟩⟩
theorem TopD.int {i : Int} (h : TopD U W H v (.int i)) : v = .int i := by cases h with | of h => cases h; rfl
theorem TopD.str {x : Str} (h : TopD U W H v (.str x)) : v = .str x := by cases h with | of h => cases h; rfl
theorem TopD.bool {b : Bool} (h : TopD U W H v (.bool b)) : v = .bl b := by cases h with | of h => cases h; rfl
theorem TopD.none (h : TopD U W H v .none) : v = .non := by cases h with | of h => cases h; rfl
end
end Lq
namespace Lq
open PySem L2
/-! ### what is asked behind a step -/
abbrev Wp (α : Type) := (α → Prop) → Prop
def Mono {α : Type} (m : Wp α) : Prop := ∀ P P' : α → Prop, (∀ a, P a → P' a) → m P → m P'
def ret {α : Type} (a : α) : Wp α := fun Q => Q a
def bad {α : Type} : Wp α := fun _ => False
def bnd {α β : Type} (m : Wp α) (k : α → Wp β) : Wp β := fun Q => m fun a => k a Q
/-- c holds, then a -/
def gd {α : Type} (c : Prop) (a : α) : Wp α := fun Q => c ∧ Q a
theorem mono_ret {α : Type} (a : α) : Mono (ret a) := fun _ _ h q => h a q
theorem mono_bad {α : Type} : Mono (bad : Wp α) := fun _ _ _ q => q
theorem mono_gd {α : Type} {c : Prop} (a : α) : Mono (gd c a) := fun _ _ h q => ⟨q.1, h a q.2⟩
theorem mono_bnd {α β : Type} {m : Wp α} {k : α → Wp β} (h : Mono m) (g : ∀ a, Mono (k a)) : Mono (bnd m k) := fun _ _ hp q => h _ _ (fun a => g a _ _ hp) q
/-- what follows from what m gives -/
def up {α : Type} (m : Wp α) : Wp α := fun Q => ∃ P : α → Prop, m P ∧ ∀ a, P a → Q a
theorem mono_up {α : Type} (m : Wp α) : Mono (up m) := fun _ _ h ⟨R, a, b⟩ => ⟨R, a, fun x r => h x (b x r)⟩
theorem up_of {α : Type} {m : Wp α} {Q : α → Prop} (h : m Q) : up m Q := ⟨Q, h, fun _ q => q⟩
abbrev Rho := List Sl
theorem TopD.ex {pl : Pl} {U W : Addr → Prop} {H H' : Hp} (e : Ex pl H H') (hU : ∀ a c, pl = some (a, c) → U a ∧ Cf.PoolAt H a c) (hW : ∀ a c, pl = some (a, c) → W a ∧ Cf.PoolAt H a c) {v : V} {d : PyData} (h : TopD U W H v d) : TopD U W H' v d := by
  have ht : ∀ p vs, H p = some (.tup vs) → H' p = some (.tup vs) := fun p vs h => e.keep p _ (fun a c z => by
    obtain ⟨us, hu⟩ := pool_obj (hU a c z).2
    exact ne_of h hu (by intro y; cases y)) h
  have hl : ∀ p o, ¬ W p → H p = some o → H' p = some o := fun p o n h => e.keep p o (fun a c z y => n (by rw [y]; exact (hW a c z).1)) h
  have hl' : ∀ p o, ¬ U p → H p = some o → H' p = some o := fun p o n h => e.keep p o (fun a c z y => n (by rw [y]; exact (hU a c z).1)) h
  cases h with
  | of h => exact .of (h.ex e hW)
  | lst n a b => exact .lst n (hl' _ _ n a) (b.ex e hW)
  | dic n a b => exact .dic n (a.to fun o => hl' _ o n) (b.to (fun _ n _ => n) ht hl)
  | dit n a b => exact .dit n (a.to fun o => hl' _ o n) (b.to (fun _ n _ => n) ht hl)
/-- g: clean, for a slot; else on its way -/
def Gd (g : Bool) (fr : Fr) (O : List (Option Addr)) (H : Hp) (v : V) (d : PyData) : Prop := match g with
  | true => Dat (Wd fr O) H v d
  | false => TopD fr.U (Wd fr O) H v d
theorem Gd.top {g : Bool} {fr : Fr} {O : List (Option Addr)} {H : Hp} {v : V} {d : PyData} (h : Gd g fr O H v d) : TopD fr.U (Wd fr O) H v d := by
  cases g with
  | true => exact .of h
  | false => exact h
theorem Gd.of {g : Bool} {fr : Fr} {O : List (Option Addr)} {H : Hp} {v : V} {d : PyData} (h : Dat (Wd fr O) H v d) : Gd g fr O H v d := by
  cases g with
  | true => exact h
  | false => exact TopD.of h
section
variable {fr : Fr} {O : List (Option Addr)} {σ : St} {ρ : Rho} {H H' : Hp} {g : Bool}
theorem At.gd (A : At fr O σ ρ H) (e : Ex fr.pl H H') {v : V} {d : PyData} (h : Gd g fr O H v d) : Gd g fr O H' v d := by
  cases g with
  | true => exact Dat.ex e A.hp h
  | false => exact TopD.ex e A.hpU A.hp h
end
inductive Gds (g : Bool) (fr : Fr) (O : List (Option Addr)) (H : Hp) : List V → List PyData → Prop
  | nil : Gds g fr O H [] []
  | cons {v : V} {d : PyData} {vs : List V} {ds : List PyData} : Gd g fr O H v d → Gds g fr O H vs ds → Gds g fr O H (v :: vs) (d :: ds)
theorem Gds.dats {fr : Fr} {O : List (Option Addr)} {H : Hp} : ∀ {vs : List V} {ds : List PyData}, Gds true fr O H vs ds → Dats (Wd fr O) H vs ds
  | _, _, .nil => .nil
  | _, _, .cons h r => .cons h r.dats
/-! ### the readings -/
def teOf (g : Bool) (f : Rho → Wp PyData) : TE := fun σ H Q => ∃ fr O ρ, At fr O σ ρ H ∧ f ρ fun d => ∀ v H', Ex fr.pl H H' → Gd g fr O H' v d → Q v H'
def ttOf (f : Rho → Wp Bool) : TT := fun σ H Q => ∃ fr O ρ, At fr O σ ρ H ∧ f ρ fun b => ∀ H', Ex fr.pl H H' → Q b H'
def taOf (g : Bool) (f : Rho → Wp (List PyData)) : TA := fun σ H Q => ∃ fr O ρ, At fr O σ ρ H ∧ f ρ fun ds => ∀ vs H', Ex fr.pl H H' → Gds g fr O H' vs ds → Q vs H'
structure E (X : Cx) (g : Bool) (e : Expr) (f : Rho → Wp PyData) : Prop where
  pe : PE X e (teOf g f)
  mo : ∀ ρ, Mono (f ρ)
structure T (X : Cx) (e : Expr) (f : Rho → Wp Bool) : Prop where
  pt : PT X e (ttOf f)
  mo : ∀ ρ, Mono (f ρ)
structure TW (X : Cx) (e : Expr) (f : Rho → Wp Bool) : Prop where
  pw : PW X e (ttOf f)
  mo : ∀ ρ, Mono (f ρ)
structure A (X : Cx) (g : Bool) (es : List Expr) (f : Rho → Wp (List PyData)) : Prop where
  pa : PA X es (taOf g f)
  mo : ∀ ρ, Mono (f ρ)
  len : ∀ ρ P, f ρ P → f ρ fun ds => ds.length = es.length ∧ P ds
section
variable {X : Cx}
theorem pe_imp {e : Expr} {t t' : TE} (h : PE X e t) (i : ∀ σ H Q, t' σ H Q → t σ H Q) : PE X e t' := ⟨fun pins s σ H Q I q => h.run pins s σ H Q I (i σ H Q q)⟩
theorem pt_imp {e : Expr} {t t' : TT} (h : PT X e t) (i : ∀ σ H Q, t' σ H Q → t σ H Q) : PT X e t' := ⟨fun pins s σ H Q I q => h.run pins s σ H Q I (i σ H Q q)⟩
theorem pw_imp {e : Expr} {t t' : TT} (h : PW X e t) (i : ∀ σ H Q, t' σ H Q → t σ H Q) : PW X e t' := ⟨fun wh pins s σ H Q I q => h.run wh pins s σ H Q I (i σ H Q q)⟩
theorem pa_imp {es : List Expr} {t t' : TA} (h : PA X es t) (i : ∀ σ H Q, t' σ H Q → t σ H Q) : PA X es t' := ⟨fun pos pins s σ H Q I q => h.run pos pins s σ H Q I (i σ H Q q)⟩
theorem ps_imp {st : Stmt} {t t' : TS} (h : PS X st t) (i : ∀ D σ H, t' D σ H → t D σ H) : PS X st t' := ⟨fun pins s σ H D I q => h.run pins s σ H D I (i D σ H q)⟩
theorem pss_imp {st : List Stmt} {t t' : TS} (h : PSs X st t) (i : ∀ D σ H, t' D σ H → t D σ H) : PSs X st t' := ⟨fun pins s σ H D I q => h.run pins s σ H D I (i D σ H q)⟩
theorem E.tr {e : Expr} {f : Rho → Wp PyData} {g : Bool} (h : E X true e f) : E X g e f := by
  refine ⟨pe_imp h.pe fun σ H Q ⟨fr, O, ρ, A, q⟩ => ⟨fr, O, ρ, A, h.mo ρ _ _ (fun d k v H' e h' => k v H' e (Gd.of h')) q⟩, h.mo⟩
/-! ### names, constants -/
def slV : Option Sl → Wp PyData
  | some (.val d) => ret d
  | _ => bad
def slO : Option Sl → Wp PyData
  | some (.lst ds) => ret (.list ds)
  | some (.dic es) => ret (.dict es)
  | some (.dit es) => ret (.dict ((.none, .none) :: es))
  | _ => bad
def eVar (i : Nat) : Rho → Wp PyData := fun ρ => slV ρ[i]?
def eOwn (i : Nat) : Rho → Wp PyData := fun ρ => slO ρ[i]?
theorem At.val {fr : Fr} {O : List (Option Addr)} {σ : St} {ρ : Rho} {H : Hp} (A : At fr O σ ρ H) {i : Nat} {d : PyData} (h : ρ[i]? = some (.val d)) : ∃ v, σ[i]? = some (some v) ∧ Dat (Wd fr O) H v d := by
  obtain ⟨o, x, _, h2, h3⟩ := A.sl.get h
  cases h3 with
  | val h3 => exact ⟨_, h2, h3⟩
theorem mono_slV : ∀ o, Mono (slV o)
  | some (.val _) => mono_ret _
  | none | some .un | some (.lst _) | some (.dic _) | some (.dit _) | some .pool | some (.gh _ _) | some (.ptr _) => mono_bad
theorem mono_slO : ∀ o, Mono (slO o)
  | some (.lst _) | some (.dic _) | some (.dit _) => mono_ret _
  | none | some .un | some (.val _) | some .pool | some (.gh _ _) | some (.ptr _) => mono_bad
theorem e_var (i : Nat) {x : Str} {pos : Pos} (hN : X.N[i]? = some x := by rfl) (hv : Vis X.env.scope x := by first | exact Or.inl rfl | exact Or.inr (Or.inl rfl) | exact Or.inr (Or.inr rfl)) (hd : (x == ("__debug__" : Str)) = false := by decide)
    (hcd : (x == ("__classdict__" : Str)) = false := by decide) : E X true (.Name x pos) (eVar i) := by
  refine ⟨pe_imp (pe_var hN hv hd hcd) fun σ H Q ⟨fr, O, ρ, A, q⟩ => ?_, fun _ => mono_slV _⟩
  show ∃ v, _
  unfold eVar at q
  cases h : ρ[i]? with
  | none => rw [h] at q; exact False.elim q
  | some s =>
    rw [h] at q
    cases s with
    | val d =>
      obtain ⟨v, h1, h2⟩ := A.val h
      exact ⟨v, h1, q v H A.refl h2⟩
    | un => exact False.elim q
    | lst _ => exact False.elim q
    | dic _ => exact False.elim q
    | dit _ => exact False.elim q
    | pool => exact False.elim q
    | gh _ _ => exact False.elim q
    | ptr _ => exact False.elim q
theorem e_own (i : Nat) {x : Str} {pos : Pos} (hN : X.N[i]? = some x := by rfl) (hv : Vis X.env.scope x := by first | exact Or.inl rfl | exact Or.inr (Or.inl rfl) | exact Or.inr (Or.inr rfl)) (hd : (x == ("__debug__" : Str)) = false := by decide)
    (hcd : (x == ("__classdict__" : Str)) = false := by decide) : E X false (.Name x pos) (eOwn i) := by
  refine ⟨pe_imp (pe_var hN hv hd hcd) fun σ H Q ⟨fr, O, ρ, A, q⟩ => ?_, fun _ => mono_slO _⟩
  have own : ∀ {p : Addr}, O[i]? = some (some p) → ¬ fr.U p := fun h => (A.own _ (List.mem_of_getElem? h)).1.1
  unfold eOwn at q
  cases h : ρ[i]? with
  | none => rw [h] at q; exact False.elim q
  | some s =>
    rw [h] at q
    obtain ⟨o, x, h1, h2, h3⟩ := A.sl.get h
    cases h3 with
    | val _ => exact False.elim q
    | un => exact False.elim q
    | pool => exact False.elim q
    | gl _ _ => exact False.elim q
    | gd _ _ => exact False.elim q
    | gt _ _ => exact False.elim q
    | ptr _ => exact False.elim q
    | lst a b => exact ⟨_, h2, q _ H A.refl (TopD.lst (own h1) a b)⟩
    | dic a b => exact ⟨_, h2, q _ H A.refl (TopD.dic (own h1) (.inl a) b)⟩
    | dit a b => exact ⟨_, h2, q _ H A.refl (TopD.dit (own h1) (.inl a) b)⟩
def eC (d : PyData) : Rho → Wp PyData := fun _ => ret d
theorem e_int {i : Int} {j} {pos : Pos} {g : Bool} : E X g (.Constant (.int i) j pos) (eC (.int i)) := ⟨pe_imp pe_int fun σ H Q ⟨fr, O, ρ, A, q⟩ => q _ H A.refl (Gd.of (.int i)), fun _ => mono_ret _⟩
theorem e_bl {b : Bool} {j} {pos : Pos} {g : Bool} : E X g (.Constant (.bool b) j pos) (eC (.bool b)) := ⟨pe_imp pe_bl fun σ H Q ⟨fr, O, ρ, A, q⟩ => q _ H A.refl (Gd.of (.bl b)), fun _ => mono_ret _⟩
theorem e_str {x : Str} {j} {pos : Pos} {g : Bool} : E X g (.Constant (.str x) j pos) (eC (.str x)) := ⟨pe_imp pe_str fun σ H Q ⟨fr, O, ρ, A, q⟩ => q _ H A.refl (Gd.of (.str x)), fun _ => mono_ret _⟩
theorem e_non {j} {pos : Pos} {g : Bool} : E X g (.Constant .none j pos) (eC .none) := ⟨pe_imp pe_non fun σ H Q ⟨fr, O, ρ, A, q⟩ => q _ H A.refl (Gd.of .non), fun _ => mono_ret _⟩
/-! ### argument lists -/
def aNil : Rho → Wp (List PyData) := fun _ => ret []
def aCons (f : Rho → Wp PyData) (k : Rho → Wp (List PyData)) : Rho → Wp (List PyData) := fun ρ => bnd (f ρ) fun d => bnd (k ρ) fun ds => ret (d :: ds)
theorem a_nil {g : Bool} : A X g [] aNil := ⟨pa_imp pa_nil fun σ H Q ⟨fr, O, ρ, A, q⟩ => q [] H A.refl .nil, fun _ => mono_ret _, fun _ _ h => ⟨rfl, h⟩⟩
theorem a_cons {g : Bool} {e : Expr} {es : List Expr} {f : Rho → Wp PyData} {k : Rho → Wp (List PyData)} (h : E X g e f) (r : A X g es k) (hs : starEach (e :: es) X.env = (false, eval e X.env) :: starEach es X.env := by rfl) : A X g (e :: es) (aCons f k) := by
  refine ⟨pa_imp (pa_cons h.pe r.pa hs) fun σ H Q ⟨fr, O, ρ, A, q⟩ => ?_, fun ρ => mono_bnd (h.mo ρ) fun _ => mono_bnd (r.mo ρ) fun _ => mono_ret _, fun ρ P q => h.mo ρ _ _ (fun d k1 => r.mo ρ _ _ (fun ds k2 => ⟨congrArg (· + 1) k2.1, k2.2⟩) (r.len ρ _ k1)) q⟩
  refine ⟨fr, O, ρ, A, h.mo ρ _ _ (fun d k1 v H1 e1 g1 => ?_) q⟩
  have A1 := A.ex e1
  exact ⟨fr, O, ρ, A1, r.mo ρ _ _ (fun ds k2 vs H2 e2 g2 => k2 (v :: vs) H2 (e1.trans e2) (.cons (A1.gd e2 g1) g2)) k1⟩
theorem Ex.new {fr : Fr} {O : List (Option Addr)} {σ : St} {ρ : Rho} {H : Hp} (A : At fr O σ ρ H) {p : Addr} {o : HO} (h : H p = none) : Ex fr.pl H (upd H p o) := A.same (Cf.same_new h o)
theorem wd_new {fr : Fr} {O : List (Option Addr)} {σ : St} {ρ : Rho} {H : Hp} (A : At fr O σ ρ H) {p : Addr} (h : H p = none) : ¬ Wd fr O p := fun w => A.wd w h
/-- (a, b, ..) -/
def eTup (k : Rho → Wp (List PyData)) : Rho → Wp PyData := fun ρ => bnd (k ρ) fun ds => gd (ds.length ≤ sizeLine) (.tuple ds)
theorem e_tup {g : Bool} {es : List Expr} {c} {pos : Pos} {k : Rho → Wp (List PyData)} (h : A X true es k) : E X g (.Tuple es c pos) (eTup k) := by
  refine E.tr ⟨pe_imp (pe_tup h.pa) fun σ H Q ⟨fr, O, ρ, A, q⟩ => ?_, fun ρ => mono_bnd (h.mo ρ) fun _ => mono_gd _⟩
  refine ⟨fr, O, ρ, A, h.mo ρ _ _ (fun ds k1 vs H1 e1 g1 => ?_) q⟩
  have A1 := A.ex e1
  have l := g1.dats.length
  exact ⟨by rw [l]; exact k1.1, fun p hp => k1.2 _ _ (e1.trans (Ex.new A1 hp)) (Dat.tup upd_same (g1.dats.same (Cf.same_new hp _)))⟩
end
end Lq
namespace Lq
open PySem L2
/-! ### operators, built-in calls, by data -/
structure OpQ (X : Cx) (f : Value → Value → Sem Value) (o : PyData → PyData → Wp PyData) : Prop where
  ex : ∃ r : R2, OpR X f r ∧ ∀ {fr : Fr} {O : List (Option Addr)} {σ : St} {ρ : Rho} {H : Hp} {x y : V} {d e : PyData} {Q : VK}, At fr O σ ρ H → TopD fr.U (Wd fr O) H x d → TopD fr.U (Wd fr O) H y e →
    (o d e fun c => ∀ v H', Same H H' → Dat (Wd fr O) H' v c → Q v H') → r x y H Q
  mo : ∀ d e, Mono (o d e)
structure CallQ (X : Cx) (f : Value) (o : List PyData → Wp PyData) : Prop where
  ex : ∃ r : List V → Hp → VK → Prop, CallR X f r ∧ ∀ {fr : Fr} {O : List (Option Addr)} {σ : St} {ρ : Rho} {H : Hp} {vs : List V} {ds : List PyData} {Q : VK}, At fr O σ ρ H → Gds false fr O H vs ds →
    (o ds fun c => ∀ v H', Same H H' → Dat (Wd fr O) H' v c → Q v H') → r vs H Q
  mo : ∀ ds, Mono (o ds)
structure IxQ (X : Cx) (o : PyData → PyData → Wp PyData) : Prop where
  ex : ∃ r : R2, IxR X r ∧ ∀ {fr : Fr} {O : List (Option Addr)} {σ : St} {ρ : Rho} {H : Hp} {x y : V} {d e : PyData} {Q : VK}, At fr O σ ρ H → TopD fr.U (Wd fr O) H x d → TopD fr.U (Wd fr O) H y e →
    (o d e fun c => ∀ v H', Same H H' → Dat (Wd fr O) H' v c → Q v H') → r x y H Q
  mo : ∀ d e, Mono (o d e)
def eOp (o : PyData → PyData → Wp PyData) (f k : Rho → Wp PyData) : Rho → Wp PyData := fun ρ => bnd (f ρ) fun d => bnd (k ρ) fun e => o d e
section
variable {X : Cx} {a b : Expr} {f k : Rho → Wp PyData} {pos : Pos}
theorem mono_eOp {o : PyData → PyData → Wp PyData} (mo : ∀ d e, Mono (o d e)) (h : ∀ ρ, Mono (f ρ)) (r : ∀ ρ, Mono (k ρ)) (ρ : Rho) : Mono (eOp o f k ρ) := mono_bnd (h ρ) fun _ => mono_bnd (r ρ) fun _ => mo _ _
/-- two values and what is asked of them -/
theorem two_ops {o : PyData → PyData → Wp PyData} {r : R2} (hr : ∀ {fr : Fr} {O : List (Option Addr)} {σ : St} {ρ : Rho} {H : Hp} {x y : V} {d e : PyData} {Q : VK}, At fr O σ ρ H → TopD fr.U (Wd fr O) H x d → TopD fr.U (Wd fr O) H y e →
    (o d e fun c => ∀ v H', Same H H' → Dat (Wd fr O) H' v c → Q v H') → r x y H Q) (mo : ∀ d e, Mono (o d e)) (ha : ∀ ρ, Mono (f ρ)) (hb : ∀ ρ, Mono (k ρ)) {σ : St} {H : Hp} {Q : VK} (q : teOf true (eOp o f k) σ H Q) : tOp r (teOf false f) (teOf false k) σ H Q := by
  obtain ⟨fr, O, ρ, A, q⟩ := q
  refine ⟨fr, O, ρ, A, ha ρ _ _ (fun d k1 x H1 e1 g1 => ?_) q⟩
  have A1 := A.ex e1
  refine ⟨fr, O, ρ, A1, hb ρ _ _ (fun e k2 y H2 e2 g2 => ?_) k1⟩
  have A2 := A1.ex e2
  exact hr A2 (A1.gd e2 g1).top g2.top (mo _ _ _ _ (fun c k3 v H3 e3 g3 => k3 v H3 ((e1.trans e2).trans (A2.same e3)) g3) k2)
theorem e_op {g : Bool} {op : Operator} {o : PyData → PyData → Wp PyData} (ho : OpQ X (binaryOp op) o) (ha : E X false a f) (hb : E X false b k) : E X g (.BinOp a op b pos) (eOp o f k) := by
  obtain ⟨r, h1, h2⟩ := ho.ex
  exact E.tr ⟨pe_imp (pe_op h1 ha.pe hb.pe) fun σ H Q q => two_ops h2 ho.mo ha.mo hb.mo q, mono_eOp ho.mo ha.mo hb.mo⟩
theorem e_cmp {g : Bool} {op : CmpOp} {o : PyData → PyData → Wp PyData} (ho : OpQ X (compareOp op) o) (ha : E X false a f) (hb : E X false b k) (hm : behindInMarks op b = false := by first | exact nomark _ (by decide) (by decide) | rfl | with_unfolding_all rfl) : E X g (.Compare a [op] [b] pos) (eOp o f k) := by
  obtain ⟨r, h1, h2⟩ := ho.ex
  exact E.tr ⟨pe_imp (pe_cmpR h1 ha.pe hb.pe hm) fun σ H Q q => two_ops h2 ho.mo ha.mo hb.mo q, mono_eOp ho.mo ha.mo hb.mo⟩
/-- the outcome of a test -/
def asB : PyData → Wp Bool
  | .bool b => ret b
  | _ => bad
theorem mono_asB : ∀ d, Mono (asB d)
  | .bool _ => mono_ret _
  | .none | .int _ | .str _ | .list _ | .tuple _ | .dict _ => mono_bad
def tT (f : Rho → Wp PyData) : Rho → Wp Bool := fun ρ => bnd (f ρ) asB
theorem mono_tT (h : ∀ ρ, Mono (f ρ)) (ρ : Rho) : Mono (tT f ρ) := mono_bnd (h ρ) mono_asB
theorem asB_ok {d : PyData} {P : Bool → Prop} (h : asB d P) : ∃ c, d = .bool c ∧ P c := by
  cases d with
  | bool b => exact ⟨b, rfl, h⟩
  | none => exact False.elim h
  | int _ => exact False.elim h
  | str _ => exact False.elim h
  | list _ => exact False.elim h
  | tuple _ => exact False.elim h
  | dict _ => exact False.elim h
theorem tt_of {t : TE} (mo : ∀ ρ, Mono (f ρ)) (h : ∀ σ H Q, teOf true f σ H Q → t σ H Q) {σ : St} {H : Hp} {Q : Bool → Hp → Prop} (q : ttOf (tT f) σ H Q) : tTest t σ H Q := by
  obtain ⟨fr, O, ρ, A, q⟩ := q
  refine h σ H _ ⟨fr, O, ρ, A, mo ρ _ _ (fun d k v H1 e1 g1 => ?_) q⟩
  obtain ⟨c, rfl, k⟩ := asB_ok k
  cases (show Dat (Wd fr O) H1 v (.bool c) from g1)
  exact ⟨c, rfl, k H1 e1⟩
theorem t_cmp {op : CmpOp} {o : PyData → PyData → Wp PyData} (ho : OpQ X (compareOp op) o) (ha : E X false a f) (hb : E X false b k) (hm : behindInMarks op b = false := by first | exact nomark _ (by decide) (by decide) | rfl | with_unfolding_all rfl) : T X (.Compare a [op] [b] pos) (tT (eOp o f k)) := by
  obtain ⟨r, h1, h2⟩ := ho.ex
  have m := mono_eOp ho.mo ha.mo hb.mo
  exact ⟨pt_imp (pt_cmpR h1 ha.pe hb.pe hm) fun σ H Q q => tt_of m (fun σ H Q q => two_ops h2 ho.mo ha.mo hb.mo q) q, mono_tT m⟩
def eChain (o o' : PyData → PyData → Wp PyData) (f k l : Rho → Wp PyData) : Rho → Wp PyData := fun ρ => bnd (f ρ) fun d => bnd (k ρ) fun e => bnd (o d e) fun z => bnd (asB z) fun c => if c = true then bnd (l ρ) fun i => o' e i else ret (.bool false)
theorem ite_mono {α : Type} {c : Prop} [Decidable c] {m n : Wp α} (h : Mono m) (g : Mono n) : Mono (if c then m else n) := by
  split
  · exact h
  · exact g
theorem chain_op {o o' : PyData → PyData → Wp PyData} {r r' : R2} {l : Rho → Wp PyData} (hr : ∀ {fr : Fr} {O : List (Option Addr)} {σ : St} {ρ : Rho} {H : Hp} {x y : V} {d e : PyData} {Q : VK}, At fr O σ ρ H → TopD fr.U (Wd fr O) H x d → TopD fr.U (Wd fr O) H y e →
    (o d e fun c => ∀ v H', Same H H' → Dat (Wd fr O) H' v c → Q v H') → r x y H Q) (hr' : ∀ {fr : Fr} {O : List (Option Addr)} {σ : St} {ρ : Rho} {H : Hp} {x y : V} {d e : PyData} {Q : VK}, At fr O σ ρ H → TopD fr.U (Wd fr O) H x d → TopD fr.U (Wd fr O) H y e →
    (o' d e fun c => ∀ v H', Same H H' → Dat (Wd fr O) H' v c → Q v H') → r' x y H Q) (mo : ∀ d e, Mono (o d e)) (mo' : ∀ d e, Mono (o' d e)) (ha : ∀ ρ, Mono (f ρ)) (hb : ∀ ρ, Mono (k ρ)) (hc : ∀ ρ, Mono (l ρ)) {σ : St} {H : Hp} {Q : VK}
    (q : teOf true (eChain o o' f k l) σ H Q) : tChain r r' (teOf false f) (teOf false k) (teOf false l) σ H Q := by
  obtain ⟨fr, O, ρ, A, q⟩ := q
  refine ⟨fr, O, ρ, A, ha ρ _ _ (fun d k1 x H1 e1 g1 => ?_) q⟩
  have A1 := A.ex e1
  refine ⟨fr, O, ρ, A1, hb ρ _ _ (fun e k2 y H2 e2 g2 => ?_) k1⟩
  have A2 := A1.ex e2
  refine hr A2 (A1.gd e2 g1).top g2.top (mo _ _ _ _ (fun c k3 v H3 e3 g3 => ?_) k2)
  obtain ⟨c, rfl, k3⟩ := asB_ok k3
  cases g3
  have A3 := A2.ex (A2.same e3)
  refine ⟨c, rfl, ?_⟩
  cases c with
  | true =>
    refine iteT ⟨fr, O, ρ, A3, hc ρ _ _ (fun i k4 z H4 e4 g4 => ?_) k3⟩
    have A4 := A3.ex e4
    exact hr' A4 (A3.gd e4 (A2.gd (A2.same e3) g2)).top g4.top (mo' _ _ _ _ (fun c k5 v H5 e5 g5 => k5 v H5 ((((e1.trans e2).trans (A2.same e3)).trans e4).trans (A4.same e5)) g5) k4)
  | false => exact iteF (k3 _ H3 ((e1.trans e2).trans (A2.same e3)) (.bl false))
theorem mono_eChain {o o' : PyData → PyData → Wp PyData} {l : Rho → Wp PyData} (mo : ∀ d e, Mono (o d e)) (mo' : ∀ d e, Mono (o' d e)) (ha : ∀ ρ, Mono (f ρ)) (hb : ∀ ρ, Mono (k ρ)) (hc : ∀ ρ, Mono (l ρ)) (ρ : Rho) : Mono (eChain o o' f k l ρ) :=
  mono_bnd (ha ρ) fun _ => mono_bnd (hb ρ) fun _ => mono_bnd (mo _ _) fun _ => mono_bnd (mono_asB _) fun _ => ite_mono (mono_bnd (hc ρ) fun _ => mo' _ _) (mono_ret _)
theorem e_chain {g : Bool} {c : Expr} {l : Rho → Wp PyData} {op op' : CmpOp} {o o' : PyData → PyData → Wp PyData} (ho : OpQ X (compareOp op) o) (ho' : OpQ X (compareOp op') o') (ha : E X false a f) (hb : E X false b k) (hc : E X false c l)
    (hm : lastMarks [op, op'] [b, c] = false := by with_unfolding_all rfl) : E X g (.Compare a [op, op'] [b, c] pos) (eChain o o' f k l) := by
  obtain ⟨r, h1, h2⟩ := ho.ex
  obtain ⟨r', h1', h2'⟩ := ho'.ex
  exact E.tr ⟨pe_imp (pe_chain h1 h1' ha.pe hb.pe hc.pe hm) fun σ H Q q => chain_op h2 h2' ho.mo ho'.mo ha.mo hb.mo hc.mo q, mono_eChain ho.mo ho'.mo ha.mo hb.mo hc.mo⟩
theorem t_chain {c : Expr} {l : Rho → Wp PyData} {op op' : CmpOp} {o o' : PyData → PyData → Wp PyData} (ho : OpQ X (compareOp op) o) (ho' : OpQ X (compareOp op') o') (ha : E X false a f) (hb : E X false b k) (hc : E X false c l)
    (hm : lastMarks [op, op'] [b, c] = false := by with_unfolding_all rfl) : T X (.Compare a [op, op'] [b, c] pos) (tT (eChain o o' f k l)) := by
  obtain ⟨r, h1, h2⟩ := ho.ex
  obtain ⟨r', h1', h2'⟩ := ho'.ex
  have m := mono_eChain ho.mo ho'.mo ha.mo hb.mo hc.mo
  exact ⟨pt_imp (pt_chain h1 h1' ha.pe hb.pe hc.pe hm) fun σ H Q q => tt_of m (fun σ H Q q => chain_op h2 h2' ho.mo ho'.mo ha.mo hb.mo hc.mo q) q, mono_tT m⟩
/-! ### truth, not, and, or, if -/
/-- a value's truth, of a known dict too -/
def TruW (K : PySem.W.Frag) (x : V) (H : Hp) (k : Bool) : Prop := TruV K x H k ∨ ∃ p kvs, x = .ref p ∧ Rd H p (.dK kvs) ∧ k = !kvs.isEmpty
theorem truw_ok : TruR X (fun x H Q => ∃ k, TruW X.K x H k ∧ Q k H) := by
  intro pins s σ H x v Q I rx h
  obtain ⟨k, e | ⟨p, kvs, rfl, e, rfl⟩, q⟩ := h
  · exact L2.tru_ok pins s σ H x v Q I rx ⟨k, e, q⟩
  · cases rx
    exact d_truth I e fun s' J => ⟨H, J, q⟩
def tOrW (K : PySem.W.Frag) (ta tb : TE) : TE := fun σ H Q => ta σ H fun x H1 => ∃ k, TruW K x H1 k ∧ if k = true then Q x H1 else tb σ H1 Q
def tAndW (K : PySem.W.Frag) (ta tb : TE) : TE := fun σ H Q => ta σ H fun x H1 => ∃ k, TruW K x H1 k ∧ if k = true then tb σ H1 Q else Q x H1
theorem truw_run {pins : List (Addr × Obj)} {s : Shared} {σ : St} {H : Hp} {x : V} {v : Value} {k : Bool} (J : Inv X pins σ H s) (r : RelV x v) (t : TruW X.K x H k) {R : Bool → Shared → Prop} (f : ∀ s', Inv X pins σ H s' → R k s') : wpAny (model X.prog X.w) X.A (truthy v) R X.xe s := by
  refine thn (truw_ok pins s σ H x v (fun c H2 => c = k ∧ H2 = H) J r ⟨k, t, rfl, rfl⟩) fun c s2 hc => ?_
  obtain ⟨H2, J2, rfl, rfl⟩ := hc
  exact f s2 J2
theorem pe_orW {ta tb : TE} {c : Expr} {cs : List Expr} (ha : PE X a ta) (hb : PE X (.BoolOp .Or (c :: cs) pos) tb) : PE X (.BoolOp .Or (a :: c :: cs) pos) (tOrW X.K ta tb) := by
  refine ⟨fun pp z σ H Q J q => PyProof.Rows.BoolOp_or (thn (ha.run pp z σ H _ J q) fun u z1 ⟨x, H1, J1, r, k, t, q⟩ => truw_run J1 r t fun z2 J2 => ?_)⟩
  cases k with
  | true => exact ⟨x, H1, J2, r, q⟩
  | false => exact hb.run pp z2 σ H1 Q J2 q
theorem pe_andW {ta tb : TE} {c : Expr} {cs : List Expr} (ha : PE X a ta) (hb : PE X (.BoolOp .And (c :: cs) pos) tb) : PE X (.BoolOp .And (a :: c :: cs) pos) (tAndW X.K ta tb) := by
  refine ⟨fun pp z σ H Q J q => PyProof.Rows.BoolOp_and (thn (ha.run pp z σ H _ J q) fun u z1 ⟨x, H1, J1, r, k, t, q⟩ => truw_run J1 r t fun z2 J2 => ?_)⟩
  cases k with
  | true => exact hb.run pp z2 σ H1 Q J2 q
  | false => exact ⟨x, H1, J2, r, q⟩
def tNotW (K : PySem.W.Frag) (ta : TE) : TE := fun σ H Q => ta σ H fun x H1 => ∃ k, TruW K x H1 k ∧ Q (.bl (!k)) H1
theorem pe_notW {ta : TE} (ha : PE X a ta) : PE X (.UnaryOp .Not a pos) (tNotW X.K ta) :=
  ⟨fun pp z σ H Q J q => PyProof.Rows.UnaryOp_ (thn (ha.run pp z σ H _ J q) fun u z1 ⟨x, H1, J1, r, k, t, q⟩ => PyProof.Rows.not_of (truw_run J1 r t fun z2 J2 => ⟨.bl (!k), H1, J2, rfl, q⟩))⟩
def tru : PyData → Wp Bool
  | .none => ret false
  | .bool b => ret b
  | .int i => ret (i != 0)
  | .str y => gd (y.length ≤ sizeLine) ((y.length : Int) != 0)
  | .list ds => ret (!ds.isEmpty)
  | .tuple ds => ret (!ds.isEmpty)
  | .dict ((.none, _) :: _) => bad
  | .dict es => ret (!es.isEmpty)
theorem mono_tru (d : PyData) : Mono (tru d) := by
  unfold tru
  split <;> first | exact mono_ret _ | exact mono_gd _ | exact mono_bad
theorem dats_empty {U : Addr → Prop} {H : Hp} {vs : List V} {ds : List PyData} (h : Dats U H vs ds) : ds.isEmpty = vs.isEmpty := by cases h <;> rfl
theorem tru_ok {K : PySem.W.Frag} {U W : Addr → Prop} {H : Hp} {v : V} {d : PyData} {P : Bool → Prop} (h : TopD U W H v d) (q : tru d P) : ∃ k, TruW K v H k ∧ P k := by
  cases d with
  | none => cases h.none; exact ⟨_, .inl rfl, q⟩
  | bool b => cases h.bool; exact ⟨_, .inl rfl, q⟩
  | int i => cases h.int; exact ⟨_, .inl rfl, q⟩
  | str y => cases h.str; exact ⟨_, .inl ⟨q.1, rfl⟩, q.2⟩
  | list ds =>
    obtain ⟨p, vs, rfl, a, b⟩ := h.list
    have q' : P (!ds.isEmpty) := q
    rw [dats_empty b] at q'
    exact ⟨_, .inl (.inl ⟨vs, SqL.of a, rfl⟩), q'⟩
  | tuple ds =>
    obtain ⟨p, vs, rfl, a, b⟩ := h.tup
    have q' : P (!ds.isEmpty) := q
    rw [dats_empty b] at q'
    exact ⟨_, .inl (.inr (.inl ⟨vs, SqT.of a, rfl⟩)), q'⟩
  | dict es =>
    obtain ⟨p, rfl, hh⟩ := h.dict
    clear h
    rcases hh with ⟨kvs, a, b⟩ | ⟨kvs, fs, rfl, a, b⟩
    · cases b with
      | nil => exact ⟨_, .inr ⟨_, _, rfl, a, rfl⟩, q⟩
      | @cons k _ _ _ _ c r =>
        cases k with
        | inl i => exact ⟨_, .inr ⟨_, _, rfl, a, rfl⟩, q⟩
        | inr i => exact ⟨_, .inr ⟨_, _, rfl, a, rfl⟩, q⟩
    · exact False.elim q
def tTru (f : Rho → Wp PyData) : Rho → Wp Bool := fun ρ => bnd (f ρ) tru
theorem mono_tTru (h : ∀ ρ, Mono (f ρ)) (ρ : Rho) : Mono (tTru f ρ) := mono_bnd (h ρ) mono_tru
theorem t_tru (ha : E X false a f) (he : ∀ whole, isTrue a X.env whole = (do let v ← whole; standAt a.pos; holding [v] (truthy v)) := by intro _; rfl) : T X a (tTru f) := by
  refine ⟨pt_imp (pt_truthR ha.pe truw_ok he) fun σ H Q ⟨fr, O, ρ, A, q⟩ => ?_, mono_tTru ha.mo⟩
  refine ⟨fr, O, ρ, A, ha.mo ρ _ _ (fun d k v H1 e1 g1 => ?_) q⟩
  obtain ⟨c, h1, h2⟩ := tru_ok (K := X.K) g1.top k
  exact ⟨c, h1, h2 H1 e1⟩
def tNo (f : Rho → Wp Bool) : Rho → Wp Bool := fun ρ => bnd (f ρ) fun b => ret (!b)
theorem t_not {l : Rho → Wp Bool} (ha : T X a l) : T X (.UnaryOp .Not a pos) (tNo l) := by
  refine ⟨pt_imp (pt_not ha.pt) fun σ H Q ⟨fr, O, ρ, A, q⟩ => ?_, fun ρ => mono_bnd (ha.mo ρ) fun _ => mono_ret _⟩
  exact ⟨fr, O, ρ, A, q⟩
theorem TW.t {l : Rho → Wp Bool} (h : TW X a l) : T X a l := ⟨h.pw.pt, h.mo⟩
def tBoth (f k : Rho → Wp Bool) : Rho → Wp Bool := fun ρ => bnd (f ρ) fun b => if b = true then k ρ else ret false
def tEither (f k : Rho → Wp Bool) : Rho → Wp Bool := fun ρ => bnd (f ρ) fun b => if b = true then ret true else k ρ
variable {l m : Rho → Wp Bool} {rest : List Expr}
theorem tw_and1 (ha : T X a l) : TW X (.BoolOp .And [a] pos) l := ⟨pw_and1 ha.pt, ha.mo⟩
theorem tw_or1 (ha : T X a l) : TW X (.BoolOp .Or [a] pos) l := ⟨pw_or1 ha.pt, ha.mo⟩
theorem tw_and (ha : T X a l) (hb : TW X (.BoolOp .And (b :: rest) pos) m) : TW X (.BoolOp .And (a :: b :: rest) pos) (tBoth l m) := by
  refine ⟨pw_imp (pw_and ha.pt hb.pw) fun σ H Q ⟨fr, O, ρ, A, q⟩ => ?_, fun ρ => mono_bnd (ha.mo ρ) fun _ => ite_mono (hb.mo ρ) (mono_ret _)⟩
  refine ⟨fr, O, ρ, A, ha.mo ρ _ _ (fun c k H1 e1 => ?_) q⟩
  cases c with
  | true => exact iteT ⟨fr, O, ρ, A.ex e1, hb.mo ρ _ _ (fun c k H2 e2 => k H2 (e1.trans e2)) k⟩
  | false => exact iteF (k H1 e1)
theorem tw_or (ha : T X a l) (hb : TW X (.BoolOp .Or (b :: rest) pos) m) : TW X (.BoolOp .Or (a :: b :: rest) pos) (tEither l m) := by
  refine ⟨pw_imp (pw_or ha.pt hb.pw) fun σ H Q ⟨fr, O, ρ, A, q⟩ => ?_, fun ρ => mono_bnd (ha.mo ρ) fun _ => ite_mono (mono_ret _) (hb.mo ρ)⟩
  refine ⟨fr, O, ρ, A, ha.mo ρ _ _ (fun c k H1 e1 => ?_) q⟩
  cases c with
  | true => exact iteT (k H1 e1)
  | false => exact iteF ⟨fr, O, ρ, A.ex e1, hb.mo ρ _ _ (fun c k H2 e2 => k H2 (e1.trans e2)) k⟩
/-- a and b, a or b as values -/
def eBoth (f k : Rho → Wp PyData) : Rho → Wp PyData := fun ρ => bnd (f ρ) fun d => bnd (tru d) fun b => if b = true then k ρ else ret d
def eEither (f k : Rho → Wp PyData) : Rho → Wp PyData := fun ρ => bnd (f ρ) fun d => bnd (tru d) fun b => if b = true then ret d else k ρ
theorem e_one {g : Bool} {op} (h : E X g a f) : E X g (.BoolOp op [a] pos) f := ⟨pe_one h.pe, h.mo⟩
theorem e_and {g : Bool} (ha : E X g a f) (hb : E X g (.BoolOp .And (b :: rest) pos) k) : E X g (.BoolOp .And (a :: b :: rest) pos) (eBoth f k) := by
  refine ⟨pe_imp (pe_andW ha.pe hb.pe) fun σ H Q ⟨fr, O, ρ, A, q⟩ => ?_, fun ρ => mono_bnd (ha.mo ρ) fun _ => mono_bnd (mono_tru _) fun _ => ite_mono (hb.mo ρ) (mono_ret _)⟩
  refine ⟨fr, O, ρ, A, ha.mo ρ _ _ (fun d k v H1 e1 g1 => ?_) q⟩
  obtain ⟨c, h1, h2⟩ := tru_ok (K := X.K) g1.top k
  refine ⟨c, h1, ?_⟩
  cases c with
  | true => exact iteT ⟨fr, O, ρ, A.ex e1, hb.mo ρ _ _ (fun c k v H2 e2 g2 => k v H2 (e1.trans e2) g2) h2⟩
  | false => exact iteF (h2 v H1 e1 g1)
theorem e_or {g : Bool} (ha : E X g a f) (hb : E X g (.BoolOp .Or (b :: rest) pos) k) : E X g (.BoolOp .Or (a :: b :: rest) pos) (eEither f k) := by
  refine ⟨pe_imp (pe_orW ha.pe hb.pe) fun σ H Q ⟨fr, O, ρ, A, q⟩ => ?_, fun ρ => mono_bnd (ha.mo ρ) fun _ => mono_bnd (mono_tru _) fun _ => ite_mono (mono_ret _) (hb.mo ρ)⟩
  refine ⟨fr, O, ρ, A, ha.mo ρ _ _ (fun d k v H1 e1 g1 => ?_) q⟩
  obtain ⟨c, h1, h2⟩ := tru_ok (K := X.K) g1.top k
  refine ⟨c, h1, ?_⟩
  cases c with
  | true => exact iteT (h2 v H1 e1 g1)
  | false => exact iteF ⟨fr, O, ρ, A.ex e1, hb.mo ρ _ _ (fun c k v H2 e2 g2 => k v H2 (e1.trans e2) g2) h2⟩
def eNo (f : Rho → Wp PyData) : Rho → Wp PyData := fun ρ => bnd (f ρ) fun d => bnd (tru d) fun b => ret (.bool (!b))
theorem e_not {g : Bool} (ha : E X false a f) : E X g (.UnaryOp .Not a pos) (eNo f) := by
  refine E.tr ⟨pe_imp (pe_notW ha.pe) fun σ H Q ⟨fr, O, ρ, A, q⟩ => ?_, fun ρ => mono_bnd (ha.mo ρ) fun _ => mono_bnd (mono_tru _) fun _ => mono_ret _⟩
  refine ⟨fr, O, ρ, A, ha.mo ρ _ _ (fun d k v H1 e1 g1 => ?_) q⟩
  obtain ⟨c, h1, h2⟩ := tru_ok (K := X.K) g1.top k
  exact ⟨c, h1, h2 _ H1 e1 (.bl _)⟩
def eIf (c : Rho → Wp Bool) (f k : Rho → Wp PyData) : Rho → Wp PyData := fun ρ => bnd (c ρ) fun b => if b = true then f ρ else k ρ
theorem e_if {g : Bool} {c : Expr} (hc : T X c l) (ha : E X g a f) (hb : E X g b k) : E X g (.IfExp c a b pos) (eIf l f k) := by
  refine ⟨pe_imp (pe_ifExp hc.pt ha.pe hb.pe) fun σ H Q ⟨fr, O, ρ, A, q⟩ => ?_, fun ρ => mono_bnd (hc.mo ρ) fun _ => ite_mono (ha.mo ρ) (hb.mo ρ)⟩
  refine ⟨fr, O, ρ, A, hc.mo ρ _ _ (fun d k H1 e1 => ?_) q⟩
  cases d with
  | true => exact iteT ⟨fr, O, ρ, A.ex e1, ha.mo ρ _ _ (fun c k v H2 e2 g2 => k v H2 (e1.trans e2) g2) k⟩
  | false => exact iteF ⟨fr, O, ρ, A.ex e1, hb.mo ρ _ _ (fun c k v H2 e2 g2 => k v H2 (e1.trans e2) g2) k⟩
/-! ### built-in calls, subscripts -/
def eCall (o : List PyData → Wp PyData) (k : Rho → Wp (List PyData)) : Rho → Wp PyData := fun ρ => bnd (k ρ) o
variable {x : Str} {p : Pos} {e : Expr} {es : List Expr} {o : List PyData → Wp PyData} {ka : Rho → Wp (List PyData)}
theorem args_ops {r : List V → Hp → VK → Prop} (hr : ∀ {fr : Fr} {O : List (Option Addr)} {σ : St} {ρ : Rho} {H : Hp} {vs : List V} {ds : List PyData} {Q : VK}, At fr O σ ρ H → Gds false fr O H vs ds →
    (o ds fun c => ∀ v H', Same H H' → Dat (Wd fr O) H' v c → Q v H') → r vs H Q) (mo : ∀ ds, Mono (o ds)) (ha : ∀ ρ, Mono (ka ρ)) {σ : St} {H : Hp} {Q : VK} (q : teOf true (eCall o ka) σ H Q) : tCB r (taOf false ka) σ H Q := by
  obtain ⟨fr, O, ρ, A, q⟩ := q
  refine ⟨fr, O, ρ, A, ha ρ _ _ (fun d k1 x H1 e1 g1 => ?_) q⟩
  have A1 := A.ex e1
  exact hr A1 g1 (mo _ _ _ (fun c k3 v H3 e3 g3 => k3 v H3 (e1.trans (A1.same e3)) g3) k1)
theorem e_callB {g : Bool} {id : String} (hc : CallQ X (.builtin id) o) (hm : X.mg x = none) (ha : A X false (e :: es) ka) (hg : Gl X x := by rfl) (hv : bootBuiltins x = some (.builtin id) := by decide +kernel) (hn : x ≠ "__name__" := by decide) (hdb : (x == ("__debug__" : Str)) = false := by decide)
    (he : starEach (e :: es) X.env = (false, eval e X.env) :: starEach es X.env := by rfl) (hpl : (backTo pos (starEach es X.env)).any (·.1) = false := by rfl) : E X g (.Call (.Name x p) (e :: es) [] pos) (eCall o ka) := by
  obtain ⟨r, h1, h2⟩ := hc.ex
  exact E.tr ⟨pe_imp (pe_callB h1 hg hm hv ha.pa hn hdb he hpl) fun σ H Q q => args_ops h2 hc.mo ha.mo q, fun ρ => mono_bnd (ha.mo ρ) hc.mo⟩
theorem e_callTy {g : Bool} {id : String} (hc : CallQ X (.type id) o) (hm : X.mg x = none) (ha : A X false (e :: es) ka) (hg : Gl X x := by rfl) (hv : bootBuiltins x = some (.type id) := by decide +kernel) (hn : x ≠ "__name__" := by decide) (hdb : (x == ("__debug__" : Str)) = false := by decide)
    (he : starEach (e :: es) X.env = (false, eval e X.env) :: starEach es X.env := by rfl) (hpl : (backTo pos (starEach es X.env)).any (·.1) = false := by rfl) : E X g (.Call (.Name x p) (e :: es) [] pos) (eCall o ka) := by
  obtain ⟨r, h1, h2⟩ := hc.ex
  exact E.tr ⟨pe_imp (pe_callTy h1 hg hm hv ha.pa hn hdb he hpl) fun σ H Q q => args_ops h2 hc.mo ha.mo q, fun ρ => mono_bnd (ha.mo ρ) hc.mo⟩
theorem e_ix {g : Bool} {o : PyData → PyData → Wp PyData} (hi : IxQ X o) (ha : E X false a f) (hb : E X false b k) (hs : PlainIx b := by exact fun _ _ => rfl) : E X g (.Subscript a b pos) (eOp o f k) := by
  obtain ⟨r, h1, h2⟩ := hi.ex
  exact E.tr ⟨pe_imp (pe_ix h1 ha.pe hb.pe hs) fun σ H Q q => two_ops h2 hi.mo ha.mo hb.mo q, mono_eOp hi.mo ha.mo hb.mo⟩
/-! ### calls of the text's own defs -/
/-- data in, data out, nothing written -/
def spQ (n : Nat) (m : List PyData → Wp PyData) : Sp := fun vs H Q _ => ∃ ds U, ds.length = n ∧ (∀ b, U b → H b ≠ none) ∧ Dats U H vs ds ∧ up (m ds) fun r => ∀ v H', Same H H' → Dat U H' v r → Q v H'
/-- .. and the pool, which is the first argument -/
def spQP (n : Nat) (m : List PyData → Wp PyData) : Sp := fun vs H Q _ => ∃ ds U a c us, vs = .ref a :: us ∧ ds.length = n ∧ Cf.PoolAt H a c ∧ U a ∧ (∀ b, U b → H b ≠ none) ∧ Dats U H us ds ∧ up (m ds) fun r => ∀ v H', Ex (some (a, c)) H H' → Dat U H' v r → Q v H'
def eFn (m : List PyData → Wp PyData) (k : Rho → Wp (List PyData)) : Rho → Wp PyData := fun ρ => bnd (k ρ) fun ds => up (m ds)
theorem e_call {g : Bool} {n j : Nat} {ps : List Str} {m : List PyData → Wp PyData} (C : Cf.At X.prog X.w X.K X.mg X.base x j ps (spQ n m)) (hr : Room j X.A) (ha : A X true (e :: es) ka) (hn : es.length + 1 = n := by rfl) (hg : Gl X x := by rfl) (hdb : (x == ("__debug__" : Str)) = false := by decide)
    (he : starEach (e :: es) X.env = (false, eval e X.env) :: starEach es X.env := by rfl) (hpl : (backTo pos (starEach es X.env)).any (·.1) = false := by rfl) : E X g (.Call (.Name x p) (e :: es) [] pos) (eFn m ka) := by
  obtain ⟨fa, fd, F, hb, hk, hm⟩ := C.ex
  refine E.tr ⟨pe_imp (pe_call (dvs := []) (E := E0) F hr hg hm hk hb .nil pass0 ha.pa hdb he hpl) fun σ H Q ⟨fr, O, ρ, A, q⟩ => ?_, fun ρ => mono_bnd (ha.mo ρ) fun _ => mono_up _⟩
  refine ⟨fr, O, ρ, A, ha.mo ρ _ _ (fun ds k1 vs H1 e1 g1 => ?_) (ha.len ρ _ q)⟩
  have A1 := A.ex e1
  exact ⟨ds, Wd fr O, k1.1.trans hn, fun b w => A1.wd w, by rw [List.append_nil]; exact g1.dats, mono_up _ _ _ (fun c k3 v H3 e3 g3 => k3 v H3 (e1.trans (A1.same e3)) g3) k1.2⟩
theorem hu65 {j : Nat} {A : Around} (hr : Room j A) : A.units + 65 < cLine := by have := hr.un; omega
end
end Lq
namespace Lq
open PySem L2
/-! ### statements -/
inductive Out where
  | nx (ρ : Rho)
  | rt (d : PyData)
  | bk (ρ : Rho)
  | ct (ρ : Rho)
  | ex (n : Str)
  | rs (d : PyData) (ρ : Rho)
/-- what is left at a def's end -/
structure Fin (fr : Fr) (H' : Hp) (v : V) (d : PyData) : Prop where
  keep : ∀ b o, ¬ fr.Wr b → fr.H0 b = some o → H' b = some o
  pool : ∀ a c, fr.pl = some (a, c) → Cf.PoolAt H' a c
  dat : Dat fr.U H' v d
  st : ∀ b, fr.H0 b ≠ none → H' b ≠ none
/-- what is kept where an exception leaves -/
structure FinE (fr : Fr) (H' : Hp) : Prop where
  keep : ∀ b o, ¬ fr.Wr b → fr.H0 b = some o → H' b = some o
  pool : ∀ a c, fr.pl = some (a, c) → Cf.PoolAt H' a c
  st : ∀ b, fr.H0 b ≠ none → H' b ≠ none
/-- where names lead, and what is wished of an exception -/
abbrev Yx := (Str → Option Value) × WX
def endOf (Y : Yx) (fr : Fr) (D : Ends) : Out → Prop
  | .ex n => ∀ C, Y.1 n = some (.ref C) → ∀ σ' H', FinE fr H' → Y.2 (.ref C) none σ' H'
  | .rs d ρ' => ∀ v σ' O' H', At fr O' σ' ρ' H' → Dat (Wd fr O') H' v d → D.rt v H'
  | .nx ρ' => ∀ σ' O' H', At fr O' σ' ρ' H' → D.nx σ' H'
  | .rt d => ∀ v H', Fin fr H' v d → D.rt v H'
  | .bk ρ' => ∀ σ' O' H', At fr O' σ' ρ' H' → D.bk σ' H'
  | .ct ρ' => ∀ σ' O' H', At fr O' σ' ρ' H' → D.ct σ' H'
def tsOf (Y : Yx) (f : Rho → Wp Out) : TS := fun D σ H => ∃ fr O ρ, At fr O σ ρ H ∧ f ρ (endOf Y fr D)
structure S (X : Cx) (st : Stmt) (f : Rho → Wp Out) : Prop where
  ps : ∀ Wx, Takes X Wx → PS X st (tsOf (X.mg, Wx) f)
  mo : ∀ ρ, Mono (f ρ)
structure SS (X : Cx) (st : List Stmt) (f : Rho → Wp Out) : Prop where
  ps : ∀ Wx, Takes X Wx → PSs X st (tsOf (X.mg, Wx) f)
  mo : ∀ ρ, Mono (f ρ)
/-- slots that are as they were but for those of ws -/
structure Agree (ws : List Nat) (O O' : List (Option Addr)) (σ σ' : St) : Prop where
  own : ∀ b, some b ∈ O' → some b ∈ O
  oeq : ∀ j, j ∉ ws → O'[j]? = O[j]?
  eq : ∀ j, j ∉ ws → σ'[j]? = σ[j]?
  len : σ'.length = σ.length
/-- data comes to names -/
def tgOf (ws : List Nat) (k : PyData → Rho → Wp Rho) : TG := fun v σ H Q => ∃ fr O ρ d, At fr O σ ρ H ∧ Dat (Wd fr O) H v d ∧ k d ρ fun ρ' => ∀ σ' O', Agree ws O O' σ σ' → At fr O' σ' ρ' H → Q σ' H
def tgsOf (ws : List Nat) (k : List PyData → Rho → Wp Rho) : TGs := fun vs σ H Q => ∃ fr O ρ ds, At fr O σ ρ H ∧ Dats (Wd fr O) H vs ds ∧ k ds ρ fun ρ' => ∀ σ' O', Agree ws O O' σ σ' → At fr O' σ' ρ' H → Q σ' H
structure G (X : Cx) (ws : List Nat) (tg : Expr) (k : PyData → Rho → Wp Rho) : Prop where
  pg : PG X tg (tgOf ws k)
  mo : ∀ d ρ, Mono (k d ρ)
  some : ∀ d ρ P, k d ρ P → ∃ ρ', P ρ'
structure Gs (X : Cx) (ws : List Nat) (tg : List Expr) (k : List PyData → Rho → Wp Rho) : Prop where
  pg : PGs X tg (tgsOf ws k)
  mo : ∀ d ρ, Mono (k d ρ)
  some : ∀ d ρ P, k d ρ P → ∃ ρ', P ρ'
  len : ∀ ds ρ P, k ds ρ P → ds.length = tg.length ∧ k ds ρ P
section
variable {fr : Fr} {O O' : List (Option Addr)} {σ σ' : St} {ρ ρ' : Rho} {H H' : Hp}
theorem mem_set_none {i : Nat} {b : Addr} (h : some b ∈ O.set i none) : some b ∈ O := by
  rcases List.mem_or_eq_of_mem_set h with h | h
  · exact h
  · cases h
theorem get_set_none {i j : Nat} {b : Addr} (h : (O.set i none)[j]? = some (some b)) : O[j]? = some (some b) := by
  rw [List.getElem?_set] at h
  split at h
  · split at h <;> cases h
  · exact h
/-- a slot takes data (or nothing, or the pool) -/
theorem At.setN (A : At fr O σ ρ H) (i : Nat) {x : Option V} {s : Sl} (h : SlotAt (Wd fr O) fr.pl H none x s) (hs : plS s = true := by rfl) : At fr (O.set i none) (σ.set i x) (ρ.set i s) H := by
  have hw : ∀ p, ¬ Wd fr O p → H p ≠ none → ¬ Wd fr (O.set i none) p := fun p n _ z => n (z.elim .inl fun m => .inr (mem_set_none m))
  refine ⟨?_, A.keep, A.pool, fun p m => A.own p (mem_set_none m), fun j k p h1 h2 => A.nd j k p (get_set_none h1) (get_set_none h2), A.up, A.st, A.gh.set i hs⟩
  refine Slots.set ?_ i (A.sl.to hw (fun _ _ => id) (fun _ _ _ => id) fun _ _ _ => id)
  cases h with
  | un x => exact .un x
  | val h => exact .val (h.to hw (fun _ _ => id) fun _ _ _ => id)
  | pool h => exact .pool h
  | ptr j => exact .ptr j
theorem At.setVal (A : At fr O σ ρ H) (i : Nat) {v : V} {d : PyData} (h : Dat (Wd fr O) H v d) : At fr (O.set i none) (σ.set i (some v)) (ρ.set i (.val d)) H := A.setN i (.val h)
end
section
variable {X : Cx} {e : Expr} {f : Rho → Wp PyData} {pos : Pos}
theorem pg_imp {tg : Expr} {t t' : TG} (h : PG X tg t) (i : ∀ v σ H Q, t' v σ H Q → t v σ H Q) : PG X tg t' := ⟨fun pins s σ H v u Q I r q => h.run pins s σ H v u Q I r (i v σ H Q q)⟩
theorem pgs_imp {tg : List Expr} {t t' : TGs} (h : PGs X tg t) (i : ∀ v σ H Q, t' v σ H Q → t v σ H Q) : PGs X tg t' := ⟨fun pins s σ H v u Q I r q => h.run pins s σ H v u Q I r (i v σ H Q q)⟩
def gN (i : Nat) : PyData → Rho → Wp Rho := fun d ρ => ret (ρ.set i (.val d))
theorem g_name (i : Nat) {x : Str} {p : Pos} (hN : X.N.Nodup) (hi : X.N[i]? = some x := by rfl) (hx : Loc X.env.scope x := by first | exact Or.inl rfl | exact Or.inr rfl) (hf : X.fn x = true ∨ X.env.scope.names.lookup x = some .local := by first | exact .inl rfl | exact .inr rfl) : G X [i] (.Name x p) (gN i) := by
  refine ⟨pg_imp (pg_name hN hi hx hf) fun v σ H Q ⟨fr, O, ρ, d, A, hd, q⟩ => ?_, fun _ _ => mono_ret _, fun _ _ _ q => ⟨_, q⟩⟩
  exact q _ _ ⟨fun b m => mem_set_none m, fun j n => List.getElem?_set_ne (fun e => n (by rw [e]; exact List.mem_singleton_self _)), fun j n => List.getElem?_set_ne (fun e => n (by rw [e]; exact List.mem_singleton_self _)), List.length_set⟩ (A.setVal i hd)
def gsNil : List PyData → Rho → Wp Rho := fun ds ρ => gd (ds = []) ρ
def gsCons (k : PyData → Rho → Wp Rho) (l : List PyData → Rho → Wp Rho) : List PyData → Rho → Wp Rho := fun ds ρ => match ds with
  | [] => bad
  | d :: ds => bnd (k d ρ) fun ρ' => l ds ρ'
theorem gs_nil : Gs X [] [] gsNil := by
  refine ⟨pgs_imp pgs_nil fun vs σ H Q ⟨fr, O, ρ, ds, A, hd, e, q⟩ => ?_, fun _ _ => mono_gd _, fun _ _ _ q => ⟨_, q.2⟩, fun ds ρ P q => ⟨by rw [q.1]; rfl, q⟩⟩
  subst e
  cases hd
  exact ⟨rfl, q σ O ⟨fun _ => id, fun _ _ => rfl, fun _ _ => rfl, rfl⟩ A⟩
theorem gs_cons {ws us : List Nat} {t : Expr} {ts : List Expr} {k : PyData → Rho → Wp Rho} {l : List PyData → Rho → Wp Rho} (h : G X ws t k) (r : Gs X us ts l) (hs : (assignEach (t :: ts) X.env).map (·.2) = assign t X.env :: (assignEach ts X.env).map (·.2) := by rfl) : Gs X (ws ++ us) (t :: ts) (gsCons k l) := by
  refine ⟨pgs_imp (pgs_cons h.pg r.pg hs) fun vs σ H Q ⟨fr, O, ρ, ds, A, hd, q⟩ => ?_, fun ds ρ => ?_, fun ds ρ P q => ?_, fun ds ρ P q => ?_⟩
  · cases hd with
    | nil => exact False.elim q
    | @cons v d vs ds h1 h2 =>
      refine ⟨v, vs, rfl, fr, O, ρ, d, A, h1, h.mo _ _ _ _ (fun ρ1 k1 σ1 O1 s1 A1 => ?_) q⟩
      exact ⟨fr, O1, ρ1, ds, A1, h2.less (fun p _ z => z.elim .inl fun m => .inr (s1.own p m)), r.mo _ _ _ _ (fun ρ2 k2 σ2 O2 s2 A2 => k2 σ2 O2 ⟨fun b m => s1.own b (s2.own b m), fun j n => (s2.oeq j fun m => n (List.mem_append_right _ m)).trans (s1.oeq j fun m => n (List.mem_append_left _ m)), fun j n => (s2.eq j fun m => n (List.mem_append_right _ m)).trans (s1.eq j fun m => n (List.mem_append_left _ m)), s2.len.trans s1.len⟩ A2) k1⟩
  · match ds with
    | [] => exact mono_bad
    | d :: ds => exact mono_bnd (m := k d ρ) (h.mo d ρ) fun _ => r.mo _ _
  · match ds, q with
    | [], q => exact False.elim q
    | d :: ds, q =>
      obtain ⟨ρ', hl⟩ := h.some _ _ _ q
      exact r.some _ _ _ hl
  · match ds, q with
    | [], q => exact False.elim q
    | d :: ds, q =>
      refine ⟨?_, q⟩
      obtain ⟨ρ', hl⟩ := h.some _ _ _ q
      exact congrArg (· + 1) (r.len ds ρ' _ hl).1
def gT (k : List PyData → Rho → Wp Rho) : PyData → Rho → Wp Rho := fun d ρ => match d with
  | .tuple ds => k ds ρ
  | _ => bad
theorem g_tup {ws : List Nat} {ts : List Expr} {n : Nat} {c} {p : Pos} {k : List PyData → Rho → Wp Rho} (hc : X.calm = true) (h : Gs X ws ts k) (hn : (assignEach ts X.env).length = n := by rfl) (hst : (assignEach ts X.env).findIdx? (·.1) = none := by rfl) (hl : ts.length = n := by rfl) : G X ws (.Tuple ts c p) (gT k) := by
  refine ⟨pg_imp (pg_tup hc h.pg hn hst) fun v σ H Q ⟨fr, O, ρ, d, A, hd, q⟩ => ?_, fun d ρ => ?_, fun d ρ P q => ?_⟩
  · cases d with
    | tuple ds =>
      cases hd with
      | tup a b => exact ⟨_, _, rfl, SqT.of a, by rw [b.length, (h.len _ _ _ q).1, hl], fr, O, ρ, ds, A, b, (h.len _ _ _ q).2⟩
    | none => exact False.elim q
    | bool _ => exact False.elim q
    | int _ => exact False.elim q
    | str _ => exact False.elim q
    | list _ => exact False.elim q
    | dict _ => exact False.elim q
  · unfold gT
    split
    · exact h.mo _ _
    · exact mono_bad
  · unfold gT at q
    split at q
    · exact h.some _ _ _ q
    · exact False.elim q
/-! ### blocks -/
def thenO (k : Rho → Wp Out) : Out → Wp Out
  | .nx ρ => k ρ
  | .rt d => ret (.rt d)
  | .bk ρ => ret (.bk ρ)
  | .ct ρ => ret (.ct ρ)
  | .ex n => ret (.ex n)
  | .rs d ρ => ret (.rs d ρ)
theorem mono_thenO {k : Rho → Wp Out} (h : ∀ ρ, Mono (k ρ)) : ∀ o, Mono (thenO k o)
  | .nx ρ => h ρ
  | .rt _ | .bk _ | .ct _ | .ex _ | .rs _ _ => mono_ret _
def sSeq (f k : Rho → Wp Out) : Rho → Wp Out := fun ρ => bnd (f ρ) (thenO k)
def sNil : Rho → Wp Out := fun ρ => ret (.nx ρ)
variable {st : Stmt} {sts : List Stmt} {l m : Rho → Wp Out}
theorem ss_nil : SS X [] sNil := ⟨fun Wx tkx => pss_imp pss_nil fun D σ H ⟨fr, O, ρ, A, q⟩ => q σ O H A, fun _ => mono_ret _⟩
theorem ss_cons (h : S X st l) (r : SS X sts m) : SS X (st :: sts) (sSeq l m) := by
  refine ⟨fun Wx tkx => pss_imp (pss_cons (h.ps Wx tkx) (r.ps Wx tkx)) fun D σ H ⟨fr, O, ρ, A, q⟩ => ?_, fun ρ => mono_bnd (h.mo ρ) (mono_thenO r.mo)⟩
  refine ⟨fr, O, ρ, A, h.mo ρ _ _ (fun o k => ?_) q⟩
  cases o with
  | nx ρ1 => exact fun σ1 O1 H1 A1 => ⟨fr, O1, ρ1, A1, k⟩
  | rt d => exact k
  | bk ρ1 => exact k
  | ct ρ1 => exact k
  | ex n => exact k
  | rs d ρ1 => exact k
theorem ss_one (h : S X st l) : SS X [st] l := ⟨fun Wx tkx => pss_imp (pss_one (h.ps Wx tkx)) fun _ _ _ q => q, h.mo⟩
/-! ### single ones -/
def sRet (f : Rho → Wp PyData) : Rho → Wp Out := fun ρ => bnd (f ρ) fun d => ret (.rt d)
theorem At.fin {fr : Fr} {O : List (Option Addr)} {σ : St} {ρ : Rho} {H : Hp} (A : At fr O σ ρ H) {v : V} {d : PyData} (h : TopD fr.U (Wd fr O) H v d) : Fin fr H v d := by
  refine ⟨A.keep, fun a c e => (A.pool a c e).1, ?_, A.st⟩
  have w : ∀ p, ¬ Wd fr O p → H p ≠ none → ¬ fr.U p := fun p n _ u => n (.inl u)
  cases h with
  | of h => exact h.to w (fun _ _ => id) fun _ _ _ => id
  | lst n a b => exact .lst n a (b.to w (fun _ _ => id) fun _ _ _ => id)
  | dic n a b => exact .dic n a (b.to w (fun _ _ => id) fun _ _ _ => id)
  | dit n a b => exact .dit n a (b.to w (fun _ _ => id) fun _ _ _ => id)
theorem s_ret (h : E X false e f) : S X (.Return (some e) pos) (sRet f) := by
  refine ⟨fun Wx tkx => ps_imp (ps_ret h.pe) fun D σ H ⟨fr, O, ρ, A, q⟩ => ?_, fun ρ => mono_bnd (h.mo ρ) fun _ => mono_ret _⟩
  exact ⟨fr, O, ρ, A, h.mo ρ _ _ (fun d k v H1 e1 g1 => k v H1 ((A.ex e1).fin g1)) q⟩
theorem s_retN : S X (.Return none pos) (fun _ => ret (.rt .none)) := ⟨fun Wx tkx => ps_imp ps_retN fun D σ H ⟨fr, O, ρ, A, q⟩ => q .non H (A.fin (.of .non)), fun _ => mono_ret _⟩
def sSet (k : PyData → Rho → Wp Rho) (f : Rho → Wp PyData) : Rho → Wp Out := fun ρ => bnd (f ρ) fun d => bnd (k d ρ) fun ρ' => ret (.nx ρ')
theorem s_asg {ws : List Nat} {tg : Expr} {k : PyData → Rho → Wp Rho} (h : E X true e f) (g : G X ws tg k) (hs : swapsWithSole [tg] e pos.line X.env = pure false := by rfl) (hw : swappedStores [tg] e X.env = pure none := by rfl) (h1 : (assignEach [tg] X.env).map (·.2) = [assign tg X.env] := by rfl) : S X (.Assign [tg] e pos) (sSet k f) := by
  refine ⟨fun Wx tkx => ps_imp (ps_asg h.pe g.pg hs hw h1) fun D σ H ⟨fr, O, ρ, A, q⟩ => ?_, fun ρ => mono_bnd (h.mo ρ) fun _ => mono_bnd (g.mo _ _) fun _ => mono_ret _⟩
  refine ⟨fr, O, ρ, A, h.mo ρ _ _ (fun d k v H1 e1 g1 => ?_) q⟩
  exact ⟨fr, O, ρ, d, A.ex e1, g1, g.mo _ _ _ _ (fun ρ1 k1 σ1 O1 _ A1 => k1 σ1 O1 H1 A1) k⟩
def sIf (c : Rho → Wp Bool) (f k : Rho → Wp Out) : Rho → Wp Out := fun ρ => bnd (c ρ) fun b => if b = true then f ρ else k ρ
theorem s_if {c : Expr} {a b : List Stmt} {t : Rho → Wp Bool} (hc : T X c t) (ha : SS X a l) (hb : SS X b m) : S X (.If c a b pos) (sIf t l m) := by
  refine ⟨fun Wx tkx => ps_imp (ps_if hc.pt (ha.ps Wx tkx) (hb.ps Wx tkx)) fun D σ H ⟨fr, O, ρ, A, q⟩ => ?_, fun ρ => mono_bnd (hc.mo ρ) fun _ => ite_mono (ha.mo ρ) (hb.mo ρ)⟩
  refine ⟨fr, O, ρ, A, hc.mo ρ _ _ (fun d k H1 e1 => ?_) q⟩
  cases d with
  | true => exact iteT ⟨fr, O, ρ, A.ex e1, k⟩
  | false => exact iteF ⟨fr, O, ρ, A.ex e1, k⟩
theorem s_pass : S X (.Pass pos) sNil := ⟨fun Wx tkx => ps_imp ps_pass fun D σ H ⟨fr, O, ρ, A, q⟩ => q σ O H A, fun _ => mono_ret _⟩
theorem s_break : S X (.Break pos) (fun ρ => ret (.bk ρ)) := ⟨fun Wx tkx => ps_imp ps_break fun D σ H ⟨fr, O, ρ, A, q⟩ => q σ O H A, fun _ => mono_ret _⟩
theorem s_continue : S X (.Continue pos) (fun ρ => ret (.ct ρ)) := ⟨fun Wx tkx => ps_imp ps_continue fun D σ H ⟨fr, O, ρ, A, q⟩ => q σ O H A, fun _ => mono_ret _⟩
def sExpr (f : Rho → Wp PyData) : Rho → Wp Out := fun ρ => bnd (f ρ) fun _ => ret (.nx ρ)
theorem s_expr (h : E X false e f) (hs : swapsWith e none pos.line X.env = pure false := by rfl) : S X (.Expr e pos) (sExpr f) := by
  refine ⟨fun Wx tkx => ps_imp (ps_expr h.pe hs) fun D σ H ⟨fr, O, ρ, A, q⟩ => ?_, fun ρ => mono_bnd (h.mo ρ) fun _ => mono_ret _⟩
  exact ⟨fr, O, ρ, A, h.mo ρ _ _ (fun d k v H1 e1 g1 => k σ O H1 (A.ex e1)) q⟩
end
end Lq
namespace Lq
open PySem L2
/-! ### loops -/
section
variable {fr : Fr} {O O' : List (Option Addr)} {σ σ' : St} {ρ ρ' : Rho} {H H1 H' : Hp}
/-- what stands through a loop's body -/
def Kept (fr : Fr) (O : List (Option Addr)) (H H' : Hp) : Prop := ∀ b o, ¬ (some b ∈ O ∨ ∃ c, fr.pl = some (b, c)) → H b = some o → H' b = some o
theorem At.kept (B : At (fr.shift O H1) O' σ' ρ' H') : Kept fr O H1 H' := fun b o n h => B.keep b o n h
theorem Fin.back (A : At fr O σ ρ H1) {v : V} {d : PyData} (F : Fin (fr.shift O H1) H' v d) : Fin fr H' v d where
  keep := fun b o n h => by
    refine F.keep b o (fun z => ?_) (A.keep b o n h)
    rcases z with z | ⟨c, z⟩
    · rcases (A.own b z).1.2 with y | y
      · exact n y
      · rw [h] at y; cases y
    · exact n (A.pool b c z).2.1
  pool := F.pool
  dat := F.dat
  st := fun b h => F.st b (A.st b h)
theorem FinE.back (A : At fr O σ ρ H1) (F : FinE (fr.shift O H1) H') : FinE fr H' where
  keep := fun b o n h => by
    refine F.keep b o (fun z => ?_) (A.keep b o n h)
    rcases z with z | ⟨c, z⟩
    · rcases (A.own b z).1.2 with y | y
      · exact n y
      · rw [h] at y; cases y
    · exact n (A.pool b c z).2.1
  pool := F.pool
  st := fun b h => F.st b (A.st b h)
/-- data that stood at the loop's start, at a turn -/
theorem At.datAt (A : At fr O σ ρ H1) (e : Kept fr O H1 H') {W : Addr → Prop} (hW : ∀ q, ¬ Wd fr O q → H1 q ≠ none → ¬ W q) {v : V} {d : PyData} (h : Dat (Wd fr O) H1 v d) : Dat W H' v d := by
  refine h.to hW (fun p vs h => e p _ (fun z => ?_) h) fun p o n h => e p o (fun z => n ?_) h
  · rcases z with m | ⟨c, z⟩
    · obtain ⟨_, _, o, y, z⟩ := A.own p m
      exact z vs (Option.some.inj (y.symm.trans h))
    · exact A.tupW z h rfl
  · rcases z with m | ⟨c, z⟩
    · exact .inr m
    · exact .inl (A.pool p c z).2.2
end
/-- a walk over data: b: also through the body of a loop -/
structure Its (b : Bool) (fr : Fr) (O : List (Option Addr)) (H1 : Hp) (J : It) (ds : List PyData) : Prop where
  ex : ∃ (Gd : Hp → Prop) (Y : Nat → Hp → V → Hp → Prop), Walk J ds.length Gd Y ∧ (∀ H2, (if b = true then Kept fr O H1 H2 else Ex fr.pl H1 H2) → Gd H2) ∧
    ∀ i Ha x Hb (W : Addr → Prop), i < ds.length → (if b = true then Kept fr O H1 Ha else Ex fr.pl H1 Ha) → (∀ q, ¬ Wd fr O q → H1 q ≠ none → ¬ W q) → Y i Ha x Hb → Same Ha Hb ∧ ∃ d, ds[i]? = some d ∧ Dat W Hb x d
def tiOf (b : Bool) (f : Rho → Wp (List PyData)) : TI := fun σ H R => ∃ fr O ρ, At fr O σ ρ H ∧ f ρ fun ds => ∀ J H', Ex fr.pl H H' → Its b fr O H' J ds → R J H'
structure I (X : Cx) (b : Bool) (tg iter : Expr) (f : Rho → Wp (List PyData)) : Prop where
  pi : PI X tg iter (tiOf b f)
  mo : ∀ ρ, Mono (f ρ)
section
variable {X : Cx} {tg iter : Expr} {f : Rho → Wp (List PyData)} {pos : Pos}
theorem pi_imp {t t' : TI} (h : PI X tg iter t) (i : ∀ σ H R, t' σ H R → t σ H R) : PI X tg iter t' := ⟨fun pins s σ H R I q => h.run pins s σ H R I (i σ H R q)⟩
def endLoop (k : Rho → Wp Out) : Out → Wp Out
  | .nx ρ => k ρ
  | .ct ρ => k ρ
  | .bk ρ => ret (.nx ρ)
  | .rt d => ret (.rt d)
  | .ex n => ret (.ex n)
  | .rs d ρ => ret (.rs d ρ)
theorem mono_endLoop {k : Rho → Wp Out} (h : ∀ ρ, Mono (k ρ)) : ∀ o, Mono (endLoop k o)
  | .nx ρ => h ρ
  | .ct ρ => h ρ
  | .bk _ => mono_ret _
  | .rt _ => mono_ret _
  | .ex _ => mono_ret _
  | .rs _ _ => mono_ret _
def wFor (k : PyData → Rho → Wp Rho) (b : Rho → Wp Out) : List PyData → Rho → Wp Out
  | [], ρ => ret (.nx ρ)
  | d :: ds, ρ => bnd (k d ρ) fun ρ1 => bnd (b ρ1) (endLoop (wFor k b ds))
theorem mono_wFor {k : PyData → Rho → Wp Rho} {b : Rho → Wp Out} (hk : ∀ d ρ, Mono (k d ρ)) (hb : ∀ ρ, Mono (b ρ)) : ∀ ds ρ, Mono (wFor k b ds ρ)
  | [], _ => mono_ret _
  | _ :: ds, _ => mono_bnd (hk _ _) fun _ => mono_bnd (hb _) (mono_endLoop (mono_wFor hk hb ds))
def sFor (fi : Rho → Wp (List PyData)) (k : PyData → Rho → Wp Rho) (b : Rho → Wp Out) : Rho → Wp Out := fun ρ => bnd (fi ρ) fun ds => wFor k b ds ρ
theorem s_for {ws : List Nat} {k : PyData → Rho → Wp Rho} {body : List Stmt} {b : Rho → Wp Out} (hp : PassesOwn (model X.prog X.w) X.A X.env X.xe) (hc : X.calm = true) (hi : I X true tg iter f) (hg : G X ws tg k) (hb : SS X body b)
    (hs : ∀ x, foldedSetIterable iter X.env x = pure x := by intro _; rfl) : S X (.For tg iter body [] pos) (sFor f k b) := by
  refine ⟨fun Wx tkx => ps_imp (ps_for hp hc hi.pi hg.pg (hb.ps Wx tkx) hs) fun D σ H ⟨fr, O, ρ, A, q⟩ => ?_, fun ρ => mono_bnd (hi.mo ρ) fun _ => mono_wFor hg.mo hb.mo _ _⟩
  refine ⟨fr, O, ρ, A, hi.mo ρ _ _ (fun ds q J H1 e1 it => ?_) q⟩
  have A1 := A.ex e1
  obtain ⟨Gd, Y, w, hG, hY⟩ := it.ex
  simp only [if_true] at hG hY
  refine for_it w (fun i σ' H' => ∃ O' ρ', At (fr.shift O H1) O' σ' ρ' H' ∧ wFor k b (ds.drop i) ρ' (endOf (X.mg, Wx) fr D)) ⟨O, ρ, A1.shift, q⟩ (fun i σ' H' _ p => ?_) (fun i x σ' H' Hb hi p y => ?_) (fun σ' H' p => ?_)
  · obtain ⟨O', ρ', B, _⟩ := p
    exact hG H' B.kept
  · obtain ⟨O', ρ', B, q⟩ := p
    have hW : ∀ q, ¬ Wd fr O q → H1 q ≠ none → ¬ Wd (fr.shift O H1) O' q := fun q n h z => by
      rcases z with z | z
      · exact n (.inl z)
      · rcases (B.own q z).1.2 with (m | ⟨c, m⟩) | m
        · exact n (.inr m)
        · exact n (.inl (A1.pool q c m).2.2)
        · exact h m
    obtain ⟨sm, d, hd, hx⟩ := hY i H' x Hb _ hi B.kept hW y
    have B1 := B.ex (B.same sm)
    have e : ds.drop i = d :: ds.drop (i + 1) := by
      obtain ⟨h1, h2⟩ := List.getElem?_eq_some_iff.mp hd
      rw [List.drop_eq_getElem_cons hi, h2]
    rw [e] at q
    refine ⟨_, O', ρ', d, B1, hx, hg.mo _ _ _ _ (fun ρ1 k1 σ1 O1 _ B2 => ?_) q⟩
    refine ⟨_, O1, ρ1, B2, hb.mo _ _ _ (fun o k2 => ?_) k1⟩
    cases o with
    | nx ρ2 => exact fun σ2 O2 H2 B3 => ⟨O2, ρ2, B3, k2⟩
    | ct ρ2 => exact fun σ2 O2 H2 B3 => ⟨O2, ρ2, B3, k2⟩
    | bk ρ2 => exact fun σ2 O2 H2 B3 => k2 σ2 O2 H2 (A1.back B3)
    | rt d => exact fun v H2 F => k2 v H2 (F.back A1)
    | ex n => exact fun C hC σ2 H2 F => k2 C hC σ2 H2 (F.back A1)
    | rs d ρ2 => exact fun v σ2 O2 H2 B3 g3 => k2 v σ2 O2 H2 (A1.back B3) g3
  · obtain ⟨O', ρ', B, q⟩ := p
    rw [List.drop_length] at q
    exact q σ' O' H' (A1.back B)
def wWhile (c : Rho → Wp Bool) (b : Rho → Wp Out) : Nat → Rho → Wp Out
  | 0, _ => bad
  | n + 1, ρ => bnd (c ρ) fun t => if t = true then bnd (b ρ) (endLoop (wWhile c b n)) else ret (.nx ρ)
theorem mono_wWhile {c : Rho → Wp Bool} {b : Rho → Wp Out} (hc : ∀ ρ, Mono (c ρ)) (hb : ∀ ρ, Mono (b ρ)) : ∀ n ρ, Mono (wWhile c b n ρ)
  | 0, _ => mono_bad
  | n + 1, _ => mono_bnd (hc _) fun _ => ite_mono (mono_bnd (hb _) (mono_endLoop (mono_wWhile hc hb n))) (mono_ret _)
def sWhile (c : Rho → Wp Bool) (b : Rho → Wp Out) : Rho → Wp Out := fun ρ Q => ∃ n, wWhile c b n ρ Q
theorem s_while {c : Expr} {t : Rho → Wp Bool} {body : List Stmt} {b : Rho → Wp Out} (hp : PassesOwn (model X.prog X.w) X.A X.env X.xe) (hc : T X c t) (hb : SS X body b) : S X (.While c body [] pos) (sWhile t b) := by
  refine ⟨fun Wx tkx => ps_imp (ps_while hp hc.pt (hb.ps Wx tkx)) fun D σ H ⟨fr, O, ρ, A, n, q⟩ => ?_, fun ρ P P' h ⟨n, q⟩ => ⟨n, mono_wWhile hc.mo hb.mo n ρ _ _ h q⟩⟩
  refine ⟨fun m σ' H' => ∃ O' ρ', At fr O' σ' ρ' H' ∧ wWhile t b m ρ' (endOf (X.mg, Wx) fr D), ⟨n, O, ρ, A, q⟩, ?_⟩
  rintro m σ' H' ⟨O', ρ', B, q⟩
  cases m with
  | zero => exact False.elim q
  | succ m =>
    refine ⟨fr, O', ρ', B, hc.mo _ _ _ (fun x k H1 e1 => ?_) q⟩
    have B1 := B.ex e1
    cases x with
    | true =>
      refine iteT ⟨fun σ2 H2 => ∃ O2 ρ2, At fr O2 σ2 ρ2 H2 ∧ wWhile t b m ρ2 (endOf (X.mg, Wx) fr D), fun σ2 H2 z => ⟨m, Nat.lt_succ_self m, z⟩, fr, O', ρ', B1, hb.mo _ _ _ (fun o k2 => ?_) k⟩
      cases o with
      | nx ρ2 => exact fun σ2 O2 H2 B3 => ⟨O2, ρ2, B3, k2⟩
      | ct ρ2 => exact fun σ2 O2 H2 B3 => ⟨O2, ρ2, B3, k2⟩
      | bk ρ2 => exact k2
      | rt d => exact k2
      | ex n => exact k2
      | rs d ρ2 => exact k2
    | false => exact iteF (k σ' O' H1 B1)
/-! ### what is walked -/
variable {e : Expr} {fe : Rho → Wp PyData}
def items : PyData → Wp (List PyData)
  | .tuple ds => ret ds
  | .list ds => ret ds
  | _ => bad
theorem mono_items (d : PyData) : Mono (items d) := by
  unfold items
  split <;> first | exact mono_ret _ | exact mono_bad
def iSeq (fe : Rho → Wp PyData) : Rho → Wp (List PyData) := fun ρ => bnd (fe ρ) items
def onlyTup : PyData → Wp (List PyData)
  | .tuple ds => ret ds
  | _ => bad
def onlyLst : PyData → Wp (List PyData)
  | .list ds => ret ds
  | _ => bad
theorem mono_onlyTup (d : PyData) : Mono (onlyTup d) := by
  unfold onlyTup
  split <;> first | exact mono_ret _ | exact mono_bad
theorem mono_onlyLst (d : PyData) : Mono (onlyLst d) := by
  unfold onlyLst
  split <;> first | exact mono_ret _ | exact mono_bad
theorem At.via {b : Bool} {fr : Fr} {O : List (Option Addr)} {σ : St} {ρ : Rho} {H H' : Hp} (A : At fr O σ ρ H) (k : if b = true then Kept fr O H H' else Ex fr.pl H H') :
    (∀ p vs, H p = some (.tup vs) → H' p = some (.tup vs)) ∧ (∀ p o, ¬ Wd fr O p → H p = some o → H' p = some o) := by
  have own : ∀ {p : Addr} {vs : List V}, some p ∈ O → H p ≠ some (.tup vs) := fun {p vs} m e => by
    obtain ⟨_, _, o, y, z⟩ := A.own p m
    exact z vs (Option.some.inj (y.symm.trans e))
  cases b with
  | true =>
    simp only [if_true] at k
    exact ⟨fun p vs h => k p _ (fun z => z.elim (fun m => own m h) fun ⟨c, z⟩ => A.tupW z h rfl) h, fun p o n h => k p o (fun z => n (z.elim .inr fun ⟨c, z⟩ => .inl (A.pool p c z).2.2)) h⟩
  | false =>
    have k : Ex fr.pl H H' := k
    exact ⟨fun p vs h => k.keep p _ (fun a c z => A.tupW z h) h, fun p o n h => k.keep p o (fun a c z y => n (.inl (by rw [y]; exact (A.pool a c z).2.2))) h⟩
theorem its_seq {b : Bool} {fr : Fr} {O : List (Option Addr)} {σ : St} {ρ : Rho} {H : Hp} {J : It} {vs : List V} {ds : List PyData} {Gd : Hp → Prop} (A : At fr O σ ρ H) (w : Walk J vs.length Gd (YAt vs)) (hG : ∀ H2, (if b = true then Kept fr O H H2 else Ex fr.pl H H2) → Gd H2) (h : Dats (Wd fr O) H vs ds) : Its b fr O H J ds := by
  refine ⟨Gd, YAt vs, h.length ▸ w, hG, fun i Ha x Hb W hi k hW y => ?_⟩
  obtain ⟨rfl, hv⟩ := y
  obtain ⟨d, hd, hx⟩ := h.getV hv
  obtain ⟨h1, h2⟩ := A.via k
  exact ⟨Same.refl _, d, hd, hx.to hW h1 h2⟩
theorem its_tup {b : Bool} {fr : Fr} {O : List (Option Addr)} {σ : St} {ρ : Rho} {H : Hp} {p : Addr} {vs : List V} {ds : List PyData} (A : At fr O σ ρ H) (h1 : H p = some (.tup vs)) (h2 : Dats (Wd fr O) H vs ds) : Its b fr O H (Itt X.K p) ds :=
  its_seq A walk_tup (fun H2 k => SqT.of ((A.via k).1 p vs h1)) h2
theorem its_lst {b : Bool} {fr : Fr} {O : List (Option Addr)} {σ : St} {ρ : Rho} {H : Hp} {p : Addr} {vs : List V} {ds : List PyData} (A : At fr O σ ρ H) (h1 : H p = some (.lst vs)) (h2 : Dats (Wd fr O) H vs ds) (hn : ¬ fr.U p) (hb : b = true → ¬ Wd fr O p) : Its b fr O H (Itl X.K p) ds := by
  refine its_seq A walk_list (fun H2 k => ?_) h2
  cases b with
  | true => exact SqL.of ((A.via k).2 p _ (hb rfl) h1)
  | false =>
    have k : Ex fr.pl H H2 := k
    exact SqL.of (k.keep p _ (fun a c z y => hn (by rw [y]; exact (A.pool a c z).2.2)) h1)
theorem Its.weak {fr : Fr} {O : List (Option Addr)} {σ : St} {ρ : Rho} {H : Hp} {J : It} {ds : List PyData} (A : At fr O σ ρ H) (h : Its true fr O H J ds) : Its false fr O H J ds := by
  obtain ⟨Gd, Y, w, hG, hY⟩ := h.ex
  have c : ∀ H2, (if false = true then Kept fr O H H2 else Ex fr.pl H H2) → Kept fr O H H2 := fun H2 k b o n h => (show Ex fr.pl H H2 from k).keep b o (fun a c z y => n (.inr ⟨c, by rw [y]; exact z⟩)) h
  exact ⟨Gd, Y, w, fun H2 k => hG H2 (c H2 k), fun i Ha x Hb W hi k => hY i Ha x Hb W hi (c Ha k)⟩
theorem I.weak (h : I X true tg iter f) : I X false tg iter f :=
  ⟨pi_imp h.pi fun σ H R ⟨fr, O, ρ, A, q⟩ => ⟨fr, O, ρ, A, h.mo ρ _ _ (fun ds k J H1 e1 it => k J H1 e1 (it.weak (A.ex e1))) q⟩, h.mo⟩
/-- a list or a tuple, whichever it is -/
def tiSeq (K : PySem.W.Frag) (tl : TE) : TI := fun σ H R => tl σ H fun x H1 => ∃ a, x = .ref a ∧ ((∃ xs, SqL K H1 a xs ∧ R (Itl K a) H1) ∨ ∃ xs, SqT K H1 a xs ∧ R (Itt K a) H1)
theorem pi_seq {l : Expr} {tl : TE} (hl : PE X l tl) : PI X tg l (tiSeq X.K tl) := by
  refine ⟨fun pins s σ H R i h => thn (hl.run pins s σ H _ i h) fun v s1 ⟨x, H1, I1, r1, a, ex, q⟩ => ?_⟩
  subst ex
  cases r1
  have fp : ∀ b ∈ [s1.heap.objs.size], FpOk X pins H1 b := fun b hb => by
    rw [List.mem_singleton.mp hb]
    exact I1.fpOk (Nat.le_refl _) (I1.hok.fresh (Nat.le_refl _))
  rcases q with ⟨xs, hq, q⟩ | ⟨xs, hq, q⟩
  · obtain ⟨its, rv, p, hz⟩ := I1.list hq
    exact wpAny_pyIter_list p.isList ⟨_, _, _, _, H1, rfl, I1.kept (t' := s1.toks) fun _ _ => Heap.get?_push_of_some _, turn_list a _, ⟨_, Heap.get?_push_size _ rfl, rfl, rfl⟩, fp, q⟩
  · obtain ⟨its, rv, p, hz⟩ := I1.tuple hq
    exact wpAny_pyIter_tuple (show s1.heap.IsTuple a its.toArray from p) ⟨_, _, _, _, H1, rfl, I1.kept (t' := s1.toks) fun _ _ => Heap.get?_push_of_some _, turn_tuple a _, ⟨_, Heap.get?_push_size _ rfl, rfl, rfl⟩, fp, q⟩
theorem mono_iSeq (h : ∀ ρ, Mono (fe ρ)) (ρ : Rho) : Mono (iSeq fe ρ) := mono_bnd (h ρ) mono_items
theorem i_seq (h : E X true e fe) : I X true tg e (iSeq fe) := by
  refine ⟨pi_imp (pi_seq h.pe) fun σ H R ⟨fr, O, ρ, A, q⟩ => ?_, mono_iSeq h.mo⟩
  refine ⟨fr, O, ρ, A, h.mo ρ _ _ (fun d k v H1 e1 g1 => ?_) q⟩
  have A1 := A.ex e1
  have g1 : Dat (Wd fr O) H1 v d := g1
  cases g1 with
  | tup a b => exact ⟨_, rfl, .inr ⟨_, SqT.of a, k _ H1 e1 (its_tup A1 a b)⟩⟩
  | lst n a b => exact ⟨_, rfl, .inl ⟨_, SqL.of a, k _ H1 e1 (its_lst A1 a b (fun u => n (.inl u)) fun _ => n)⟩⟩
  | non => exact False.elim k
  | bl _ => exact False.elim k
  | int _ => exact False.elim k
  | str _ => exact False.elim k
  | dic _ _ _ => exact False.elim k
  | dit _ _ _ => exact False.elim k
theorem i_seqO (h : E X false e fe) : I X false tg e (iSeq fe) := by
  refine ⟨pi_imp (pi_seq h.pe) fun σ H R ⟨fr, O, ρ, A, q⟩ => ?_, mono_iSeq h.mo⟩
  refine ⟨fr, O, ρ, A, h.mo ρ _ _ (fun d k v H1 e1 g1 => ?_) q⟩
  have A1 := A.ex e1
  have g1 : TopD fr.U (Wd fr O) H1 v d := g1
  cases d with
  | tuple ds =>
    obtain ⟨p, vs, rfl, a, b⟩ := g1.tup
    exact ⟨_, rfl, .inr ⟨_, SqT.of a, k _ H1 e1 (its_tup A1 a b)⟩⟩
  | list ds =>
    cases g1 with
    | of g1 => cases g1 with | lst n a b => exact ⟨_, rfl, .inl ⟨_, SqL.of a, k _ H1 e1 (its_lst A1 a b (fun u => n (.inl u)) fun z => by cases z)⟩⟩
    | lst n a b => exact ⟨_, rfl, .inl ⟨_, SqL.of a, k _ H1 e1 (its_lst A1 a b n fun z => by cases z)⟩⟩
  | none => exact False.elim k
  | bool _ => exact False.elim k
  | int _ => exact False.elim k
  | str _ => exact False.elim k
  | dict _ => exact False.elim k
/-- range(..) -/
def upto (lo : Int) (n : Nat) : List PyData := (List.range n).map fun (i : Nat) => PyData.int (lo + i)
theorem its_range {b : Bool} {fr : Fr} {O : List (Option Addr)} {H : Hp} {lo : Int} {n : Nat} : Its b fr O H (Itr lo n) (upto lo n) := by
  have hl : (upto lo n).length = n := by simp [upto]
  refine ⟨fun _ => True, YFn fun i => .int (lo + i), hl.symm ▸ walk_range, fun _ _ => trivial, fun i Ha x Hb W hi k hW y => ?_⟩
  obtain ⟨rfl, rfl⟩ := y
  exact ⟨Same.refl _, .int (lo + i), by rw [hl] at hi; simp [upto, hi], .int _⟩
def rng1 : List PyData → Wp (List PyData)
  | [.int j] => gd (-(2 ^ 62) ≤ j ∧ j < 2 ^ 62) (upto 0 j.toNat)
  | _ => bad
def rng2 : List PyData → Wp (List PyData)
  | [.int i, .int j] => gd (-(2 ^ 62) ≤ i ∧ i < 2 ^ 62 ∧ -(2 ^ 62) ≤ j ∧ j < 2 ^ 62) (upto i (j - i).toNat)
  | _ => bad
theorem mono_rng1 (ds : List PyData) : Mono (rng1 ds) := by
  unfold rng1
  split <;> first | exact mono_gd _ | exact mono_bad
theorem mono_rng2 (ds : List PyData) : Mono (rng2 ds) := by
  unfold rng2
  split <;> first | exact mono_gd _ | exact mono_bad
def iCall (o : List PyData → Wp (List PyData)) (k : Rho → Wp (List PyData)) : Rho → Wp (List PyData) := fun ρ => bnd (k ρ) o
theorem i_range1 {b : Bool} {a : Expr} {ka : Rho → Wp (List PyData)} {p : Pos} (hm : X.mg "range" = none) (ha : A X true [a] ka) (hg : Gl X "range" := by rfl) (hs : starEach [a] X.env = [(false, eval a X.env)] := by rfl) : I X b tg (.Call (.Name "range" p) [a] [] pos) (iCall rng1 ka) := by
  refine ⟨pi_imp (pi_range1 hg hm ha.pa hs) fun σ H R ⟨fr, O, ρ, A, q⟩ => ?_, fun ρ => mono_bnd (ha.mo ρ) mono_rng1⟩
  refine ⟨fr, O, ρ, A, ha.mo ρ _ _ (fun ds k vs H1 e1 g1 => ?_) q⟩
  unfold rng1 at k
  split at k
  · cases g1 with
    | cons h r =>
      cases r
      cases (show Dat _ _ _ _ from h)
      exact ⟨_, rfl, k.1.1, k.1.2, k.2 _ H1 e1 its_range⟩
  · exact False.elim k
theorem i_range2 {b : Bool} {a c : Expr} {ka : Rho → Wp (List PyData)} {p : Pos} (hm : X.mg "range" = none) (ha : A X true [a, c] ka) (hg : Gl X "range" := by rfl) (hs : starEach [a, c] X.env = [(false, eval a X.env), (false, eval c X.env)] := by rfl) (hs2 : starEach [c] X.env = [(false, eval c X.env)] := by rfl) : I X b tg (.Call (.Name "range" p) [a, c] [] pos) (iCall rng2 ka) := by
  refine ⟨pi_imp (pi_range2 hg hm ha.pa hs hs2) fun σ H R ⟨fr, O, ρ, A, q⟩ => ?_, fun ρ => mono_bnd (ha.mo ρ) mono_rng2⟩
  refine ⟨fr, O, ρ, A, ha.mo ρ _ _ (fun ds k vs H1 e1 g1 => ?_) q⟩
  unfold rng2 at k
  split at k
  · cases g1 with
    | cons h r =>
      cases r with
      | cons h2 r =>
        cases r
        cases (show Dat _ _ _ _ from h)
        cases (show Dat _ _ _ _ from h2)
        exact ⟨_, _, rfl, k.1, k.2 _ H1 e1 its_range⟩
  · exact False.elim k
end
end Lq
namespace Lq
open PySem L2
/-! ### new lists; comprehensions -/
def teF (f : Rho → Wp (List PyData)) : TE := fun σ H Q => ∃ fr O ρ, At fr O σ ρ H ∧ f ρ fun ds => ∀ p vs H', H p = none → Ex fr.pl H H' → H' p = some (.lst vs) → Dats (fun b => Wd fr O b ∨ b = p) H' vs ds → Q (.ref p) H'
/-- an expression that gives a new list -/
structure EF (X : Cx) (e : Expr) (f : Rho → Wp (List PyData)) : Prop where
  pe : PE X e (teF f)
  mo : ∀ ρ, Mono (f ρ)
def eL (f : Rho → Wp (List PyData)) : Rho → Wp PyData := fun ρ => bnd (f ρ) fun ds => ret (.list ds)
section
variable {X : Cx} {e : Expr} {f : Rho → Wp (List PyData)}
theorem tef_of (mo : ∀ ρ, Mono (f ρ)) {σ : St} {H : Hp} {Q : VK} (q : teOf true (eL f) σ H Q) : teF f σ H Q := by
  obtain ⟨fr, O, ρ, A, q⟩ := q
  refine ⟨fr, O, ρ, A, mo ρ _ _ (fun ds k p vs H1 n e1 h1 h2 => k _ H1 e1 ?_) q⟩
  exact Dat.lst (fun w => A.wd w n) h1 (h2.less fun p _ w => .inl w)
theorem EF.toE {g : Bool} (h : EF X e f) : E X g e (eL f) := E.tr ⟨pe_imp h.pe fun σ H Q q => tef_of h.mo q, fun ρ => mono_bnd (h.mo ρ) fun _ => mono_ret _⟩
def lLst (k : Rho → Wp (List PyData)) : Rho → Wp (List PyData) := fun ρ => bnd (k ρ) fun ds => gd (ds.length ≤ sizeLine) ds
theorem f_lst {es : List Expr} {pos : Pos} {k : Rho → Wp (List PyData)} (h : A X true es k) : EF X (.List es pos) (lLst k) := by
  refine ⟨pe_imp (pe_lst h.pa) fun σ H Q ⟨fr, O, ρ, A, q⟩ => ?_, fun ρ => mono_bnd (h.mo ρ) fun _ => mono_gd _⟩
  refine ⟨fr, O, ρ, A, h.mo ρ _ _ (fun ds k1 vs H1 e1 g1 => ?_) q⟩
  have A1 := A.ex e1
  refine ⟨by rw [g1.dats.length]; exact k1.1, fun p hp => k1.2 p vs _ ?_ (e1.trans (Ex.new A1 hp)) upd_same ?_⟩
  · cases z : H p with
    | none => rfl
    | some o => exact absurd hp (e1.there p (by rw [z]; exact Option.some_ne_none _))
  · exact g1.dats.to (fun q n h z => z.elim n fun e => h (by rw [e]; exact hp)) (fun q vs h => by rw [upd_ne (ne_of_none h hp)]; exact h) fun q o _ h => by rw [upd_ne (ne_of_none h hp)]; exact h
end
/-! the slots of a block -/
def wipeR : Rho → List Nat → Rho
  | ρ, [] => ρ
  | ρ, v :: vs => (wipeR ρ vs).set v .un
def isOwn : Option Sl → Bool
  | some (.lst _) => true
  | some (.dic _) => true
  | some (.dit _) => true
  | some (.gh _ _) => true
  | _ => false
def noOwn (ρ : Rho) (vs : List Nat) : Bool := vs.all fun i => !isOwn ρ[i]?
theorem wipe_get (σ : St) (i : Nat) : ∀ vs : List Nat, (wipe σ vs)[i]? = if i ∈ vs then (if i < σ.length then some none else none) else σ[i]?
  | [] => by simp [wipe]
  | v :: vs => by
    unfold wipe
    rw [List.getElem?_set]
    by_cases e : v = i
    · subst e
      rw [if_pos rfl, if_pos List.mem_cons_self, wipe_length]
    · rw [if_neg e, wipe_get σ i vs]
      have h : (i ∈ v :: vs) ↔ i ∈ vs := by simp [Ne.symm e]
      simp only [h]
theorem wipe_agree {ws vs : List Nat} {O O' : List (Option Addr)} {σ σ' : St} (a : Agree ws O O' (wipe σ vs) σ') (h : ∀ w ∈ ws, w ∈ vs) : wipe σ' vs = wipe σ vs := by
  have l := a.len
  rw [wipe_length] at l
  refine List.ext_getElem? fun i => ?_
  rw [wipe_get, wipe_get, l]
  by_cases m : i ∈ vs
  · rw [if_pos m, if_pos m]
  · rw [if_neg m, if_neg m, a.eq i (fun w => m (h i w)), wipe_get, if_neg m]
theorem slot_none {W : Addr → Prop} {pl : Pl} {H : Hp} {o : Option Addr} {x : Option V} {s : Sl} (h : SlotAt W pl H o x s) (n : isOwn (some s) = false) : o = none := by
  cases h <;> first | rfl | cases n
theorem Slots.wipe {W : Addr → Prop} {pl : Pl} {H : Hp} {O : List (Option Addr)} {σ : St} {ρ : Rho} (h : Slots W pl H O σ ρ) : ∀ vs : List Nat, noOwn ρ vs = true → Slots W pl H O (L2.wipe σ vs) (wipeR ρ vs)
  | [], _ => h
  | v :: vs, n => by
    obtain ⟨n1, n2⟩ := Bool.and_eq_true_iff.mp (show (!isOwn ρ[v]? && noOwn ρ vs) = true from n)
    have r := (Slots.wipe h vs n2).set (.un none) v
    have e : O.set v none = O := by
      refine List.ext_getElem? fun i => ?_
      rw [List.getElem?_set]
      split
      · subst v
        split
        · rename_i hl
          have hl' : i < ρ.length := by rw [← h.len.1]; exact hl
          obtain ⟨o, x, h1, h2, h3⟩ := h.get (List.getElem?_eq_getElem hl')
          rw [List.getElem?_eq_getElem hl'] at n1
          rw [h1, slot_none h3 (by simpa using n1)]
        · rename_i hl
          rw [List.getElem?_eq_none (by omega)]
      · rfl
    rw [e] at r
    exact r
theorem own_out {W : Addr → Prop} {pl : Pl} {H : Hp} {O : List (Option Addr)} {σ : St} {ρ : Rho} {vs : List Nat} (h : Slots W pl H O σ ρ) (n : noOwn ρ vs = true) {j : Nat} {p : Addr} (e : O[j]? = some (some p)) : j ∉ vs := fun m => by
  have n1 := List.all_eq_true.mp n j m
  have hl : j < ρ.length := by rw [← h.len.1]; exact (List.getElem?_eq_some_iff.mp e).1
  obtain ⟨o, x, h1, h2, h3⟩ := h.get (List.getElem?_eq_getElem hl)
  rw [List.getElem?_eq_getElem hl] at n1
  rw [e] at h1
  rw [slot_none h3 (by simpa using n1)] at h1
  cases h1
theorem Tied.wipe {g : List (Nat × Addr)} {O : List (Option Addr)} {σ : St} {ρ : Rho} (t : Tied g O σ ρ) : ∀ vs : List Nat, Tied g O (L2.wipe σ vs) (wipeR ρ vs)
  | [] => t
  | v :: vs => by
    have t' := (t.wipe vs)
    refine ⟨fun k j hk hj => ?_, fun j p m hj => ?_⟩
    · obtain ⟨n1, k1⟩ := set_ptr (s := .un) rfl hk
      obtain ⟨p, h1, h2⟩ := t'.ptr k j k1 (set_isG (s := .un) rfl hj).2
      exact ⟨p, h1, by show (List.set _ v none)[k]? = _; rw [List.getElem?_set_ne n1.symm]; exact h2⟩
    · exact (t'.put v (s := .un) rfl).pin j p m hj
structure TTs (X : Cx) (ifs : List Expr) (t : Rho → Wp Bool) : Prop where
  pt : PTs X ifs (ttOf t)
  mo : ∀ ρ, Mono (t ρ)
def tAll : Rho → Wp Bool := fun _ => ret true
theorem ts_nil {X : Cx} : TTs X [] tAll := ⟨⟨fun pins s σ H Q I ⟨fr, O, ρ, A, q⟩ => pts_nil.run pins s σ H Q I (q H A.refl)⟩, fun _ => mono_ret _⟩
theorem ts_one {X : Cx} {c : Expr} {t : Rho → Wp Bool} (h : T X c t) : TTs X [c] t := ⟨pts_one h.pt, h.mo⟩
def wLc (k : PyData → Rho → Wp Rho) (t : Rho → Wp Bool) (f : Rho → Wp PyData) : List PyData → Rho → Wp (List PyData)
  | [], _ => ret []
  | d :: ds, ρ => bnd (k d ρ) fun ρ1 => bnd (t ρ1) fun b => if b = true then bnd (f ρ1) fun y => bnd (wLc k t f ds ρ) fun ys => ret (y :: ys) else wLc k t f ds ρ
theorem mono_wLc {k : PyData → Rho → Wp Rho} {t : Rho → Wp Bool} {f : Rho → Wp PyData} (hk : ∀ d ρ, Mono (k d ρ)) (ht : ∀ ρ, Mono (t ρ)) (hf : ∀ ρ, Mono (f ρ)) : ∀ ds ρ, Mono (wLc k t f ds ρ)
  | [], _ => mono_ret _
  | _ :: ds, _ => mono_bnd (hk _ _) fun _ => mono_bnd (ht _) fun _ => ite_mono (mono_bnd (hf _) fun _ => mono_bnd (mono_wLc hk ht hf ds _) fun _ => mono_ret _) (mono_wLc hk ht hf ds _)
/-- [f for k in fi if t], vs: the block's own slots -/
def fLc (fi : Rho → Wp (List PyData)) (k : PyData → Rho → Wp Rho) (t : Rho → Wp Bool) (f : Rho → Wp PyData) (vs : List Nat) : Rho → Wp (List PyData) :=
  fun ρ => bnd (fi ρ) fun ds Q => (ds.length ≤ sizeLine ∧ noOwn ρ vs = true) ∧ wLc k t f ds (wipeR ρ vs) Q
theorem pool_up {H : Hp} {a c D : Addr} {o : HO} (h : Cf.PoolAt H a c) (h1 : D ≠ a) (h2 : D ≠ c) : Cf.PoolAt (upd H D o) a c := by
  obtain ⟨ns, i, v, k, s, e1, e2, e3, e4⟩ := h
  exact ⟨ns, i, v, k, s, by rw [upd_ne h1.symm]; exact e1, by rw [upd_ne h2.symm]; exact e2, e3, e4⟩
theorem pool_two {H : Hp} {a c : Addr} (h : Cf.PoolAt H a c) : H a ≠ none ∧ H c ≠ none := by
  obtain ⟨ns, i, v, k, s, e1, e2, e3, e4⟩ := h
  exact ⟨by rw [e1]; exact Option.some_ne_none _, by rw [e2]; exact Option.some_ne_none _⟩
theorem lc_imp {fi : Rho → Wp (List PyData)} {k : PyData → Rho → Wp Rho} {t : Rho → Wp Bool} {f : Rho → Wp PyData} {vs ws : List Nat} (mi : ∀ ρ, Mono (fi ρ)) (mk : ∀ d ρ, Mono (k d ρ)) (mt : ∀ ρ, Mono (t ρ)) (mf : ∀ ρ, Mono (f ρ)) (hws : ∀ w ∈ ws, w ∈ vs) {σ : St} {H : Hp} {Q : VK}
    (q : teF (fLc fi k t f vs) σ H Q) : tLc (tiOf false fi) (tgOf ws k) (ttOf t) (teOf true f) vs σ H Q := by
  obtain ⟨fr, O, ρ, A, q⟩ := q
  refine ⟨fr, O, ρ, A, mi ρ _ _ (fun ds q J H1 e1 it => ?_) q⟩
  have A1 := A.ex e1
  obtain ⟨⟨hz, hno⟩, q⟩ := q
  intro D nD
  obtain ⟨Gd, Y, w, hG, hY⟩ := it.ex
  have nD0 : H D = none := by
    cases z : H D with
    | none => rfl
    | some o => exact absurd nD (e1.there D (by rw [z]; exact Option.some_ne_none _))
  have Dpool : ∀ a c, fr.pl = some (a, c) → D ≠ a ∧ D ≠ c := fun a c e => by
    obtain ⟨h1, h2⟩ := pool_two (A1.pool a c e).1
    exact ⟨fun z => h1 (by rw [← z]; exact nD), fun z => h2 (by rw [← z]; exact nD)⟩
  refine lc_it w (fun i H' => ∃ acc ys, H' D = some (.lst acc) ∧ acc.length ≤ i ∧ Dats (fun b => Wd fr O b ∨ b = D) H' acc ys ∧ Ex fr.pl H1 H' ∧
      wLc k t f (ds.drop i) (wipeR ρ vs) fun zs => ∀ p us H', H p = none → Ex fr.pl H H' → H' p = some (.lst us) → Dats (fun b => Wd fr O b ∨ b = p) H' us (ys ++ zs) → Q (.ref p) H')
    ⟨[], [], upd_same, Nat.le_refl _, .nil, Ex.new A1 nD, q⟩ (fun i H' _ p => ?_) (fun i x H' Hb hi p y => ?_) (fun H' p => ?_)
  · obtain ⟨acc, ys, p1, p2, p3, p4, p5⟩ := p
    exact hG H' p4
  · obtain ⟨acc, ys, p1, p2, p3, p4, p5⟩ := p
    let fr2 : Fr := ⟨fun b => fr.U b ∨ b = D, fun b => some b ∈ O ∨ ∃ c, fr.pl = some (b, c), fr.pl, Hb, fr.gh⟩
    have hW : ∀ q, ¬ Wd fr O q → H1 q ≠ none → ¬ Wd fr2 O q := fun q n h z => by
      rcases z with (z | z) | z
      · exact n (.inl z)
      · exact h (by rw [z]; exact nD)
      · exact n (.inr z)
    obtain ⟨sm, d, hd, hx⟩ := hY i H' x Hb (Wd fr2 O) hi p4 hW y
    have A2 := A1.ex p4
    have A3 := A2.ex (A2.same sm)
    have pb : Hb D = some (.lst acc) := sm _ _ p1
    have e14 : Ex fr.pl H1 Hb := p4.trans (A2.same sm)
    obtain ⟨v1, v2⟩ := A1.via (b := false) (H' := Hb) e14
    have B : At fr2 O (L2.wipe σ vs) (wipeR ρ vs) Hb := by
      refine ⟨Slots.wipe (A1.sl.to hW v1 v2 fun p o m h => e14.keep p o (fun a c z => ((A1.own p m).2.1 a c z).1) h) vs hno, fun _ _ _ h => h, fun a c e => ⟨e14.pool a c e, .inr ⟨c, e⟩, .inl (A1.pool a c e).2.2⟩, fun p m => ?_, A1.nd, fun b u => ?_, fun _ h => h, A1.gh.wipe vs⟩
      · refine ⟨⟨fun u => u.elim (A1.own p m).1.1 fun e => ?_, .inl (.inl m)⟩, (A3.own p m).2⟩
        exact A1.wd (.inr m) (by rw [e]; exact nD)
      · rcases u with u | u
        · exact e14.there b (A1.wd (.inl u))
        · show Hb b ≠ none
          rw [u, pb]; exact Option.some_ne_none _
    have e : ds.drop i = d :: ds.drop (i + 1) := by
      obtain ⟨h1, h2⟩ := List.getElem?_eq_some_iff.mp hd
      rw [List.drop_eq_getElem_cons hi, h2]
    rw [e] at p5
    refine ⟨fr2, O, _, d, B, hx, mk _ _ _ _ (fun ρ1 k1 σ1 O1 ag B1 => ?_) p5⟩
    refine ⟨wipe_agree ag hws, fr2, O1, ρ1, B1, mt _ _ _ (fun b k2 H3 e3 => ?_) k1⟩
    have B2 := B1.ex e3
    have kD : ∀ {Ha Hb' : Hp}, Ex fr.pl Ha Hb' → Ha D = some (.lst acc) → Hb' D = some (.lst acc) := fun ex h => ex.keep D _ (fun a c z => (Dpool a c z).1) h
    have WD : ∀ a c, fr.pl = some (a, c) → (Wd fr O a ∨ a = D) := fun a c z => .inl (.inl (A1.pool a c z).2.2)
    have q3 : H3 D = some (.lst acc) := kD e3 pb
    have d3 : Dats (fun b => Wd fr O b ∨ b = D) H3 acc ys := Dats.ex e3 (fun a c z => ⟨WD a c z, e14.pool a c z⟩) (p3.same sm)
    have e13 : Ex fr.pl H1 H3 := e14.trans e3
    have hlt : acc.length < sizeLine := by omega
    cases b with
    | true =>
      have k2 : bnd (f ρ1) _ _ := k2
      refine iteT ⟨fr2, O1, ρ1, B2, mf _ _ _ (fun yd k3 v H4 e4 g4 => ?_) k2⟩
      have q4 : H4 D = some (.lst acc) := kD e4 q3
      have d4 : Dats (fun b => Wd fr O b ∨ b = D) H4 acc ys := Dats.ex e4 (fun a c z => ⟨WD a c z, e13.pool a c z⟩) d3
      have e14' : Ex fr.pl H1 H4 := e13.trans e4
      have dv : Dat (fun b => Wd fr O b ∨ b = D) H4 v yd := (show Dat (Wd fr2 O1) H4 v yd from g4).to (fun q n _ z => by
        rcases z with (z | z) | z
        · exact n (.inl (.inl z))
        · obtain ⟨j, hj⟩ := List.mem_iff_getElem?.mp z
          have m := own_out A1.sl hno hj
          exact n (.inr (List.mem_of_getElem? ((ag.oeq j fun w => m (hws j w)).trans hj)))
        · exact n (.inl (.inr z))) (fun _ _ => id) fun _ _ _ => id
      have move : ∀ {us : List V} {zs : List PyData} {o : HO}, Dats (fun b => Wd fr O b ∨ b = D) H4 us zs → Dats (fun b => Wd fr O b ∨ b = D) (upd H4 D o) us zs := fun h =>
        h.to (fun _ n _ => n) (fun q vs h => by rw [upd_ne (ne_of h q4 (by intro z; cases z))]; exact h) fun q o n h => by rw [upd_ne (fun z => n (.inr z))]; exact h
      refine ⟨acc, q4, hlt, acc ++ [v], ys ++ [yd], upd_same, by rw [List.length_append]; exact Nat.succ_le_succ p2, move (d4.snoc dv), ?_, ?_⟩
      · refine ⟨fun b o n h => ?_, fun a c z => pool_up (e14'.pool a c z) (Dpool a c z).1 (Dpool a c z).2, fun b h => ?_⟩
        · rw [upd_ne (ne_of_none h nD)]; exact e14'.keep b o n h
        · by_cases z : b = D
          · rw [z, upd_same]; exact Option.some_ne_none _
          · rw [upd_ne z]; exact e14'.there b h
      · refine mono_wLc mk mt mf _ _ _ _ (fun zs h => ?_) k3
        rw [List.append_assoc]
        exact h
    | false =>
      have k2 : wLc k t f (ds.drop (i + 1)) (wipeR ρ vs) _ := k2
      exact iteF ⟨acc, ys, q3, by omega, d3, e13, k2⟩
  · obtain ⟨acc, ys, p1, p2, p3, p4, p5⟩ := p
    rw [List.drop_length] at p5
    have p5 := (show ∀ p us H', _ from p5) D acc H' nD0 (e1.trans p4) p1
    rw [List.append_nil] at p5
    exact p5 p3
section
variable {X : Cx} {elt tg iter : Expr} {ifs : List Expr} {scope : Scope} {own : List (Str × Nat)} {pos : Pos} {fi : Rho → Wp (List PyData)} {k : PyData → Rho → Wp Rho} {t : Rho → Wp Bool} {f : Rho → Wp PyData} {ws : List Nat}
theorem mono_fLc {vs : List Nat} (mi : ∀ ρ, Mono (fi ρ)) (mk : ∀ d ρ, Mono (k d ρ)) (mt : ∀ ρ, Mono (t ρ)) (mf : ∀ ρ, Mono (f ρ)) (ρ : Rho) : Mono (fLc fi k t f vs ρ) := mono_bnd (mi ρ) fun _ _ _ h q => ⟨q.1, mono_wLc mk mt mf _ _ _ _ h q.2⟩
theorem f_lc (hc : X.calm = true) (hN : X.N.Nodup) (hi : I X false tg iter fi) (ok : BlkOk X.N X.env.scope scope own) (hg : ∀ (s : Shared) (H : Hp) (C : Addr) (cl : List (Str × Addr)) (fp : List Addr), G (X.blk s H scope (compEnvC scope cl C X.env) fp) ws tg k)
    (ht : ∀ (s : Shared) (H : Hp) (C : Addr) (cl : List (Str × Addr)) (fp : List Addr), TTs (X.blk s H scope (compEnvC scope cl C X.env) fp) ifs t) (he : ∀ (s : Shared) (H : Hp) (C : Addr) (cl : List (Str × Addr)) (fp : List Addr), E (X.blk s H scope (compEnvC scope cl C X.env) fp) true elt f)
    (hws : ∀ w ∈ ws, w ∈ own.map (·.2) := by decide) (hs : ∀ x, foldedSetIterable iter X.env x = pure x := by intro _; rfl) : EF X (.ListComp elt [⟨tg, iter, ifs, 0⟩] scope pos) (fLc fi k t f (own.map (·.2))) := by
  have mk := (hg X.s_0 X.H_0 0 [] []).mo
  have mt := (ht X.s_0 X.H_0 0 [] []).mo
  have mf := (he X.s_0 X.H_0 0 [] []).mo
  exact ⟨pe_imp (pe_lc hc hN hi.pi ok (fun s H C cl fp => (hg s H C cl fp).pg) (fun s H C cl fp => (ht s H C cl fp).pt) (fun s H C cl fp => (he s H C cl fp).pe) hs) fun σ H Q q => lc_imp hi.mo mk mt mf hws q, mono_fLc hi.mo mk mt mf⟩
/-- name = [..] on one line, as data -/
theorem s_setLc {i : Nat} {y : Str} {py spos : Pos} (hc : X.calm = true) (hN : X.N.Nodup) (hi : I X false tg iter fi) (ok : BlkOk X.N X.env.scope scope own) (hg : ∀ (s : Shared) (H : Hp) (C : Addr) (cl : List (Str × Addr)) (fp : List Addr), G (X.blk s H scope (compEnvC scope cl C X.env) fp) ws tg k)
    (ht : ∀ (s : Shared) (H : Hp) (C : Addr) (cl : List (Str × Addr)) (fp : List Addr), TTs (X.blk s H scope (compEnvC scope cl C X.env) fp) ifs t) (he : ∀ (s : Shared) (H : Hp) (C : Addr) (cl : List (Str × Addr)) (fp : List Addr), E (X.blk s H scope (compEnvC scope cl C X.env) fp) true elt f)
    (hy : X.N[i]? = some y := by rfl) (hyl : X.env.scope.names.lookup y = some .local := by rfl) (hsw : swapsWith (.ListComp elt [⟨tg, iter, ifs, 0⟩] scope pos) (some (.Name y py)) spos.line X.env = pure true := by exact sw_true rfl rfl rfl (by decide +kernel))
    (hws : ∀ w ∈ ws, w ∈ own.map (·.2) := by decide) (hs : ∀ x, foldedSetIterable iter X.env x = pure x := by intro _; rfl) : S X (.Assign [.Name y py] (.ListComp elt [⟨tg, iter, ifs, 0⟩] scope pos) spos) (sSet (gN i) (eL (fLc fi k t f (own.map (·.2))))) := by
  have mk := (hg X.s_0 X.H_0 0 [] []).mo
  have mt := (ht X.s_0 X.H_0 0 [] []).mo
  have mf := (he X.s_0 X.H_0 0 [] []).mo
  have m := mono_fLc (vs := own.map (·.2)) hi.mo mk mt mf
  refine ⟨fun Wx tkx => ps_imp (ps_setLc (i := i) hc hN hy hyl hsw hi.pi ok (fun s H C cl fp => (hg s H C cl fp).pg) (fun s H C cl fp => (ht s H C cl fp).pt) (fun s H C cl fp => (he s H C cl fp).pe) hs) fun D σ H ⟨fr, O, ρ, A, q⟩ => ?_, fun ρ => mono_bnd (mono_bnd (m ρ) fun _ => mono_ret _) fun _ => mono_bnd (mono_ret _) fun _ => mono_ret _⟩
  refine lc_imp hi.mo mk mt mf hws (tef_of m ⟨fr, O, ρ, A, ?_⟩)
  exact mono_bnd (m ρ) (fun _ => mono_ret _) _ _ (fun d k1 v H1 e1 g1 => k1 _ _ H1 ((A.ex e1).setVal i g1)) q
end
end Lq
namespace Lq
open PySem L2
/-! ### a def by its body -/
def endQ (Q : PyData → Prop) : Out → Prop
  | .rt d => Q d
  | .nx _ => Q .none
  | _ => False
def runQ (N : Nat) (body : Rho → Wp Out) : List PyData → Wp PyData := fun ds Q => body (ds.map Sl.val ++ List.replicate (N - ds.length) .un) (endQ Q)
def runQP (N : Nat) (body : Rho → Wp Out) : List PyData → Wp PyData := fun ds Q => body (.pool :: (ds.map Sl.val ++ List.replicate (N - (ds.length + 1)) .un)) (endQ Q)
theorem mono_runQ {N : Nat} {body : Rho → Wp Out} (h : ∀ ρ, Mono (body ρ)) (ds : List PyData) : Mono (runQ N body ds) := fun P P' i q => h _ _ _ (fun o k => match o, k with
  | .rt d, k => i d k
  | .nx _, k => i _ k
  | .bk _, k => k
  | .ct _, k => k
  | .ex _, k => k
  | .rs _ _, k => k) q
theorem mono_runQP {N : Nat} {body : Rho → Wp Out} (h : ∀ ρ, Mono (body ρ)) (ds : List PyData) : Mono (runQP N body ds) := fun P P' i q => h _ _ _ (fun o k => match o, k with
  | .rt d, k => i d k
  | .nx _, k => i _ k
  | .bk _, k => k
  | .ct _, k => k
  | .ex _, k => k
  | .rs _ _, k => k) q
theorem slots_un {W : Addr → Prop} {pl : Pl} {H : Hp} : ∀ n : Nat, Slots W pl H (List.replicate n none) (List.replicate n none) (List.replicate n .un)
  | 0 => .nil
  | n + 1 => .cons (.un _) (slots_un n)
theorem slots_val {W : Addr → Prop} {pl : Pl} {H : Hp} : ∀ {vs : List V} {ds : List PyData} (n : Nat), Dats W H vs ds → Slots W pl H (List.replicate (ds.length + n) none) (vs.map some ++ List.replicate n none) (ds.map Sl.val ++ List.replicate n .un)
  | _, _, n, .nil => by rw [List.length_nil, Nat.zero_add]; exact slots_un n
  | _, _, n, .cons (ds := ds) h r => by
    rw [List.length_cons, Nat.add_right_comm]
    exact .cons (.val h) (slots_val n r)
theorem noO {n : Nat} {p : Addr} : some p ∉ List.replicate n (none : Option Addr) := fun h => by cases List.eq_of_mem_replicate h
theorem noO2 {n i : Nat} {p : Addr} (h : (List.replicate n (none : Option Addr))[i]? = some (some p)) : False := noO (List.mem_of_getElem? h)
section
variable {P : Program} {w : World} {K : PySem.W.Frag} {mg : Str → Option Value} {base : Heap}
theorem fn_q {x qual : Str} {st : Stmt} {f : Addr} {fd : FuncData} {N ps : List Str} {k n : Nat} {body : Rho → Wp Out} (F : Fun K x qual st f fd) (Sc : FnScope N ps (defScope st)) (hn : ps.length = n)
    (hb : ∀ (cdv : Value) (A : Around) (outer : List Env) (s : Shared) (H : Hp) (E : XK), Room k (A.deeper (PyProof.Rows.envOfC qual (defScope st) s.heap.objs.size f cdv)) → SS (cxOf CX0 P w K mg base N qual (defScope st) f cdv A outer s H E).nox (defBody st) body) :
    FnOk P w K mg base CX0 (k + 1) f fd ps (spQ n (runQ N.length body)) := by
  refine F.ok Sc (fun vs H Q E h => ?_) (fun cdv A outer s H vs Q E hr h => ⟨_, (hb cdv A outer s H E hr).ps _ takes0, ?_⟩)
  · obtain ⟨ds, U, h1, _, h2, _⟩ := h
    rw [h2.length, h1, hn]
  obtain ⟨ds, U, h1, hU, h2, R, hm, hi⟩ := h
  have l := h2.length
  refine ⟨⟨U, fun _ => False, none, H, []⟩, List.replicate (ds.length + (N.length - ds.length)) none, ds.map Sl.val ++ List.replicate (N.length - ds.length) .un, ⟨?_, fun _ _ _ h => h, fun a c e => (by cases e), fun p m => absurd m noO, fun i j p h => absurd h noO2, hU, fun _ h => h, Tied.free plS_vals⟩, ?_⟩
  · have s := slots_val (W := Wd ⟨U, fun _ => False, none, H, []⟩ (List.replicate (ds.length + (N.length - ds.length)) none)) (pl := none) (N.length - ds.length) (h2.less fun p _ z => z.elim id fun m => absurd m noO)
    unfold L2.start
    rw [l]
    exact s
  · refine (hb cdv A outer s H E hr).mo _ _ _ (fun o k => ?_) hm
    match o, k with
    | .rt d, k => exact fun v H' F => hi _ k v H' (fun b o h => F.keep b o (fun z => z) h) F.dat
    | .nx _, k => exact fun σ' O' H' A => hi _ k _ H' (fun b o h => A.keep b o (fun z => z) h) .non
theorem fn_qp {x qual : Str} {st : Stmt} {f : Addr} {fd : FuncData} {N ps : List Str} {k n : Nat} {body : Rho → Wp Out} (F : Fun K x qual st f fd) (Sc : FnScope N ps (defScope st)) (hn : ps.length = n + 1)
    (hb : ∀ (cdv : Value) (A : Around) (outer : List Env) (s : Shared) (H : Hp) (E : XK), Room k (A.deeper (PyProof.Rows.envOfC qual (defScope st) s.heap.objs.size f cdv)) → SS (cxOf CX0 P w K mg base N qual (defScope st) f cdv A outer s H E).nox (defBody st) body) :
    FnOk P w K mg base CX0 (k + 1) f fd ps (spQP n (runQP N.length body)) := by
  refine F.ok Sc (fun vs H Q E h => ?_) (fun cdv A outer s H vs Q E hr h => ⟨_, (hb cdv A outer s H E hr).ps _ takes0, ?_⟩)
  · obtain ⟨ds, U, a, c, us, rfl, h1, _, _, _, h2, _⟩ := h
    rw [List.length_cons, h2.length, h1, hn]
  obtain ⟨ds, U, a, c, us, rfl, h1, hp, ha, hU, h2, R, hm, hi⟩ := h
  have l := h2.length
  refine ⟨⟨U, fun b => b = a, some (a, c), H, []⟩, List.replicate (ds.length + (N.length - (ds.length + 1)) + 1) none, .pool :: (ds.map Sl.val ++ List.replicate (N.length - (ds.length + 1)) .un), ⟨?_, fun _ _ _ h => h, fun a' c' e => (by cases e; exact ⟨hp, rfl, ha⟩), fun p m => absurd m noO, fun i j p h => absurd h noO2, hU, fun _ h => h, Tied.free fun s m => (List.mem_cons.mp m).elim (fun e => by rw [e]; rfl) (plS_vals s)⟩, ?_⟩
  · have s := slots_val (W := Wd ⟨U, fun b => b = a, some (a, c), H, []⟩ (List.replicate (ds.length + (N.length - (ds.length + 1)) + 1) none)) (pl := some (a, c)) (N.length - (ds.length + 1)) (h2.less fun p _ z => z.elim id fun m => absurd m noO)
    unfold L2.start
    rw [List.length_cons, l]
    exact Slots.cons (.pool rfl) s
  · have exo : ∀ H', (∀ b o, ¬ b = a → H b = some o → H' b = some o) → Cf.PoolAt H' a c → (∀ b, H b ≠ none → H' b ≠ none) → Ex (some (a, c)) H H' := fun H' h1 h2 h3 => ⟨fun b o n h => h1 b o (n a c rfl) h, fun a' c' e => (by cases e; exact h2), h3⟩
    refine (hb cdv A outer s H E hr).mo _ _ _ (fun o k => ?_) hm
    match o, k with
    | .rt d, k => exact fun v H' F => hi _ k v H' (exo H' F.keep (F.pool a c rfl) F.st) F.dat
    | .nx _, k => exact fun σ' O' H' A => hi _ k _ H' (exo H' A.keep (A.pool a c rfl).1 A.st) .non
end
/-! ### calls with the pool -/
def slP : Option Sl → Wp Unit
  | some .pool => ret ()
  | _ => bad
theorem mono_slP : ∀ o, Mono (slP o)
  | some .pool => mono_ret _
  | none | some .un | some (.lst _) | some (.dic _) | some (.dit _) | some (.val _) | some (.gh _ _) | some (.ptr _) => mono_bad
def eFnP (i : Nat) (m : List PyData → Wp PyData) (k : Rho → Wp (List PyData)) : Rho → Wp PyData := fun ρ => bnd (slP ρ[i]?) fun _ => bnd (k ρ) fun ds => up (m ds)
section
variable {X : Cx} {x y : Str} {p q pos : Pos} {es : List Expr} {ka : Rho → Wp (List PyData)}
theorem e_callP {g : Bool} (i : Nat) {n j : Nat} {ps : List Str} {m : List PyData → Wp PyData} (C : Cf.At X.prog X.w X.K X.mg X.base x j ps (spQP n m)) (hr : Room j X.A)
    (ha : A X true es ka) (hn : es.length = n := by rfl) (hN : X.N[i]? = some y := by rfl) (hv : Vis X.env.scope y := by first | exact Or.inl rfl | exact Or.inr (Or.inl rfl) | exact Or.inr (Or.inr rfl)) (hg : Gl X x := by rfl) (hd : (y == ("__debug__" : Str)) = false := by decide) (hcd : (y == ("__classdict__" : Str)) = false := by decide) (hdb : (x == ("__debug__" : Str)) = false := by decide)
    (he : starEach (.Name y q :: es) X.env = (false, eval (.Name y q) X.env) :: starEach es X.env := by rfl) (hpl : (backTo pos (starEach es X.env)).any (·.1) = false := by rfl) : E X g (.Call (.Name x p) (.Name y q :: es) [] pos) (eFnP i m ka) := by
  obtain ⟨fa, fd, F, hb, hk, hm⟩ := C.ex
  refine E.tr ⟨pe_imp (pe_call (dvs := []) (E := E0) F hr hg hm hk hb .nil pass0 (pa_cons (pe_var hN hv hd hcd) ha.pa he) hdb he hpl) fun σ H Q ⟨fr, O, ρ, A, q⟩ => ?_, fun ρ => mono_bnd (mono_slP _) fun _ => mono_bnd (ha.mo ρ) fun _ => mono_up _⟩
  unfold eFnP at q
  cases h : ρ[i]? with
  | none => rw [h] at q; exact False.elim q
  | some s =>
    rw [h] at q
    obtain ⟨o, x, h1, h2, h3⟩ := A.sl.get h
    cases h3 with
    | val _ => exact False.elim q
    | un => exact False.elim q
    | lst _ _ => exact False.elim q
    | dic _ _ => exact False.elim q
    | dit _ _ => exact False.elim q
    | gl _ _ => exact False.elim q
    | gd _ _ => exact False.elim q
    | gt _ _ => exact False.elim q
    | ptr _ => exact False.elim q
    | @pool a c hpl =>
      have q : bnd (ka ρ) (fun ds => up (m ds)) _ := q
      refine ⟨_, h2, fr, O, ρ, A, ha.mo ρ _ _ (fun ds k1 vs H1 e1 g1 => ?_) (ha.len ρ _ q)⟩
      have A1 := A.ex e1
      obtain ⟨hp, _, hu⟩ := A1.pool a c hpl
      refine ⟨ds, Wd fr O, a, c, vs, by rw [List.append_nil], k1.1.trans hn, hp, .inl hu, fun b w => A1.wd w, g1.dats, mono_up _ _ _ (fun r k3 v H3 e3 g3 => k3 v H3 (e1.trans ?_) g3) k1.2⟩
      rw [hpl]
      exact e3
end
/-! ### lists of the def's own -/
def slL : Option Sl → Wp (List PyData)
  | some (.lst ds) => ret ds
  | _ => bad
theorem mono_slL : ∀ o, Mono (slL o)
  | some (.lst _) => mono_ret _
  | none | some .un | some .pool | some (.dic _) | some (.dit _) | some (.val _) | some (.gh _ _) | some (.ptr _) => mono_bad
theorem At.list {fr : Fr} {O : List (Option Addr)} {σ : St} {ρ : Rho} {H : Hp} (A : At fr O σ ρ H) {i : Nat} {P : List PyData → Prop} (q : slL ρ[i]? P) : ∃ p vs ds, ρ[i]? = some (.lst ds) ∧ O[i]? = some (some p) ∧ σ[i]? = some (some (.ref p)) ∧ H p = some (.lst vs) ∧ Dats (Wd fr O) H vs ds ∧ P ds := by
  cases h : ρ[i]? with
  | none => rw [h] at q; exact False.elim q
  | some s =>
    rw [h] at q
    obtain ⟨o, x, h1, h2, h3⟩ := A.sl.get h
    cases h3 with
    | val _ => exact False.elim q
    | un => exact False.elim q
    | pool _ => exact False.elim q
    | dic _ _ => exact False.elim q
    | dit _ _ => exact False.elim q
    | gl _ _ => exact False.elim q
    | gd _ _ => exact False.elim q
    | gt _ _ => exact False.elim q
    | ptr _ => exact False.elim q
    | lst a b => exact ⟨_, _, _, rfl, h1, h2, a, b, q⟩
theorem Slots.wr {W : Addr → Prop} {pl : Pl} {H : Hp} {p : Addr} {o' : HO} {s' : Sl} {x : Option V} (hp : W p) (ht : ∀ vs, H p ≠ some (.tup vs)) (hs : SlotAt W pl (upd H p o') (some p) x s') :
    ∀ {O : List (Option Addr)} {σ : St} {ρ : Rho} {i : Nat}, Slots W pl H O σ ρ → (∀ j, O[j]? = some (some p) → j = i) → O[i]? = some (some p) → σ[i]? = some x → Slots W pl (upd H p o') O σ (ρ.set i s')
  | _, _, _, _, .nil, _, e, _ => by cases e
  | _, _, _, 0, .cons (O := O) h r, u, e, f => by
    cases e
    cases f
    exact .cons hs (r.to (fun _ n _ => n) (fun q vs h => by rw [upd_ne (fun z => ht vs (by rw [← z]; exact h))]; exact h) (fun q o n h => by rw [upd_ne (fun z => n (by rw [z]; exact hp))]; exact h) fun q o m h => by
      refine (upd_ne fun z => ?_).trans h
      obtain ⟨j, hj⟩ := List.mem_iff_getElem?.mp m
      have := u (j + 1) (by rw [z] at hj; exact hj)
      omega)
  | _, _, _, i + 1, .cons (o := o) h r, u, e, f => by
    refine .cons ?_ (Slots.wr hp ht hs r (fun j hj => by have := u (j + 1) hj; omega) e f)
    have ne : ∀ q, o = some q → q ≠ p := fun q z y => by
      subst z
      have := u 0 (by rw [y]; rfl)
      omega
    have t1 : ∀ q vs, H q = some (.tup vs) → upd H p o' q = some (.tup vs) := fun q vs h => by rw [upd_ne (fun z => ht vs (by rw [← z]; exact h))]; exact h
    have t2 : ∀ q o, ¬ W q → H q = some o → upd H p o' q = some o := fun q o n h => by rw [upd_ne (fun z => n (by rw [z]; exact hp))]; exact h
    cases h with
    | un => exact .un _
    | val h => exact .val (h.to (fun _ n _ => n) t1 t2)
    | lst h k => exact .lst (by rw [upd_ne (ne _ rfl)]; exact h) (k.to (fun _ n _ => n) t1 t2)
    | dic h k => exact .dic (by rw [upd_ne (ne _ rfl)]; exact h) (k.to (fun _ n _ => n) t1 t2)
    | dit h k => exact .dit (by rw [upd_ne (ne _ rfl)]; exact h) (k.to (fun _ n _ => n) t1 t2)
    | pool h => exact .pool h
    | gl h k => exact .gl (by rw [upd_ne (ne _ rfl)]; exact h) (k.to (fun _ n _ => n) t1 t2)
    | gd h k => exact .gd (by rw [upd_ne (ne _ rfl)]; exact h) (k.to (fun _ n _ => n) t1 t2)
    | gt h k => exact .gt (by rw [upd_ne (ne _ rfl)]; exact h) (k.to (fun _ n _ => n) t1 t2)
    | ptr j => exact .ptr j
section
variable {fr : Fr} {O : List (Option Addr)} {σ : St} {ρ : Rho} {H H' : Hp}
/-- the own thing of slot i is written -/
theorem At.writeT (A : At fr O σ ρ H) {i : Nat} {p : Addr} {o' : HO} {s' : Sl} {x : Option V} (ho : O[i]? = some (some p)) (hx : σ[i]? = some x) (hn : ∀ vs, o' ≠ .tup vs) (hs : SlotAt (Wd fr O) fr.pl (upd H p o') (some p) x s') (ht : Tied fr.gh O σ (ρ.set i s')) : At fr O σ (ρ.set i s') (upd H p o') := by
  have m := List.mem_of_getElem? ho
  obtain ⟨⟨a1, a2⟩, a3, o, a4, a5⟩ := A.own p m
  refine ⟨A.sl.wr (.inr m) (fun vs e => a5 vs (Option.some.inj (a4.symm.trans e))) hs (fun j hj => A.nd j i p hj ho) ho hx, fun b u n h => ?_, fun a c e => ⟨pool_up (A.pool a c e).1 (a3 a c e).1 (a3 a c e).2, (A.pool a c e).2⟩, fun q mq => ?_, A.nd, A.up, fun b h => ?_, ht⟩
  · rw [upd_ne fun z => ?_]
    · exact A.keep b u n h
    · subst z
      rcases a2 with z | z
      · exact n z
      · rw [h] at z; cases z
  · obtain ⟨b1, b2, b3⟩ := A.own q mq
    refine ⟨b1, b2, ?_⟩
    by_cases z : q = p
    · exact ⟨o', by rw [z, upd_same], hn⟩
    · rw [upd_ne z]; exact b3
  · by_cases z : b = p
    · rw [z, upd_same]; exact Option.some_ne_none _
    · rw [upd_ne z]; exact A.st b h
theorem At.write (A : At fr O σ ρ H) {i : Nat} {p : Addr} {o' : HO} {s' : Sl} {x : Option V} (ho : O[i]? = some (some p)) (hx : σ[i]? = some x) (hn : ∀ vs, o' ≠ .tup vs) (hs : SlotAt (Wd fr O) fr.pl (upd H p o') (some p) x s') (hp : plS s' = true := by rfl) : At fr O σ (ρ.set i s') (upd H p o') := A.writeT ho hx hn hs (A.gh.put i hp)
/-- slot i takes a new list -/
theorem At.setNew (A : At fr O σ ρ H) (i : Nat) {p : Addr} {vs : List V} {ds : List PyData} (n : H p = none) (e : Ex fr.pl H H') (h1 : H' p = some (.lst vs)) (h2 : Dats (fun b => Wd fr O b ∨ b = p) H' vs ds) : At fr (O.set i (some p)) (σ.set i (some (.ref p))) (ρ.set i (.lst ds)) H' := by
  have A1 := A.ex e
  have sub : ∀ q, some q ∈ O.set i (some p) → some q ∈ O ∨ q = p := fun q m => (List.mem_or_eq_of_mem_set m).imp id fun z => Option.some.inj z
  have hw : ∀ q, Wd fr (O.set i (some p)) q → Wd fr O q ∨ q = p := fun q z => z.elim (fun z => .inl (.inl z)) fun m => (sub q m).imp .inr id
  have pn : some p ∉ O := fun m => A.wd (.inr m) n
  refine ⟨Slots.set (.lst h1 (h2.less fun q _ z => hw q z)) i (A.sl.to (fun q m hq z => (hw q z).elim m fun z => hq (by rw [z]; exact n)) (A.via (b := false) e).1 (A.via (b := false) e).2 fun q o m h => e.keep q o (fun a c z => ((A.own q m).2.1 a c z).1) h), A1.keep, A1.pool, fun q m => ?_, fun j k q hj hk => ?_, A.up, A1.st, A1.gh.set i rfl⟩
  · rcases sub q m with m | rfl
    · exact A1.own q m
    · refine ⟨⟨fun u => A.wd (.inl u) n, .inr ?_⟩, fun a c z => ?_, _, h1, by intro vs z; cases z⟩
      · cases z : fr.H0 q with
        | none => rfl
        | some o => exact absurd n (A.st q (by rw [z]; exact Option.some_ne_none _))
      · obtain ⟨g1, g2⟩ := pool_two (A.pool a c z).1
        exact ⟨fun z => g1 (by rw [← z]; exact n), fun z => g2 (by rw [← z]; exact n)⟩
  · rw [List.getElem?_set] at hj hk
    split at hj <;> split at hk
    · subst_vars; rfl
    · split at hj
      · cases hj
        exact absurd (List.mem_of_getElem? hk) pn
      · cases hj
    · split at hk
      · cases hk
        exact absurd (List.mem_of_getElem? hj) pn
      · cases hk
    · exact A.nd j k q hj hk
end
section
variable {X : Cx} {x : Str} {px pos spos apos : Pos} {e : Expr} {i : Nat}
def sNew (i : Nat) (f : Rho → Wp (List PyData)) : Rho → Wp Out := fun ρ => bnd (f ρ) fun ds => ret (.nx (ρ.set i (.lst ds)))
/-- name = a new list, the def's own -/
theorem s_new (i : Nat) {f : Rho → Wp (List PyData)} (h : EF X e f) (hN : X.N.Nodup) (hi : X.N[i]? = some x := by rfl) (hx : Loc X.env.scope x := by first | exact Or.inl rfl | exact Or.inr rfl) (hs : swapsWith e (some (.Name x px)) pos.line X.env = pure false := by rfl) (hf : X.fn x = true ∨ X.env.scope.names.lookup x = some .local := by first | exact .inl rfl | exact .inr rfl) :
    S X (.Assign [.Name x px] e pos) (sNew i f) := by
  refine ⟨fun Wx tkx => ps_imp (ps_set (i := i) hN hi hx h.pe hs hf) fun D σ H ⟨fr, O, ρ, A, q⟩ => ?_, fun ρ => mono_bnd (h.mo ρ) fun _ => mono_ret _⟩
  exact ⟨fr, O, ρ, A, h.mo ρ _ _ (fun ds k p vs H1 n e1 h1 h2 => k _ _ H1 (A.setNew i n e1 h1 h2)) q⟩
def sApp (i : Nat) (f : Rho → Wp PyData) : Rho → Wp Out := fun ρ => bnd (slL ρ[i]?) fun ds => bnd (f ρ) fun d => gd (ds.length < sizeLine) (.nx (ρ.set i (.lst (ds ++ [d]))))
/-- name.append(e) -/
theorem s_append (i : Nat) {f : Rho → Wp PyData} (h : E X true e f) (hN : X.N[i]? = some x := by rfl) (hv : Vis X.env.scope x := by first | exact Or.inl rfl | exact Or.inr (Or.inl rfl) | exact Or.inr (Or.inr rfl)) (hd : (x == ("__debug__" : Str)) = false := by decide) (hcd : (x == ("__classdict__" : Str)) = false := by decide)
    (hbase : attributeBase (.Name x px) "append" X.env (eval (.Name x px) X.env) = eval (.Name x px) X.env := by rfl)
    (hfew : ((backTo pos (starEach [e] X.env)).all (fun x => !x.1) && (backToKw pos (keywordEach [] X.env)).all (fun x => x.1.isSome) && decide (([e] : List Expr).length + ([] : List Keyword).length + (if ([] : List Keyword).isEmpty then 0 else 1) < 30)) = true := by rfl)
    (hline : (apos.endLine == pos.line) = true := by rfl) (hs : starEach [e] X.env = (false, eval e X.env) :: starEach [] X.env := by rfl) (hpl : (backTo pos (starEach [] X.env)).any (·.1) = false := by rfl)
    (hsw : swapsWith (.Call (.Attribute (.Name x px) "append" apos) [e] [] pos) none spos.line X.env = pure false := by rfl) : S X (.Expr (.Call (.Attribute (.Name x px) "append" apos) [e] [] pos) spos) (sApp i f) := by
  refine ⟨fun Wx tkx => ps_imp (ps_expr (pe_bm PySem.F.plainAttrs_list PySem.F.slot_list_append PySem.F.type_list_append mt_append (pe_var hN hv hd hcd) (pa_cons h.pe pa_nil hs) hbase hfew hline hs hpl) hsw) fun D σ H ⟨fr, O, ρ, A, q⟩ => ?_, fun ρ => mono_bnd (mono_slL _) fun _ => mono_bnd (h.mo ρ) fun _ => mono_gd _⟩
  obtain ⟨p, vs, ds, h1, h2, h3, h4, h5, q⟩ := A.list q
  refine ⟨_, h3, .inl ⟨rfl, _, SqL.of h4⟩, fr, O, ρ, A, h.mo ρ _ _ (fun d k v H1 e1 g1 => ?_) q⟩
  have A1 := A.ex e1
  obtain ⟨p', vs', ds', f1, f2, f3, f4, f5, _⟩ := A1.list (i := i) (P := fun _ => True) (by rw [h1]; trivial)
  cases h1.symm.trans f1
  cases h3.symm.trans f3
  refine ⟨p, vs', v, rfl, rfl, f4, by rw [f5.length]; exact k.1, k.2 _ _ _ (A1.write f2 f3 (by intro vs z; cases z) (.lst upd_same ?_))⟩
  have w : Wd fr O p := .inr (List.mem_of_getElem? f2)
  exact (f5.snoc (show Dat (Wd fr O) H1 v d from g1)).to (fun _ n _ => n) (fun q vs h => by rw [upd_ne (ne_of h f4 (by intro z; cases z))]; exact h) fun q o n h => by rw [upd_ne (fun z => n (by rw [z]; exact w))]; exact h
end
end Lq
namespace Lq
open PySem L2
/-! ### the operators -/
section
variable {U W : Addr → Prop} {H : Hp} {x y : V} {d e : PyData}
theorem dat_new {H : Hp} {p : Addr} {o : HO} (n : H p = none) : Same H (upd H p o) := Cf.same_new n o
end
def addQ : PyData → PyData → Wp PyData
  | .int i, .int j => ret (.int (i + j))
  | .str x, .str y => gd (x.length + y.length ≤ sizeLine) (.str (x ++ y))
  | .tuple a, .tuple b => gd (a.length + b.length ≤ sizeLine) (.tuple (a ++ b))
  | .list a, .list b => gd (a.length + b.length ≤ sizeLine) (.list (a ++ b))
  | _, _ => bad
theorem mono_addQ (d e : PyData) : Mono (addQ d e) := by
  unfold addQ
  split <;> first | exact mono_ret _ | exact mono_gd _ | exact mono_bad
def subQ : PyData → PyData → Wp PyData
  | .int i, .int j => ret (.int (i - j))
  | _, _ => bad
def mulQ : PyData → PyData → Wp PyData
  | .int i, .int j => gd (CMul i j) (.int (i * j))
  | _, _ => bad
def modQ : PyData → PyData → Wp PyData
  | .int i, .int j => gd (0 < j) (.int (i % j))
  | _, _ => bad
def fdivQ : PyData → PyData → Wp PyData
  | .int i, .int j => gd (CDiv i j) (.int (i / j))
  | _, _ => bad
def ltQ : PyData → PyData → Wp PyData
  | .int i, .int j => ret (.bool (decide (i < j)))
  | .str x, .str y => ret (.bool (decide (x.cps.toList < y.cps.toList)))
  | _, _ => bad
def leQ : PyData → PyData → Wp PyData
  | .int i, .int j => ret (.bool (decide (i ≤ j)))
  | .str x, .str y => ret (.bool (!decide (y.cps.toList < x.cps.toList)))
  | _, _ => bad
def gtQ : PyData → PyData → Wp PyData
  | .int i, .int j => ret (.bool (decide (j < i)))
  | _, _ => bad
def geQ : PyData → PyData → Wp PyData
  | .int i, .int j => ret (.bool (decide (j ≤ i)))
  | _, _ => bad
def isNone : PyData → Bool
  | .none => true
  | _ => false
def isQ : PyData → PyData → Wp PyData
  | d, .none => ret (.bool (isNone d))
  | _, _ => bad
def isNotQ : PyData → PyData → Wp PyData
  | d, .none => ret (.bool (!isNone d))
  | _, _ => bad
section
variable {X : Cx}
theorem q_add : OpQ X (binaryOp .Add) addQ := by
  refine ⟨⟨_, (op_add.or op_add_str).or (op_catA.or op_cat), fun {fr O σ ρ H x y d e Q} A hx hy q => ?_⟩, mono_addQ⟩
  unfold addQ at q
  split at q
  · cases hx.int
    cases hy.int
    exact .inl (.inl ⟨_, _, rfl, rfl, q _ H (Same.refl H) (.int _)⟩)
  · cases hx.str
    cases hy.str
    exact .inl (.inr ⟨_, _, rfl, rfl, q.1, q.2 _ H (Same.refl H) (.str _)⟩)
  · obtain ⟨p, vs, rfl, a, b⟩ := hx.tup
    obtain ⟨p2, vs2, rfl, a2, b2⟩ := hy.tup
    refine .inr (.inl ⟨p, p2, vs, vs2, rfl, rfl, SqT.of a, SqT.of a2, by rw [b.length, b2.length]; exact q.1, fun z => ?_, fun _ z => ?_, fun _ _ r n => ?_⟩)
    · subst z
      cases b
      exact q.2 _ H (Same.refl H) (.tup a2 b2)
    · subst z
      cases b2
      exact q.2 _ H (Same.refl H) (by rw [List.append_nil]; exact .tup a b)
    · exact q.2 _ _ (dat_new n) (.tup upd_same ((b.append b2).same (dat_new n)))
  · obtain ⟨p, vs, rfl, a, b⟩ := hx.list
    obtain ⟨p2, vs2, rfl, a2, b2⟩ := hy.list
    refine .inr (.inr ⟨p, p2, vs, vs2, rfl, rfl, a, a2, by rw [b.length, b2.length]; exact q.1, fun r n => ?_⟩)
    exact q.2 _ _ (dat_new n) (.lst (wd_new A n) upd_same ((b.append b2).same (dat_new n)))
  · exact q.elim
/-- two ints -/
theorem q_ii {f : Value → Value → Sem Value} {C : Int → Int → Prop} {g : Int → Int → V} {h : Int → Int → PyData} {o : PyData → PyData → Wp PyData} (op : OpR X f (rI C g)) (ho : ∀ d e P, o d e P → ∃ i j, d = .int i ∧ e = .int j ∧ C i j ∧ P (h i j)) (mo : ∀ d e, Mono (o d e))
    (hg : ∀ (W : Addr → Prop) (H : Hp) (i j : Int), Dat W H (g i j) (h i j)) : OpQ X f o := by
  refine ⟨⟨_, op, fun {fr O σ ρ H x y d e Q} A hx hy q => ?_⟩, mo⟩
  obtain ⟨i, j, rfl, rfl, c, k⟩ := ho d e _ q
  cases hx.int
  cases hy.int
  exact ⟨_, _, rfl, rfl, c, k _ H (Same.refl H) (hg _ _ _ _)⟩
theorem q_ii0 {f : Value → Value → Sem Value} {g : Int → Int → V} {h : Int → Int → PyData} {o : PyData → PyData → Wp PyData} (op : OpR X f (rI0 g)) (ho : ∀ d e P, o d e P → ∃ i j, d = .int i ∧ e = .int j ∧ P (h i j)) (mo : ∀ d e, Mono (o d e))
    (hg : ∀ (W : Addr → Prop) (H : Hp) (i j : Int), Dat W H (g i j) (h i j)) : OpQ X f o := by
  refine ⟨⟨_, op, fun {fr O σ ρ H x y d e Q} A hx hy q => ?_⟩, mo⟩
  obtain ⟨i, j, rfl, rfl, k⟩ := ho d e _ q
  cases hx.int
  cases hy.int
  exact ⟨_, _, rfl, rfl, k _ H (Same.refl H) (hg _ _ _ _)⟩
theorem q_sub : OpQ X (binaryOp .Sub) subQ := q_ii0 op_sub (h := fun i j => .int (i - j)) (fun d e P q => by
  unfold subQ at q
  split at q
  · exact ⟨_, _, rfl, rfl, q⟩
  · exact q.elim) (fun d e => by
  unfold subQ
  split
  · exact mono_ret _
  · exact mono_bad) fun _ _ _ _ => .int _
theorem q_mul : OpQ X (binaryOp .Mult) mulQ := q_ii op_mul (h := fun i j => .int (i * j)) (fun d e P q => by
  unfold mulQ at q
  split at q
  · exact ⟨_, _, rfl, rfl, q⟩
  · exact q.elim) (fun d e => by
  unfold mulQ
  split
  · exact mono_gd _
  · exact mono_bad) fun _ _ _ _ => .int _
theorem q_mod : OpQ X (binaryOp .Mod) modQ := q_ii op_mod (h := fun i j => .int (i % j)) (fun d e P q => by
  unfold modQ at q
  split at q
  · exact ⟨_, _, rfl, rfl, q⟩
  · exact q.elim) (fun d e => by
  unfold modQ
  split
  · exact mono_gd _
  · exact mono_bad) fun _ _ _ _ => .int _
theorem q_fdiv : OpQ X (binaryOp .FloorDiv) fdivQ := q_ii op_fdiv (h := fun i j => .int (i / j)) (fun d e P q => by
  unfold fdivQ at q
  split at q
  · exact ⟨_, _, rfl, rfl, q⟩
  · exact q.elim) (fun d e => by
  unfold fdivQ
  split
  · exact mono_gd _
  · exact mono_bad) fun _ _ _ _ => .int _
theorem q_gt : OpQ X (compareOp .Gt) gtQ := q_ii0 op_gt (h := fun i j => .bool (decide (j < i))) (fun d e P q => by
  unfold gtQ at q
  split at q
  · exact ⟨_, _, rfl, rfl, q⟩
  · exact q.elim) (fun d e => by
  unfold gtQ
  split
  · exact mono_ret _
  · exact mono_bad) fun _ _ _ _ => .bl _
theorem q_ge : OpQ X (compareOp .GtE) geQ := q_ii0 op_ge (h := fun i j => .bool (decide (j ≤ i))) (fun d e P q => by
  unfold geQ at q
  split at q
  · exact ⟨_, _, rfl, rfl, q⟩
  · exact q.elim) (fun d e => by
  unfold geQ
  split
  · exact mono_ret _
  · exact mono_bad) fun _ _ _ _ => .bl _
theorem q_lt : OpQ X (compareOp .Lt) ltQ := by
  refine ⟨⟨_, op_lt.or op_lt_str, fun {fr O σ ρ H x y d e Q} A hx hy q => ?_⟩, fun d e => ?_⟩
  · unfold ltQ at q
    split at q
    · cases hx.int
      cases hy.int
      exact .inl ⟨_, _, rfl, rfl, q _ H (Same.refl H) (.bl _)⟩
    · cases hx.str
      cases hy.str
      exact .inr ⟨_, _, rfl, rfl, q _ H (Same.refl H) (.bl _)⟩
    · exact q.elim
  · unfold ltQ
    split <;> first | exact mono_ret _ | exact mono_bad
theorem q_le : OpQ X (compareOp .LtE) leQ := by
  refine ⟨⟨_, op_le.or op_le_str, fun {fr O σ ρ H x y d e Q} A hx hy q => ?_⟩, fun d e => ?_⟩
  · unfold leQ at q
    split at q
    · cases hx.int
      cases hy.int
      exact .inl ⟨_, _, rfl, rfl, q _ H (Same.refl H) (.bl _)⟩
    · cases hx.str
      cases hy.str
      exact .inr ⟨_, _, rfl, rfl, q _ H (Same.refl H) (.bl _)⟩
    · exact q.elim
  · unfold leQ
    split <;> first | exact mono_ret _ | exact mono_bad
theorem none_iff {U W : Addr → Prop} {H : Hp} {v : V} {d : PyData} (h : TopD U W H v d) : decide (v = .non) = isNone d := by
  cases h with
  | of h => cases h <;> rfl
  | lst _ _ _ => rfl
  | dic _ _ _ => rfl
  | dit _ _ _ => rfl
theorem q_is : OpQ X (compareOp .Is) isQ := by
  refine ⟨⟨_, op_isN, fun {fr O σ ρ H x y d e Q} A hx hy q => ?_⟩, fun d e => ?_⟩
  · unfold isQ at q
    split at q
    · cases hy.none
      exact ⟨rfl, by rw [none_iff hx]; exact q _ H (Same.refl H) (.bl _)⟩
    · exact q.elim
  · unfold isQ
    split
    · exact mono_ret _
    · exact mono_bad
theorem q_isNot : OpQ X (compareOp .IsNot) isNotQ := by
  refine ⟨⟨_, op_notN, fun {fr O σ ρ H x y d e Q} A hx hy q => ?_⟩, fun d e => ?_⟩
  · unfold isNotQ at q
    split at q
    · cases hy.none
      exact ⟨rfl, by rw [none_iff hx]; exact q _ H (Same.refl H) (.bl _)⟩
    · exact q.elim
  · unfold isNotQ
    split
    · exact mono_ret _
    · exact mono_bad
end
/-! == of data -/
mutual
theorem dat_dp {K : PySem.W.Frag} {U : Addr → Prop} {H : Hp} : ∀ {v : V} {d : PyData}, Dat U H v d → d.canLay0 = true → Dp K H v d
  | _, _, .non, _ => .non
  | _, _, .bl b, _ => .bl b
  | _, _, .int i, _ => .int i
  | _, _, .str x, _ => .str x
  | _, _, .tup h r, s => .tup (SqT.of h) (dats_dp r (by simpa [PyData.canLay0] using s))
  | _, _, .lst _ h r, s => .lst (SqL.of h) (dats_dp r (by simpa [PyData.canLay0] using s))
  | _, _, .dic _ _ _, s => by simp [PyData.canLay0] at s
  | _, _, .dit _ _ _, s => by simp [PyData.canLay0] at s
theorem dats_dp {K : PySem.W.Frag} {U : Addr → Prop} {H : Hp} : ∀ {vs : List V} {ds : List PyData}, Dats U H vs ds → PyData.canLayAll0 ds = true → DpAll K H vs ds
  | _, _, .nil, _ => .nil
  | _, _, .cons h r, s => by
    simp [PyData.canLayAll0] at s
    exact .cons (dat_dp h s.1) (dats_dp r s.2)
end
theorem TopD.dp {K : PySem.W.Frag} {U W : Addr → Prop} {H : Hp} {v : V} {d : PyData} (h : TopD U W H v d) (s : d.canLay0 = true) : Dp K H v d := by
  cases h with
  | of h => exact dat_dp h s
  | lst _ a b => exact .lst (SqL.of a) (dats_dp b (by simpa [PyData.canLay0] using s))
  | dic _ _ _ => simp [PyData.canLay0] at s
  | dit _ _ _ => simp [PyData.canLay0] at s
/-- two flat ones: what == says -/
def eqS : PyData → PyData → Option Bool
  | .int i, .int j => some (decide (i = j))
  | .str x, .str y => some (decide (x = y))
  | .bool a, .bool b => some (decide (a = b))
  | .int _, .str _ => some false
  | .str _, .int _ => some false
  | .none, .none => some true
  | .none, .int _ => some false
  | .int _, .none => some false
  | .none, .str _ => some false
  | .str _, .none => some false
  | _, _ => none
def eqQ (d e : PyData) : Wp PyData := match eqS d e with
  | some b => ret (.bool b)
  | none => gd (SeqAt.shaped d = true ∧ SeqAt.shaped e = true) (.bool (PyData.eqv d e))
def neQ (d e : PyData) : Wp PyData := match eqS d e with
  | some b => ret (.bool (!b))
  | none => gd (SeqAt.shaped d = true ∧ SeqAt.shaped e = true) (.bool (!PyData.eqv d e))
section
variable {X : Cx}
theorem eqS_ok {U W : Addr → Prop} {H : Hp} {x y : V} {d e : PyData} {b : Bool} (hx : TopD U W H x d) (hy : TopD U W H y e) (h : eqS d e = some b) : scal x y = true ∧ decide (x = y) = b := by
  unfold eqS at h
  split at h
  · cases hx.int; cases hy.int; cases h; exact ⟨rfl, by simp⟩
  · cases hx.str; cases hy.str; cases h; exact ⟨rfl, by simp⟩
  · cases hx.bool; cases hy.bool; cases h; exact ⟨rfl, by simp⟩
  · cases hx.int; cases hy.str; cases h; exact ⟨rfl, by simp⟩
  · cases hx.str; cases hy.int; cases h; exact ⟨rfl, by simp⟩
  · cases hx.none; cases hy.none; cases h; exact ⟨rfl, by simp⟩
  · cases hx.none; cases hy.int; cases h; exact ⟨rfl, by simp⟩
  · cases hx.int; cases hy.none; cases h; exact ⟨rfl, by simp⟩
  · cases hx.none; cases hy.str; cases h; exact ⟨rfl, by simp⟩
  · cases hx.str; cases hy.none; cases h; exact ⟨rfl, by simp⟩
  · cases h
theorem q_eq (hu : X.A.units + 64 < cLine) : OpQ X (compareOp .Eq) eqQ := by
  refine ⟨⟨_, op_eq.or (op_eqD hu), fun {fr O σ ρ H x y d e Q} A hx hy q => ?_⟩, fun d e => ?_⟩
  · unfold eqQ at q
    cases h : eqS d e with
    | some b =>
      rw [h] at q
      obtain ⟨h1, h2⟩ := eqS_ok hx hy h
      exact .inl ⟨h1, by rw [h2]; exact q _ H (Same.refl H) (.bl _)⟩
    | none =>
      rw [h] at q
      obtain ⟨⟨s1, s2⟩, q⟩ := q
      exact .inr ⟨d, e, hx.dp (SeqAt.canLay_of_shaped s1), hy.dp (SeqAt.canLay_of_shaped s2), s1, s2, q _ H (Same.refl H) (.bl _)⟩
  · unfold eqQ
    split
    · exact mono_ret _
    · exact mono_gd _
theorem q_ne (hu : X.A.units + 64 < cLine) : OpQ X (compareOp .NotEq) neQ := by
  refine ⟨⟨_, op_ne.or (op_neD hu), fun {fr O σ ρ H x y d e Q} A hx hy q => ?_⟩, fun d e => ?_⟩
  · unfold neQ at q
    cases h : eqS d e with
    | some b =>
      rw [h] at q
      obtain ⟨h1, h2⟩ := eqS_ok hx hy h
      exact .inl ⟨h1, by rw [h2]; exact q _ H (Same.refl H) (.bl _)⟩
    | none =>
      rw [h] at q
      obtain ⟨⟨s1, s2⟩, q⟩ := q
      exact .inr ⟨d, e, hx.dp (SeqAt.canLay_of_shaped s1), hy.dp (SeqAt.canLay_of_shaped s2), s1, s2, q _ H (Same.refl H) (.bl _)⟩
  · unfold neQ
    split
    · exact mono_ret _
    · exact mono_gd _
end
/-! in -/
def flatD : PyData → Bool
  | .none | .bool _ | .int _ | .str _ => true
  | _ => false
/-- == of flat data -/
def eqF : PyData → PyData → Bool
  | .none, .none => true
  | .bool a, .bool b => a == b
  | .bool a, .int b => (if a then 1 else 0) == b
  | .int a, .bool b => a == (if b then 1 else 0)
  | .int a, .int b => a == b
  | .str a, .str b => a == b
  | _, _ => false
def inF (x : PyData) (ds : List PyData) : Bool := ds.any fun y => eqF y x
def inS (neg : Bool) (z : Str) : List Nat → Wp PyData
  | [c] => ret (.bool (if neg then !decide (c ∈ z.cps.toList) else decide (c ∈ z.cps.toList)))
  | _ => bad
theorem mono_inS (neg : Bool) (z : Str) : ∀ l, Mono (inS neg z l)
  | [] => mono_bad
  | [_] => mono_ret _
  | _ :: _ :: _ => mono_bad
theorem inS_ok {neg : Bool} {z : Str} {P : PyData → Prop} : ∀ {l : List Nat}, inS neg z l P → ∃ c, l = [c] ∧ P (.bool (if neg then !decide (c ∈ z.cps.toList) else decide (c ∈ z.cps.toList)))
  | [], h => h.elim
  | [c], h => ⟨c, rfl, h⟩
  | _ :: _ :: _, h => h.elim
def inQ (neg : Bool) : PyData → PyData → Wp PyData
  | .str x, .str z => inS neg z x.cps.toList
  | x, .tuple ds => gd (flatD x = true ∧ ds.all flatD = true) (.bool (if neg then !inF x ds else inF x ds))
  | x, .list ds => if (flatD x && ds.all flatD) = true then ret (.bool (if neg then !inF x ds else inF x ds))
      else gd (SeqAt.shaped x = true ∧ SeqAt.shaped (.list ds) = true) (.bool (if neg then !ds.any (fun z => PyData.eqv z x) else ds.any fun z => PyData.eqv z x))
  | _, _ => bad
theorem mono_inQ (neg : Bool) (d e : PyData) : Mono (inQ neg d e) := by
  unfold inQ
  split
  · exact mono_inS _ _ _
  · exact mono_gd _
  · exact ite_mono (mono_ret _) (mono_gd _)
  · exact mono_bad
section
variable {X : Cx}
theorem flat_of {W : Addr → Prop} {H : Hp} {v : V} {d : PyData} (h : Dat W H v d) (f : flatD d = true) : flatV v = true ∧ ∀ {u : V} {e : PyData}, Dat W H u e → flatD e = true → eqV u v = eqF e d := by
  cases h with
  | non => exact ⟨rfl, fun h f => by cases h <;> first | rfl | cases f⟩
  | bl b => exact ⟨rfl, fun h f => by cases h <;> first | rfl | cases f⟩
  | int i => exact ⟨rfl, fun h f => by cases h <;> first | rfl | cases f⟩
  | str x => exact ⟨rfl, fun h f => by cases h <;> first | rfl | cases f⟩
  | tup _ _ => cases f
  | lst _ _ _ => cases f
  | dic _ _ _ => cases f
  | dit _ _ _ => cases f
theorem flats_of {W : Addr → Prop} {H : Hp} {v : V} {d : PyData} (h : Dat W H v d) (f : flatD d = true) : ∀ {vs : List V} {ds : List PyData}, Dats W H vs ds → ds.all flatD = true → vs.all flatV = true ∧ inV v vs = inF d ds
  | _, _, .nil, _ => ⟨rfl, rfl⟩
  | _, _, .cons (v := u) (d := e) (vs := vs) (ds := ds) a r, g => by
    rw [List.all_cons, Bool.and_eq_true_iff] at g
    obtain ⟨h1, h2⟩ := flats_of h f r g.2
    refine ⟨by rw [List.all_cons, (flat_of a g.1).1, h1]; rfl, ?_⟩
    show (eqV u v || inV v vs) = (eqF e d || inF d ds)
    rw [(flat_of h f).2 a g.1, h2]
theorem TopD.flat {U W : Addr → Prop} {H : Hp} {v : V} {d : PyData} (h : TopD U W H v d) (f : flatD d = true) : Dat W H v d := by
  cases h with
  | of h => exact h
  | lst _ _ _ => cases f
  | dic _ _ _ => cases f
  | dit _ _ _ => cases f
theorem sign_of {x : Str} {c : Nat} (h : x.cps.toList = [c]) : x = ⟨#[c]⟩ := by
  cases x with
  | mk a =>
    congr
    exact Array.toList_inj.mp h
theorem q_in (hu : X.A.units + 65 < cLine) : OpQ X (compareOp .In) (inQ false) := by
  refine ⟨⟨_, op_in_sign.or (op_in_seq.or (op_inD hu)), fun {fr O σ ρ H x y d e Q} A hx hy q => ?_⟩, mono_inQ false⟩
  unfold inQ at q
  split at q
  · obtain ⟨c, h, k⟩ := inS_ok q
    cases hx.str
    cases hy.str
    exact .inl ⟨_, _, by rw [sign_of h], rfl, k _ H (Same.refl H) (.bl _)⟩
  · obtain ⟨⟨f1, f2⟩, q⟩ := q
    obtain ⟨p, vs, rfl, a, b⟩ := hy.tup
    have g := hx.flat f1
    obtain ⟨h1, h2⟩ := flats_of g f1 b f2
    exact .inr (.inl ⟨p, vs, rfl, .inr (SqT.of a), (flat_of g f1).1, h1, by rw [h2]; exact q _ H (Same.refl H) (.bl _)⟩)
  · obtain ⟨p, vs, rfl, a, b⟩ := hy.list
    split at q
    · rename_i f
      obtain ⟨f1, f2⟩ := Bool.and_eq_true_iff.mp f
      have g := hx.flat f1
      obtain ⟨h1, h2⟩ := flats_of g f1 b f2
      exact .inr (.inl ⟨p, vs, rfl, .inl (SqL.of a), (flat_of g f1).1, h1, by rw [h2]; exact q _ H (Same.refl H) (.bl _)⟩)
    · obtain ⟨⟨f1, f2⟩, q⟩ := q
      exact .inr (.inr ⟨_, _, hx.dp (SeqAt.canLay_of_shaped f1), hy.dp (SeqAt.canLay_of_shaped f2), f1, f2, q _ H (Same.refl H) (.bl _)⟩)
  · exact q.elim
theorem q_notIn (hu : X.A.units + 65 < cLine) : OpQ X (compareOp .NotIn) (inQ true) := by
  refine ⟨⟨_, op_notIn_sign.or (op_notIn_seq.or (op_notInD hu)), fun {fr O σ ρ H x y d e Q} A hx hy q => ?_⟩, mono_inQ true⟩
  unfold inQ at q
  split at q
  · obtain ⟨c, h, k⟩ := inS_ok q
    cases hx.str
    cases hy.str
    exact .inl ⟨_, _, by rw [sign_of h], rfl, k _ H (Same.refl H) (.bl _)⟩
  · obtain ⟨⟨f1, f2⟩, q⟩ := q
    obtain ⟨p, vs, rfl, a, b⟩ := hy.tup
    have g := hx.flat f1
    obtain ⟨h1, h2⟩ := flats_of g f1 b f2
    exact .inr (.inl ⟨p, vs, rfl, .inr (SqT.of a), (flat_of g f1).1, h1, by rw [h2]; exact q _ H (Same.refl H) (.bl _)⟩)
  · obtain ⟨p, vs, rfl, a, b⟩ := hy.list
    split at q
    · rename_i f
      obtain ⟨f1, f2⟩ := Bool.and_eq_true_iff.mp f
      have g := hx.flat f1
      obtain ⟨h1, h2⟩ := flats_of g f1 b f2
      exact .inr (.inl ⟨p, vs, rfl, .inl (SqL.of a), (flat_of g f1).1, h1, by rw [h2]; exact q _ H (Same.refl H) (.bl _)⟩)
    · obtain ⟨⟨f1, f2⟩, q⟩ := q
      exact .inr (.inr ⟨_, _, hx.dp (SeqAt.canLay_of_shaped f1), hy.dp (SeqAt.canLay_of_shaped f2), f1, f2, q _ H (Same.refl H) (.bl _)⟩)
  · exact q.elim
end
end Lq
namespace Lq
open PySem L2
/-! ### built-in calls, subscripts, slices -/
section
variable {X : Cx}
theorem topd_of {fr : Fr} {O : List (Option Addr)} {H : Hp} {v : V} {d : PyData} (h : Gd false fr O H v d) : TopD fr.U (Wd fr O) H v d := h
def lenQ : List PyData → Wp PyData
  | [.list ds] => ret (.int (ds.length : Int))
  | [.tuple ds] => ret (.int (ds.length : Int))
  | [.str x] => gd (x.length ≤ sizeLine) (.int (x.length : Int))
  | [.dict ((.none, _) :: es)] => ret (.int (es.length : Int))
  | [.dict es] => ret (.int (es.length : Int))
  | _ => bad
theorem datK_len {W : Addr → Prop} {H : Hp} : ∀ {kvs : List (Key × V)} {es : List (PyData × PyData)}, DatK W H kvs es → kvs.length = es.length
  | _, _, .nil => rfl
  | _, _, .cons _ r => congrArg (· + 1) (datK_len r)
theorem datT_len {W : Addr → Prop} {H : Hp} : ∀ {kvs : List (List Key × V)} {es : List (PyData × PyData)}, DatT W H kvs es → kvs.length = es.length
  | _, _, .nil => rfl
  | _, _, .cons _ r => congrArg (· + 1) (datT_len r)
theorem datK_none {W : Addr → Prop} {H : Hp} {kvs : List (Key × V)} {x : PyData} {es : List (PyData × PyData)} (h : DatK W H kvs ((.none, x) :: es)) : False := by
  generalize e : (PyData.none, x) :: es = fs at h
  cases h with
  | nil => cases e
  | @cons k _ _ _ _ _ _ => cases k <;> cases e
theorem call_lenR {X : Cx} : CallR X (.builtin "len") (fun xs H Q => ∃ a kvs, xs = [V.ref a] ∧ Rd H a (.dK kvs) ∧ Q (.int kvs.length) H) := by
  intro pins s σ H xs us Q I r h
  obtain ⟨a, kvs, rfl, ha, q⟩ := h
  obtain ⟨u, rfl, ru⟩ := vals1 r
  cases ru
  exact d_len I ha fun t s' I' => ⟨.int kvs.length, H, I', ⟨t, rfl⟩, q⟩
theorem call_lenRT {X : Cx} : CallR X (.builtin "len") (fun xs H Q => ∃ a kvs, xs = [V.ref a] ∧ Rd H a (.dT kvs) ∧ Q (.int kvs.length) H) := by
  intro pins s σ H xs us Q I r h
  obtain ⟨p, kvs, rfl, hp, q⟩ := h
  obtain ⟨u, rfl, rx⟩ := vals1 r
  obtain rfl : u = .ref p := rx
  obtain ⟨sz, ns, ks, kr, dh⟩ := dt_rd I.hok hp
  have le : kvs.length = ks.length := Paired.length kr
  refine call_len_dictH ns dh (by rw [← le]; rw [sizeLine_eq] at sz; omega) ?_
  rw [← le]
  exact ⟨.int ((kvs.length : Nat) : Int), H, I.tok _, ⟨_, rfl⟩, q⟩
theorem q_len : CallQ X (.builtin "len") lenQ := by
  refine ⟨⟨_, call_len_seq.or (call_len_str.or (call_lenR.or call_lenRT)), fun {fr O σ ρ H vs ds Q} A h q => ?_⟩, fun ds => ?_⟩
  · unfold lenQ at q
    split at q
    · cases h with | cons h r => cases r; obtain ⟨p, vs, rfl, a, b⟩ := (topd_of h).list; exact .inl ⟨p, vs, rfl, .inl (SqL.of a), by rw [b.length]; exact q _ H (Same.refl H) (.int _)⟩
    · cases h with | cons h r => cases r; obtain ⟨p, vs, rfl, a, b⟩ := (topd_of h).tup; exact .inl ⟨p, vs, rfl, .inr (SqT.of a), by rw [b.length]; exact q _ H (Same.refl H) (.int _)⟩
    · cases h with | cons h r => cases r; cases (topd_of h).str; exact .inr (.inl ⟨_, rfl, q.1, q.2 _ H (Same.refl H) (.int _)⟩)
    · cases h with
      | cons h r =>
        cases r
        obtain ⟨p, rfl, hh⟩ := (topd_of h).dict
        rcases hh with ⟨kvs, a, b⟩ | ⟨kvs, fs, e, a, b⟩
        · exact (datK_none b).elim
        · cases e
          exact .inr (.inr (.inr ⟨p, kvs, rfl, a, by rw [datT_len b]; exact q _ H (Same.refl H) (.int _)⟩))
    · rename_i es hes
      cases h with
      | cons h r =>
        cases r
        obtain ⟨p, rfl, hh⟩ := (topd_of h).dict
        rcases hh with ⟨kvs, a, b⟩ | ⟨kvs, fs, e, a, b⟩
        · exact .inr (.inr (.inl ⟨p, kvs, rfl, a, by rw [datK_len b]; exact q _ H (Same.refl H) (.int _)⟩))
        · exact (hes _ _ (by rw [e])).elim
    · exact q.elim
  · unfold lenQ
    split <;> first | exact mono_ret _ | exact mono_gd _ | exact mono_bad
def listQ : List PyData → Wp PyData
  | [.list ds] => ret (.list ds)
  | [.tuple ds] => ret (.list ds)
  | [.dict ((.none, _) :: es)] => ret (.list (es.map (·.1)))
  | [.dict es] => ret (.list (es.map (·.1)))
  | _ => bad
def tupleQ : List PyData → Wp PyData
  | [.list ds] => ret (.tuple ds)
  | [.tuple ds] => ret (.tuple ds)
  | _ => bad
theorem datK_keys {W W' : Addr → Prop} {H H' : Hp} : ∀ {kvs : List (Key × V)} {es : List (PyData × PyData)}, DatK W H kvs es → Dats W' H' (kvs.map fun kv => kV kv.1) (es.map (·.1))
  | _, _, .nil => .nil
  | _, _, .cons (k := .inl i) _ r => .cons (.int i) (datK_keys r)
  | _, _, .cons (k := .inr x) _ r => .cons (.str x) (datK_keys r)
theorem dats_kV {W : Addr → Prop} {H : Hp} : ∀ (ks : List Key), Dats W H (ks.map kV) (ks.map kD)
  | [] => .nil
  | .inl i :: r => .cons (.int i) (dats_kV r)
  | .inr x :: r => .cons (.str x) (dats_kV r)
theorem datT_keys {W W' : Addr → Prop} {H H' : Hp} (e : Same H H') : ∀ {kvs : List (List Key × V)} {es : List (PyData × PyData)} {bs : List Addr}, DatT W H kvs es → IsKeys H kvs bs → Dats W' H' (bs.map V.ref) (es.map (·.1))
  | _, _, _, .nil, .nil => .nil
  | _, _, _, .cons (k := k) _ r, .cons h t => .cons (.tup (e _ _ h) (dats_kV k)) (datT_keys e r t)
theorem q_list (hc : X.calm = true) : CallQ X (.type "list") listQ := by
  refine ⟨⟨_, call_list_of.or ((call_listD hc).or (call_list_dT hc)), fun {fr O σ ρ H vs ds Q} A h q => ?_⟩, fun ds => ?_⟩
  · unfold listQ at q
    split at q
    · cases h with | cons h r => cases r; obtain ⟨p, vs, rfl, a, b⟩ := (topd_of h).list; exact .inl ⟨p, vs, rfl, .inl (SqL.of a), fun l n => q _ _ (dat_new n) (.lst (wd_new A n) upd_same (b.same (dat_new n)))⟩
    · cases h with | cons h r => cases r; obtain ⟨p, vs, rfl, a, b⟩ := (topd_of h).tup; exact .inl ⟨p, vs, rfl, .inr (SqT.of a), fun l n => q _ _ (dat_new n) (.lst (wd_new A n) upd_same (b.same (dat_new n)))⟩
    · cases h with
      | cons h r =>
        cases r
        obtain ⟨p, rfl, hh⟩ := (topd_of h).dict
        rcases hh with ⟨kvs, a, b⟩ | ⟨kvs, fs, e, a, b⟩
        · exact (datK_none b).elim
        · cases e
          exact .inr (.inr ⟨p, kvs, rfl, a, fun l bs n k => q _ _ (dat_new n) (.lst (wd_new A n) upd_same (datT_keys (dat_new n) b k))⟩)
    · rename_i es hes
      cases h with
      | cons h r =>
        cases r
        obtain ⟨p, rfl, hh⟩ := (topd_of h).dict
        rcases hh with ⟨kvs, a, b⟩ | ⟨kvs, fs, e, a, b⟩
        · exact .inr (.inl ⟨p, kvs, rfl, a, fun l n => q _ _ (dat_new n) (.lst (wd_new A n) upd_same (datK_keys b))⟩)
        · exact (hes _ _ (by rw [e])).elim
    · exact q.elim
  · unfold listQ
    split <;> first | exact mono_ret _ | exact mono_bad
theorem q_tuple : CallQ X (.type "tuple") tupleQ := by
  refine ⟨⟨_, call_tuple_of, fun {fr O σ ρ H vs ds Q} A h q => ?_⟩, fun ds => ?_⟩
  · unfold tupleQ at q
    split at q
    · cases h with | cons h r => cases r; obtain ⟨p, vs, rfl, a, b⟩ := (topd_of h).list; exact ⟨p, vs, rfl, .inl ⟨SqL.of a, fun l n => q _ _ (dat_new n) (.tup upd_same (b.same (dat_new n)))⟩⟩
    · cases h with | cons h r => cases r; obtain ⟨p, vs, rfl, a, b⟩ := (topd_of h).tup; exact ⟨p, vs, rfl, .inr ⟨SqT.of a, q _ H (Same.refl H) (.tup a b)⟩⟩
    · exact q.elim
  · unfold tupleQ
    split <;> first | exact mono_ret _ | exact mono_bad
/-- the whole numbers of a list -/
def intsOf : List PyData → Option (List Int)
  | [] => some []
  | .int i :: ds => (intsOf ds).map (i :: ·)
  | _ :: _ => none
theorem intsOf_ok {W : Addr → Prop} {H : Hp} : ∀ {vs : List V} {ds : List PyData} {ns : List Int}, Dats W H vs ds → intsOf ds = some ns → vs = ns.map V.int
  | _, _, _, .nil, e => by cases e; rfl
  | _, _, ns, .cons (d := d) (ds := ds) h r, e => by
    cases d with
    | int i =>
      have e : (intsOf ds).map (i :: ·) = some ns := e
      obtain ⟨ms, h1, rfl⟩ := Option.map_eq_some_iff.mp e
      cases h
      rw [intsOf_ok r h1]
      rfl
    | none => cases e
    | bool _ => cases e
    | str _ => cases e
    | list _ => cases e
    | tuple _ => cases e
    | dict _ => cases e
def intsW (ds : List PyData) : Wp (List Int) := match intsOf ds with
  | some ns => ret ns
  | none => bad
theorem mono_intsW (ds : List PyData) : Mono (intsW ds) := by
  unfold intsW
  split
  · exact mono_ret _
  · exact mono_bad
theorem intsW_ok {ds : List PyData} {P : List Int → Prop} (h : intsW ds P) : ∃ ns, intsOf ds = some ns ∧ P ns := by
  unfold intsW at h
  cases e : intsOf ds with
  | some ns => rw [e] at h; exact ⟨ns, rfl, h⟩
  | none => rw [e] at h; exact False.elim h
def sumQ : List PyData → Wp PyData
  | [.list ds] => bnd (intsW ds) fun ns => ret (.int ns.sum)
  | _ => bad
def maxQ : List PyData → Wp PyData
  | [.list ds] => bnd (intsW ds) fun ns Q => 0 < ns.length ∧ ∀ m, m ∈ ns → (∀ y, y ∈ ns → y ≤ m) → Q (.int m)
  | [.int i, .int j] => ret (.int (if j > i then j else i))
  | _ => bad
def minQ : List PyData → Wp PyData
  | [.list ds] => bnd (intsW ds) fun ns Q => 0 < ns.length ∧ ∀ m, m ∈ ns → (∀ y, y ∈ ns → m ≤ y) → Q (.int m)
  | [.int i, .int j] => ret (.int (if j < i then j else i))
  | _ => bad
theorem mono_maxQ (ds : List PyData) : Mono (maxQ ds) := by
  unfold maxQ
  split
  · exact mono_bnd (mono_intsW _) fun ns P P' h q => ⟨q.1, fun m m1 m2 => h _ (q.2 m m1 m2)⟩
  · exact mono_ret _
  · exact mono_bad
theorem mono_minQ (ds : List PyData) : Mono (minQ ds) := by
  unfold minQ
  split
  · exact mono_bnd (mono_intsW _) fun ns P P' h q => ⟨q.1, fun m m1 m2 => h _ (q.2 m m1 m2)⟩
  · exact mono_ret _
  · exact mono_bad
theorem q_sum (hc : X.calm = true) : CallQ X (.builtin "sum") sumQ := by
  refine ⟨⟨_, cr_sum hc, fun {fr O σ ρ H vs ds Q} A h q => ?_⟩, fun ds => ?_⟩
  · unfold sumQ at q
    split at q
    · cases h with
      | cons h r =>
        cases r
        obtain ⟨p, vs, rfl, a, b⟩ := (topd_of h).list
        obtain ⟨ns, e, q⟩ := intsW_ok q
        exact ⟨p, ns, rfl, by rw [← intsOf_ok b e]; exact SqL.of a, q _ H (Same.refl H) (.int _)⟩
    · exact q.elim
  · unfold sumQ
    split
    · exact mono_bnd (mono_intsW _) fun _ => mono_ret _
    · exact mono_bad
theorem q_max (hc : X.calm = true) : CallQ X (.builtin "max") maxQ := by
  refine ⟨⟨_, (cr_max hc).or (call_max2 hc), fun {fr O σ ρ H vs ds Q} A h q => ?_⟩, mono_maxQ⟩
  unfold maxQ at q
  split at q
  · cases h with
    | cons h r =>
      cases r
      obtain ⟨p, vs, rfl, a, b⟩ := (topd_of h).list
      obtain ⟨ns, e, q1, q2⟩ := intsW_ok q
      exact .inl ⟨p, ns, rfl, by rw [← intsOf_ok b e]; exact SqL.of a, q1, fun m m1 m2 => q2 m m1 m2 _ H (Same.refl H) (.int _)⟩
  · cases h with
    | cons h r => cases r with
      | cons h2 r => cases r; cases (topd_of h).int; cases (topd_of h2).int; exact .inr ⟨_, _, rfl, q _ H (Same.refl H) (.int _)⟩
  · exact q.elim
theorem q_min (hc : X.calm = true) : CallQ X (.builtin "min") minQ := by
  refine ⟨⟨_, (cr_min hc).or (call_min2 hc), fun {fr O σ ρ H vs ds Q} A h q => ?_⟩, mono_minQ⟩
  unfold minQ at q
  split at q
  · cases h with
    | cons h r =>
      cases r
      obtain ⟨p, vs, rfl, a, b⟩ := (topd_of h).list
      obtain ⟨ns, e, q1, q2⟩ := intsW_ok q
      exact .inl ⟨p, ns, rfl, by rw [← intsOf_ok b e]; exact SqL.of a, q1, fun m m1 m2 => q2 m m1 m2 _ H (Same.refl H) (.int _)⟩
  · cases h with
    | cons h r => cases r with
      | cons h2 r => cases r; cases (topd_of h).int; cases (topd_of h2).int; exact .inr ⟨_, _, rfl, q _ H (Same.refl H) (.int _)⟩
  · exact q.elim
def intQ : List PyData → Wp PyData
  | [.int i] => ret (.int i)
  | [.bool b] => ret (.int (if b then 1 else 0))
  | _ => bad
def strQ : List PyData → Wp PyData
  | [.int i] => gd (i.natAbs.log2 < 1920) (.str (toString i))
  | _ => bad
theorem q_int : CallQ X (.type "int") intQ := by
  refine ⟨⟨_, call_int1, fun {fr O σ ρ H vs ds Q} A h q => ?_⟩, fun ds => ?_⟩
  · unfold intQ at q
    split at q
    · cases h with | cons h r => cases r; cases (topd_of h).int; exact .inl ⟨_, rfl, q _ H (Same.refl H) (.int _)⟩
    · cases h with | cons h r => cases r; cases (topd_of h).bool; exact .inr ⟨_, rfl, q _ H (Same.refl H) (.int _)⟩
    · exact q.elim
  · unfold intQ
    split <;> first | exact mono_ret _ | exact mono_bad
theorem q_str : CallQ X (.type "str") strQ := by
  refine ⟨⟨_, call_str_int, fun {fr O σ ρ H vs ds Q} A h q => ?_⟩, fun ds => ?_⟩
  · unfold strQ at q
    split at q
    · cases h with | cons h r => cases r; cases (topd_of h).int; exact ⟨_, rfl, q.1, q.2 _ H (Same.refl H) (.str _)⟩
    · exact q.elim
  · unfold strQ
    split <;> first | exact mono_gd _ | exact mono_bad
/-! x[i] -/
def atW {α : Type} (o : Option α) : Wp α := match o with
  | some a => ret a
  | none => bad
theorem mono_atW {α : Type} (o : Option α) : Mono (atW o) := by
  unfold atW
  split
  · exact mono_ret _
  · exact mono_bad
theorem atW_ok {α : Type} {o : Option α} {P : α → Prop} (h : atW o P) : ∃ a, o = some a ∧ P a := by
  cases o with
  | some a => exact ⟨a, rfl, h⟩
  | none => exact False.elim h
def ixQ : PyData → PyData → Wp PyData
  | .tuple ds, .int i => atW (atI ds i)
  | .list ds, .int i => atW (atI ds i)
  | .str x, .int i => bnd (atW (atI x.cps.toList i)) fun c => gd (x.length ≤ sizeLine) (.str ⟨#[c]⟩)
  | _, _ => bad
theorem dats_at {W : Addr → Prop} {H : Hp} {vs : List V} {ds : List PyData} {i : Int} {d : PyData} (h : Dats W H vs ds) (e : atI ds i = some d) : ∃ v, atI vs i = some v ∧ Dat W H v d := by
  unfold atI at e ⊢
  rw [h.length]
  cases z : ixN ds.length i with
  | none => rw [z] at e; cases e
  | some j =>
    rw [z] at e
    exact h.get e
theorem q_ix : IxQ X ixQ := by
  refine ⟨⟨_, ix_seq, fun {fr O σ ρ H x y d e Q} A hx hy q => ?_⟩, fun d e => ?_⟩
  · unfold ixQ at q
    split at q
    · obtain ⟨p, vs, rfl, a, b⟩ := hx.tup
      cases hy.int
      obtain ⟨d, e, q⟩ := atW_ok q
      obtain ⟨v, h1, h2⟩ := dats_at b e
      exact .inr (.inl ⟨p, vs, _, v, rfl, rfl, SqT.of a, h1, q v H (Same.refl H) h2⟩)
    · obtain ⟨p, vs, rfl, a, b⟩ := hx.list
      cases hy.int
      obtain ⟨d, e, q⟩ := atW_ok q
      obtain ⟨v, h1, h2⟩ := dats_at b e
      exact .inl ⟨p, vs, _, v, rfl, rfl, SqL.of a, h1, q v H (Same.refl H) h2⟩
    · cases hx.str
      cases hy.int
      obtain ⟨c, e, q1, q2⟩ := atW_ok q
      exact .inr (.inr ⟨_, _, c, rfl, rfl, q1, e, q2 _ H (Same.refl H) (.str _)⟩)
    · exact q.elim
  · unfold ixQ
    split
    · exact mono_atW _
    · exact mono_atW _
    · exact mono_bnd (mono_atW _) fun _ => mono_gd _
    · exact mono_bad
/-! x[lo:hi] -/
structure Part (X : Cx) (e : Option Expr) (f : Rho → Wp (Option Int)) : Prop where
  po : PO X e fun σ H Q => ∃ fr O ρ, At fr O σ ρ H ∧ f ρ fun o => ∀ H', Ex fr.pl H H' → Q o H'
  mo : ∀ ρ, Mono (f ρ)
def noPart : Rho → Wp (Option Int) := fun _ => ret none
def intOf : PyData → Wp (Option Int)
  | .int i => ret (some i)
  | _ => bad
theorem mono_intOf (d : PyData) : Mono (intOf d) := by
  unfold intOf
  split
  · exact mono_ret _
  · exact mono_bad
def aPart (f : Rho → Wp PyData) : Rho → Wp (Option Int) := fun ρ => bnd (f ρ) intOf
theorem p_none : Part X none noPart := ⟨⟨fun pins s σ H Q I ⟨fr, O, ρ, A, q⟩ => po_none.run pins s σ H Q I (q H A.refl)⟩, fun _ => mono_ret _⟩
theorem p_some {e : Expr} {f : Rho → Wp PyData} (h : E X false e f) : Part X (some e) (aPart f) := by
  refine ⟨⟨fun pins s σ H Q I ⟨fr, O, ρ, A, q⟩ => (po_some h.pe).run pins s σ H Q I ⟨fr, O, ρ, A, h.mo ρ _ _ (fun d k v H1 e1 g1 => ?_) q⟩⟩, fun ρ => mono_bnd (h.mo ρ) mono_intOf⟩
  unfold intOf at k
  split at k
  · cases (topd_of g1).int
    exact ⟨_, rfl, k H1 e1⟩
  · exact False.elim k
def cutD (ds : List PyData) (lo hi : Option Int) : List PyData := (ds.drop (HT.sIx ds.length 0 lo)).take (HT.sIx ds.length ds.length hi - HT.sIx ds.length 0 lo)
theorem Dats.cut {W : Addr → Prop} {H : Hp} {vs : List V} {ds : List PyData} (h : Dats W H vs ds) (lo hi : Option Int) : Dats W H (cutV vs lo hi) (cutD ds lo hi) := by
  unfold cutV cutD
  rw [h.length]
  exact (h.drop _).take _
def slQ (d : PyData) (lo hi : Option Int) : Wp PyData := match d with
  | .tuple ds => ret (.tuple (cutD ds lo hi))
  | .list ds => ret (.list (cutD ds lo hi))
  | .str x => gd (x.length ≤ sizeLine) (.str (cutS x lo hi))
  | _ => bad
theorem mono_slQ (d : PyData) (lo hi : Option Int) : Mono (slQ d lo hi) := by
  unfold slQ
  split <;> first | exact mono_ret _ | exact mono_gd _ | exact mono_bad
def eSl (f : Rho → Wp PyData) (l h : Rho → Wp (Option Int)) : Rho → Wp PyData := fun ρ => bnd (f ρ) fun d => bnd (l ρ) fun lo => bnd (h ρ) fun hi => slQ d lo hi
theorem whole_cut {ds : List PyData} {lo hi : Option Int} (h : HT.sIx ds.length 0 lo = 0 ∧ HT.sIx ds.length ds.length hi = ds.length) : cutD ds lo hi = ds := by
  unfold cutD
  rw [h.1, h.2]
  simp
theorem e_sl {g : Bool} {a : Expr} {lo hi : Option Expr} {p2 pos : Pos} {f : Rho → Wp PyData} {l h : Rho → Wp (Option Int)} (ha : E X false a f) (hl : Part X lo l) (hh : Part X hi h) : E X g (.Subscript a (.Slice lo hi none p2) pos) (eSl f l h) := by
  refine E.tr ⟨pe_imp (pe_slice (sl_tupA.or (sl_list.or sl_str)) ha.pe hl.po hh.po) fun σ H Q ⟨fr, O, ρ, A, q⟩ => ?_, fun ρ => mono_bnd (ha.mo ρ) fun _ => mono_bnd (hl.mo ρ) fun _ => mono_bnd (hh.mo ρ) fun _ => mono_slQ _ _ _⟩
  refine ⟨fr, O, ρ, A, ha.mo ρ _ _ (fun d k1 v H1 e1 g1 => ?_) q⟩
  have A1 := A.ex e1
  refine ⟨fr, O, ρ, A1, hl.mo ρ _ _ (fun lo k2 H2 e2 => ?_) k1⟩
  have A2 := A1.ex e2
  refine ⟨fr, O, ρ, A2, hh.mo ρ _ _ (fun hi k3 H3 e3 => ?_) k2⟩
  have A3 := A2.ex e3
  have g3 : TopD fr.U (Wd fr O) H3 v d := A2.gd (g := false) e3 (A1.gd (g := false) e2 g1)
  have e13 := (e1.trans e2).trans e3
  unfold slQ at k3
  split at k3
  · obtain ⟨p, vs, rfl, a, b⟩ := g3.tup
    refine .inl ⟨p, vs, rfl, SqT.of a, fun w => ?_, fun _ r n => ?_⟩
    · rw [b.length] at w
      have k := k3 (.ref p) H3 e13
      rw [whole_cut w] at k
      exact k (.tup a b)
    · exact k3 _ _ (e13.trans (A3.same (dat_new n))) (.tup upd_same ((b.cut lo hi).same (dat_new n)))
  · obtain ⟨p, vs, rfl, a, b⟩ := g3.list
    exact .inr (.inl ⟨p, vs, rfl, SqL.of a, fun r n => k3 _ _ (e13.trans (A3.same (dat_new n))) (.lst (wd_new A3 n) upd_same ((b.cut lo hi).same (dat_new n)))⟩)
  · cases g3.str
    exact .inr (.inr ⟨_, rfl, k3.1, k3.2 _ H3 e13 (.str _)⟩)
  · exact False.elim k3
/-! isinstance(x, T), type(x) is T -/
def tyD : PyData → String
  | .none => "NoneType"
  | .bool _ => "bool"
  | .int _ => "int"
  | .str _ => "str"
  | .list _ => "list"
  | .tuple _ => "tuple"
  | .dict _ => "dict"
theorem ty_of {U W : Addr → Prop} {H : Hp} {v : V} {d : PyData} (h : TopD U W H v d) (n : tyD d ≠ "dict") : Cf.TyN H v (tyD d) := by
  cases h with
  | of h => cases h with
    | non => rfl
    | bl _ => rfl
    | int _ => rfl
    | str _ => rfl
    | tup a _ => exact .inr (.inl ⟨rfl, _, a⟩)
    | lst _ a _ => exact .inl ⟨rfl, _, a⟩
    | dic _ _ _ => exact (n rfl).elim
    | dit _ _ _ => exact (n rfl).elim
  | lst _ a _ => exact .inl ⟨rfl, _, a⟩
  | dic _ _ _ => exact (n rfl).elim
  | dit _ _ _ => exact (n rfl).elim
/-- what isinstance says -/
def isiD (d : PyData) (T : String) : Option Bool := if tyD d = "dict" then none else kitB (tyD d) T
def eIsi (T : String) (f : Rho → Wp PyData) : Rho → Wp PyData := fun ρ => bnd (f ρ) fun d => bnd (atW (isiD d T)) fun b => ret (.bool b)
theorem e_isi {g : Bool} {T : Str} {T' : String} {e : Expr} {f : Rho → Wp PyData} {p p2 pos : Pos} (h : E X false e f) (h1 : X.mg "isinstance" = none) (h2 : X.mg T = none) (hT : bootBuiltins T = some (.type T') := by decide +kernel) (hg1 : Gl X "isinstance" := by rfl) (hg2 : Gl X T := by rfl) (hn : T ≠ "__name__" := by decide) (hd : (T == ("__debug__" : Str)) = false := by decide)
    (hs : starEach [e, .Name T p2] X.env = (false, eval e X.env) :: starEach [.Name T p2] X.env := by rfl) (hpl : (backTo pos (starEach [.Name T p2] X.env)).any (·.1) = false := by rfl) : E X g (.Call (.Name "isinstance" p) [e, .Name T p2] [] pos) (eIsi T' f) := by
  refine E.tr ⟨pe_imp (pe_callB call_isi hg1 h1 (by decide +kernel) (pa_cons h.pe (pa_cons (pe_bltn (v := .ty T') hg2 h2 hT rfl hn hd) pa_nil) hs) (by decide) (by decide) hs hpl) fun σ H Q ⟨fr, O, ρ, A, q⟩ => ?_, fun ρ => mono_bnd (h.mo ρ) fun _ => mono_bnd (mono_atW _) fun _ => mono_ret _⟩
  refine ⟨fr, O, ρ, A, h.mo ρ _ _ (fun d k v H1 e1 g1 => ?_) q⟩
  obtain ⟨b, hb, k⟩ := atW_ok k
  unfold isiD at hb
  split at hb
  · cases hb
  · rename_i n
    exact ⟨_, _, _, _, b, rfl, .ty _, Cf.tyx (ty_of g1 n), kit_ty hb, k _ H1 e1 (.bl b)⟩
/-- type(x) for the kinds of data -/
def rTy (K : PySem.W.Frag) : List V → Hp → VK → Prop := fun xs H Q => ∃ (x : V) (T : String), xs = [x] ∧ Cf.TyN H x T ∧ Q (.ty T) H
theorem call_ty : CallR X (.type "type") (rTy X.K) := by
  intro pins s σ H xs us Q I r h
  obtain ⟨x, T, rfl, t, q⟩ := h
  obtain ⟨u, rfl, rx⟩ := vals1 r
  have go : ∀ {S : String}, s.TypeIs u S → (Value.type S == Value.type "builtin_function_or_method") = false → T = S → wpAny (model X.prog X.w) X.A (call (.type "type") [u]) (EP X pins σ Q) X.xe s := fun h1 h2 e => by
    subst e
    exact PySem.call_type_of h1 h2 ⟨.ty T, H, I, rfl, q⟩
  cases x with
  | non => cases rx; exact go (show typeOf Value.none = pure (.type "NoneType") from rfl) (by decide +kernel) t
  | bl b => cases rx; exact go (show typeOf (Value.bool b) = pure (.type "bool") from rfl) (by decide +kernel) t
  | int i => obtain ⟨k, rfl⟩ := rx; exact go (typeIs_int s i k) (by decide +kernel) t
  | str z => obtain ⟨k, rfl⟩ := rx; exact go (typeIs_str s z k) (by decide +kernel) t
  | ref p =>
    cases rx
    rcases t with ⟨e, xs, h⟩ | ⟨e, xs, h⟩ | ⟨e, kvs, h⟩
    · obtain ⟨its, rv, p, _⟩ := I.list (.inl (.inl h))
      exact go p.isList.typeIs (by decide +kernel) e
    · obtain ⟨its, rv, p, _⟩ := I.tuple (.inl (.inl h))
      exact go p.typeIs (by decide +kernel) e
    · exact go (isD_at I (.inl ⟨kvs, .of h⟩)).1 (by decide +kernel) e
  | byt _ => exact (show False from t).elim
  | flt _ => exact (show False from t).elim
  | ty _ => exact (show False from t).elim
def tyQ (neg : Bool) (T : String) (d : PyData) : Wp PyData := gd (tyD d ≠ "dict") (.bool (if neg then !decide (tyD d = T) else decide (tyD d = T)))
def eTy (neg : Bool) (T : String) (f : Rho → Wp PyData) : Rho → Wp PyData := fun ρ => bnd (f ρ) (tyQ neg T)
section
variable {Z : Str} {T' : String} {e : Expr} {f : Rho → Wp PyData} {p p2 pos pos2 : Pos}
theorem ty_imp (mo : ∀ ρ, Mono (f ρ)) {σ : St} {H : Hp} {Q : VK} (q : teOf true (eTy false T' f) σ H Q) : tOp (fun x y H Q => ∃ m n, x = .ty m ∧ y = .ty n ∧ Q (.bl (decide (m = n))) H) (tCB (rTy X.K) (tCons (teOf false f) tNil)) (tC (.ty T')) σ H Q := by
  obtain ⟨fr, O, ρ, A, q⟩ := q
  refine ⟨fr, O, ρ, A, mo ρ _ _ (fun d k v H1 e1 g1 => ?_) q⟩
  exact ⟨v, tyD d, rfl, ty_of g1 k.1, _, _, rfl, rfl, k.2 _ H1 e1 (.bl _)⟩
theorem ty_impN (mo : ∀ ρ, Mono (f ρ)) {σ : St} {H : Hp} {Q : VK} (q : teOf true (eTy true T' f) σ H Q) : tOp (fun x y H Q => ∃ m n, x = .ty m ∧ y = .ty n ∧ Q (.bl (!decide (m = n))) H) (tCB (rTy X.K) (tCons (teOf false f) tNil)) (tC (.ty T')) σ H Q := by
  obtain ⟨fr, O, ρ, A, q⟩ := q
  refine ⟨fr, O, ρ, A, mo ρ _ _ (fun d k v H1 e1 g1 => ?_) q⟩
  exact ⟨v, tyD d, rfl, ty_of g1 k.1, _, _, rfl, rfl, k.2 _ H1 e1 (.bl _)⟩
theorem mono_eTy {neg : Bool} (mo : ∀ ρ, Mono (f ρ)) (ρ : Rho) : Mono (eTy neg T' f ρ) := mono_bnd (mo ρ) fun _ => mono_gd _
theorem t_ty (h : E X false e f) (h1 : X.mg "type" = none) (h2 : X.mg Z = none) (hT : bootBuiltins Z = some (.type T') := by decide +kernel) (hg1 : Gl X "type" := by rfl) (hg2 : Gl X Z := by rfl) (hn : Z ≠ "__name__" := by decide) (hd : (Z == ("__debug__" : Str)) = false := by decide)
    (hs : starEach [e] X.env = (false, eval e X.env) :: starEach [] X.env := by rfl) (hpl : (backTo pos2 (starEach [] X.env)).any (·.1) = false := by rfl) : T X (.Compare (.Call (.Name "type" p) [e] [] pos2) [.Is] [.Name Z p2] pos) (tT (eTy false T' f)) :=
  ⟨pt_imp (pt_cmpR op_isTy (pe_callTy call_ty hg1 h1 (by decide +kernel) (pa_cons h.pe pa_nil hs) (by decide) (by decide) hs hpl) (pe_bltn (v := .ty T') hg2 h2 hT rfl hn hd) (nomark _)) fun σ H Q q => tt_of (mono_eTy h.mo) (fun σ H Q q => ty_imp h.mo q) q, mono_tT (mono_eTy h.mo)⟩
theorem t_tyN (h : E X false e f) (h1 : X.mg "type" = none) (h2 : X.mg Z = none) (hT : bootBuiltins Z = some (.type T') := by decide +kernel) (hg1 : Gl X "type" := by rfl) (hg2 : Gl X Z := by rfl) (hn : Z ≠ "__name__" := by decide) (hd : (Z == ("__debug__" : Str)) = false := by decide)
    (hs : starEach [e] X.env = (false, eval e X.env) :: starEach [] X.env := by rfl) (hpl : (backTo pos2 (starEach [] X.env)).any (·.1) = false := by rfl) : T X (.Compare (.Call (.Name "type" p) [e] [] pos2) [.IsNot] [.Name Z p2] pos) (tT (eTy true T' f)) :=
  ⟨pt_imp (pt_cmpR op_isNotTy (pe_callTy call_ty hg1 h1 (by decide +kernel) (pa_cons h.pe pa_nil hs) (by decide) (by decide) hs hpl) (pe_bltn (v := .ty T') hg2 h2 hT rfl hn hd) (nomark _)) fun σ H Q q => tt_of (mono_eTy h.mo) (fun σ H Q q => ty_impN h.mo q) q, mono_tT (mono_eTy h.mo)⟩
theorem e_ty {g : Bool} (h : E X false e f) (h1 : X.mg "type" = none) (h2 : X.mg Z = none) (hT : bootBuiltins Z = some (.type T') := by decide +kernel) (hg1 : Gl X "type" := by rfl) (hg2 : Gl X Z := by rfl) (hn : Z ≠ "__name__" := by decide) (hd : (Z == ("__debug__" : Str)) = false := by decide)
    (hs : starEach [e] X.env = (false, eval e X.env) :: starEach [] X.env := by rfl) (hpl : (backTo pos2 (starEach [] X.env)).any (·.1) = false := by rfl) : E X g (.Compare (.Call (.Name "type" p) [e] [] pos2) [.Is] [.Name Z p2] pos) (eTy false T' f) :=
  E.tr ⟨pe_imp (pe_cmpR op_isTy (pe_callTy call_ty hg1 h1 (by decide +kernel) (pa_cons h.pe pa_nil hs) (by decide) (by decide) hs hpl) (pe_bltn (v := .ty T') hg2 h2 hT rfl hn hd) (nomark _)) fun σ H Q q => ty_imp h.mo q, mono_eTy h.mo⟩
end
end
end Lq
namespace Lq
open PySem L2
/-! ### dicts -/
mutual
/-- two keys are the same -/
def keqb : PyData → PyData → Bool
  | .int i, .int j => decide (i = j)
  | .str x, .str y => decide (x = y)
  | .tuple a, .tuple b => keqbs a b
  | _, _ => false
def keqbs : List PyData → List PyData → Bool
  | [], [] => true
  | a :: as, b :: bs => keqb a b && keqbs as bs
  | _, _ => false
end
def lookP (es : List (PyData × PyData)) (k : PyData) : Option PyData := (es.find? fun e => keqb e.1 k).map (·.2)
def putP (es : List (PyData × PyData)) (k d : PyData) : List (PyData × PyData) := if (es.any fun e => keqb e.1 k) = true then es.map (fun e => if keqb e.1 k = true then (e.1, d) else e) else es ++ [(k, d)]
theorem keqb_k (a b : Key) : keqb (kD a) (kD b) = decide (a = b) := by
  cases a <;> cases b <;> simp [kD, keqb]
theorem keqb_t : ∀ a b : List Key, keqbs (a.map kD) (b.map kD) = decide (a = b)
  | [], [] => by simp [keqbs]
  | [], _ :: _ => by simp [keqbs]
  | _ :: _, [] => by simp [keqbs]
  | a :: as, b :: bs => by simp [keqbs, keqb_k, keqb_t as bs]
theorem keqb_tt (a b : List Key) : keqb (.tuple (a.map kD)) (.tuple (b.map kD)) = decide (a = b) := by
  rw [← keqb_t]
  simp [keqb]
section
variable {W : Addr → Prop} {H : Hp}
theorem look_k {kvs : List (Key × V)} {es : List (PyData × PyData)} (h : DatK W H kvs es) (k : Key) : (valV kvs k = none ∧ lookP es (kD k) = none) ∨ ∃ v d, valV kvs k = some v ∧ lookP es (kD k) = some d ∧ Dat W H v d := by
  match h with
  | .nil => exact .inl ⟨rfl, rfl⟩
  | .cons (k := a) (v := v) (d := d) (vs := vs) (ds := ds) h r =>
    by_cases e : a = k
    · subst e
      exact .inr ⟨v, d, by simp [valV], by simp [lookP, keqb_k], h⟩
    · have ih := look_k r k
      have e1 : valV ((a, v) :: vs) k = valV vs k := by simp [valV, e]
      have e2 : lookP ((kD a, d) :: ds) (kD k) = lookP ds (kD k) := by simp [lookP, keqb_k, e]
      rw [e1, e2]
      exact ih
theorem look_t {kvs : List (List Key × V)} {es : List (PyData × PyData)} (h : DatT W H kvs es) (k : List Key) : (valV kvs k = none ∧ lookP es (.tuple (k.map kD)) = none) ∨ ∃ v d, valV kvs k = some v ∧ lookP es (.tuple (k.map kD)) = some d ∧ Dat W H v d := by
  match h with
  | .nil => exact .inl ⟨rfl, rfl⟩
  | .cons (k := a) (v := v) (d := d) (vs := vs) (ds := ds) h r =>
    by_cases e : a = k
    · subst e
      exact .inr ⟨v, d, by simp [valV], by simp [lookP, keqb_tt], h⟩
    · have ih := look_t r k
      have e1 : valV ((a, v) :: vs) k = valV vs k := by simp [valV, e]
      have e2 : lookP ((PyData.tuple (a.map kD), d) :: ds) (.tuple (k.map kD)) = lookP ds (.tuple (k.map kD)) := by simp [lookP, keqb_tt, e]
      rw [e1, e2]
      exact ih
theorem any_k (k : Key) : ∀ {kvs : List (Key × V)} {es : List (PyData × PyData)}, DatK W H kvs es → (kvs.any fun kv => decide (kv.1 = k)) = es.any fun e => keqb e.1 (kD k)
  | _, _, .nil => rfl
  | _, _, .cons (k := a) h r => by rw [List.any_cons, List.any_cons, any_k k r, keqb_k]
theorem map_k {k : Key} {v : V} {d : PyData} (hd : Dat W H v d) : ∀ {kvs : List (Key × V)} {es : List (PyData × PyData)}, DatK W H kvs es → DatK W H (kvs.map fun kv => if kv.1 = k then (kv.1, v) else kv) (es.map fun e => if keqb e.1 (kD k) = true then (e.1, d) else e)
  | _, _, .nil => .nil
  | _, _, .cons (k := a) (v := u) (d := e) h r => by
    rw [List.map_cons, List.map_cons, keqb_k]
    by_cases z : a = k
    · rw [if_pos z, if_pos (by simp [z])]
      exact .cons hd (map_k hd r)
    · rw [if_neg z, if_neg (by simp [z])]
      exact .cons h (map_k hd r)
theorem snoc_k {k : Key} {v : V} {d : PyData} (hd : Dat W H v d) : ∀ {kvs : List (Key × V)} {es : List (PyData × PyData)}, DatK W H kvs es → DatK W H (kvs ++ [(k, v)]) (es ++ [(kD k, d)])
  | _, _, .nil => .cons hd .nil
  | _, _, .cons h r => .cons h (snoc_k hd r)
theorem put_k {kvs : List (Key × V)} {es : List (PyData × PyData)} {k : Key} {v : V} {d : PyData} (h : DatK W H kvs es) (hd : Dat W H v d) : DatK W H (putK kvs k v) (putP es (kD k) d) := by
  unfold putK putP
  rw [any_k k h]
  split
  · exact map_k hd h
  · exact snoc_k hd h
theorem any_t (k : List Key) : ∀ {kvs : List (List Key × V)} {es : List (PyData × PyData)}, DatT W H kvs es → (kvs.any fun kv => decide (kv.1 = k)) = es.any fun e => keqb e.1 (.tuple (k.map kD))
  | _, _, .nil => rfl
  | _, _, .cons (k := a) h r => by rw [List.any_cons, List.any_cons, any_t k r, keqb_tt]
theorem map_t {k : List Key} {v : V} {d : PyData} (hd : Dat W H v d) : ∀ {kvs : List (List Key × V)} {es : List (PyData × PyData)}, DatT W H kvs es → DatT W H (kvs.map fun kv => if kv.1 = k then (kv.1, v) else kv) (es.map fun e => if keqb e.1 (.tuple (k.map kD)) = true then (e.1, d) else e)
  | _, _, .nil => .nil
  | _, _, .cons (k := a) (v := u) (d := e) h r => by
    rw [List.map_cons, List.map_cons, keqb_tt]
    by_cases z : a = k
    · rw [if_pos z, if_pos (by simp [z])]
      exact .cons hd (map_t hd r)
    · rw [if_neg z, if_neg (by simp [z])]
      exact .cons h (map_t hd r)
theorem snoc_t {k : List Key} {v : V} {d : PyData} (hd : Dat W H v d) : ∀ {kvs : List (List Key × V)} {es : List (PyData × PyData)}, DatT W H kvs es → DatT W H (kvs ++ [(k, v)]) (es ++ [(.tuple (k.map kD), d)])
  | _, _, .nil => .cons hd .nil
  | _, _, .cons h r => .cons h (snoc_t hd r)
theorem put_t {kvs : List (List Key × V)} {es : List (PyData × PyData)} {k : List Key} {v : V} {d : PyData} (h : DatT W H kvs es) (hd : Dat W H v d) : DatT W H (putK kvs k v) (putP es (.tuple (k.map kD)) d) := by
  unfold putK putP
  rw [any_t k h]
  split
  · exact map_t hd h
  · exact snoc_t hd h
end
/-- a key that is an int or a text -/
def keyP : PyData → Option Key
  | .int i => some (.inl i)
  | .str x => some (.inr x)
  | _ => none
def keysP : List PyData → Option (List Key)
  | [] => some []
  | d :: ds => match keyP d, keysP ds with
    | some k, some ks => some (k :: ks)
    | _, _ => none
theorem keyP_ok {d : PyData} {k : Key} (h : keyP d = some k) : d = kD k := by
  cases d <;> cases h <;> rfl
theorem keysP_ok : ∀ {ds : List PyData} {ks : List Key}, keysP ds = some ks → ds = ks.map kD
  | [], ks, h => by cases h; rfl
  | d :: ds, ks, h => by
    unfold keysP at h
    split at h
    · rename_i a b
      cases h
      rw [keyP_ok a, keysP_ok b]
      rfl
    · cases h
theorem key_at {U W : Addr → Prop} {H : Hp} {v : V} {k : Key} (h : TopD U W H v (kD k)) : v = kV k := by
  cases k with
  | inl i => exact h.int
  | inr x => exact h.str
theorem keys_at {W : Addr → Prop} {H : Hp} : ∀ {ks : List Key} {vs : List V}, Dats W H vs (ks.map kD) → vs = ks.map kV
  | [], _, h => by cases h; rfl
  | k :: ks, _, h => by
    cases h with
    | cons h r => rw [keys_at r, key_at (U := W) (W := W) (.of h)]; rfl
/-- its keys are tuples -/
def marked : List (PyData × PyData) → Bool
  | (.none, _) :: _ => true
  | _ => false
def dgT (es : List (PyData × PyData)) : PyData → Wp (Option PyData)
  | .tuple ks => gd (keysP ks ≠ none) (lookP es (.tuple ks))
  | _ => bad
theorem mono_dgT (es : List (PyData × PyData)) : ∀ d, Mono (dgT es d)
  | .tuple _ => mono_gd _
  | .none | .bool _ | .int _ | .str _ | .list _ | .dict _ => mono_bad
/-- what a dict holds at a key -/
def dgetW : PyData → PyData → Wp (Option PyData)
  | .dict es, k => if marked es = true then dgT es.tail k else gd (keyP k ≠ none) (lookP es k)
  | _, _ => bad
theorem mono_dgetW (d k : PyData) : Mono (dgetW d k) := by
  unfold dgetW
  split
  · exact ite_mono (mono_dgT _ _) (mono_gd _)
  · exact mono_bad
theorem dgT_ok {es : List (PyData × PyData)} {d : PyData} {P : Option PyData → Prop} (q : dgT es d P) : ∃ ks, d = .tuple ks ∧ keysP ks ≠ none ∧ P (lookP es d) := by
  cases d with
  | tuple ks => exact ⟨ks, rfl, q⟩
  | none => exact False.elim q
  | bool _ => exact False.elim q
  | int _ => exact False.elim q
  | str _ => exact False.elim q
  | list _ => exact False.elim q
  | dict _ => exact False.elim q
theorem datK_marked {W : Addr → Prop} {H : Hp} {kvs : List (Key × V)} {es : List (PyData × PyData)} (h : DatK W H kvs es) : marked es = false := by
  cases h with
  | nil => rfl
  | @cons k _ _ _ _ _ _ => cases k <;> rfl
theorem dget_ok {U W : Addr → Prop} {H : Hp} {x y : V} {d k : PyData} {P : Option PyData → Prop} (hx : TopD U W H x d) (hy : TopD U W H y k) (q : dgetW d k P) : ∃ a o, x = .ref a ∧ DGet H a y o ∧ ((o = none ∧ P none) ∨ ∃ v e, o = some v ∧ Dat W H v e ∧ P (some e)) := by
  cases d with
  | dict es =>
    obtain ⟨p, rfl, hh⟩ := hx.dict
    rcases hh with ⟨kvs, a, b⟩ | ⟨kvs, fs, rfl, a, b⟩
    · have q : (if marked es = true then dgT es.tail k else gd (keyP k ≠ none) (lookP es k)) P := q
      rw [datK_marked b, if_neg Bool.false_ne_true] at q
      obtain ⟨q1, q2⟩ := q
      cases z : keyP k with
      | none => exact absurd z q1
      | some j =>
        have e := keyP_ok z
        subst e
        rw [key_at hy]
        refine ⟨p, _, rfl, .inl ⟨kvs, j, a, rfl, rfl⟩, ?_⟩
        rcases look_k b j with ⟨h1, h2⟩ | ⟨v, e, h1, h2, h3⟩
        · rw [h2] at q2
          exact .inl ⟨h1, q2⟩
        · rw [h2] at q2
          exact .inr ⟨v, e, h1, h3, q2⟩
    · have q : dgT fs k P := q
      obtain ⟨ks, rfl, q1, q2⟩ := dgT_ok q
      cases z : keysP ks with
      | none => exact absurd z q1
      | some j =>
        have e := keysP_ok z
        subst e
        obtain ⟨p2, vs, rfl, a2, b2⟩ := hy.tup
        rw [keys_at b2] at a2
        refine ⟨p, _, rfl, .inr ⟨kvs, j, p2, a, rfl, a2, rfl⟩, ?_⟩
        rcases look_t b j with ⟨h1, h2⟩ | ⟨v, e, h1, h2, h3⟩
        · rw [h2] at q2
          exact .inl ⟨h1, q2⟩
        · rw [h2] at q2
          exact .inr ⟨v, e, h1, h3, q2⟩
  | none => exact False.elim q
  | bool _ => exact False.elim q
  | int _ => exact False.elim q
  | str _ => exact False.elim q
  | list _ => exact False.elim q
  | tuple _ => exact False.elim q
theorem isD_of {U W : Addr → Prop} {H : Hp} {x : V} {d : PyData} (hx : TopD U W H x d) (h : tyD d = "dict") : ∃ a, x = .ref a ∧ IsD H a := by
  cases d with
  | dict es =>
    obtain ⟨p, rfl, hh⟩ := hx.dict
    rcases hh with ⟨kvs, a, _⟩ | ⟨kvs, fs, _, a, _⟩
    · exact ⟨p, rfl, .inl ⟨kvs, a⟩⟩
    · exact ⟨p, rfl, .inr ⟨kvs, a⟩⟩
  | none => simp [tyD] at h
  | bool _ => simp [tyD] at h
  | int _ => simp [tyD] at h
  | str _ => simp [tyD] at h
  | list _ => simp [tyD] at h
  | tuple _ => simp [tyD] at h
section
variable {X : Cx} {o i e c : Expr} {fo fi fe : Rho → Wp PyData} {pos apos cpos : Pos}
/-- d.get(k) -/
def eGet1 (fo fi : Rho → Wp PyData) : Rho → Wp PyData := fun ρ => bnd (fo ρ) fun d => bnd (gd (tyD d = "dict") ()) fun _ => bnd (fi ρ) fun k => bnd (dgetW d k) fun r => ret (r.getD .none)
theorem e_get1 {g : Bool} (hu : X.A.units + 1 < cLine) (ho : E X false o fo) (hi : E X false i fi) (m : M1 X o "get" apos i cpos := by exact ⟨rfl, rfl, rfl, rfl⟩) : E X g (.Call (.Attribute o "get" apos) [i] [] cpos) (eGet1 fo fi) := by
  refine E.tr ⟨pe_imp (pe_dget1 hu ho.pe hi.pe m) fun σ H Q ⟨fr, O, ρ, A, q⟩ => ?_, fun ρ => mono_bnd (ho.mo ρ) fun _ => mono_bnd (mono_gd _) fun _ => mono_bnd (hi.mo ρ) fun _ => mono_bnd (mono_dgetW _ _) fun _ => mono_ret _⟩
  refine ⟨fr, O, ρ, A, ho.mo ρ _ _ (fun d k1 x H1 e1 g1 => ?_) q⟩
  have A1 := A.ex e1
  obtain ⟨a, rfl, isd⟩ := isD_of (topd_of g1) k1.1
  refine ⟨a, rfl, isd, fr, O, ρ, A1, hi.mo ρ _ _ (fun k k2 y H2 e2 g2 => ?_) k1.2⟩
  obtain ⟨a', r, e, g, k3⟩ := dget_ok (A1.gd (g := false) e2 g1) (topd_of g2) k2
  cases e
  refine ⟨r, g, ?_⟩
  rcases k3 with ⟨rfl, k3⟩ | ⟨v, e, rfl, hv, k3⟩
  · exact k3 _ H2 (e1.trans e2) .non
  · exact k3 _ H2 (e1.trans e2) hv
/-- d.get(k, x) -/
def eGet2 (fo fi fe : Rho → Wp PyData) : Rho → Wp PyData := fun ρ => bnd (fo ρ) fun d => bnd (gd (tyD d = "dict") ()) fun _ => bnd (fi ρ) fun k => bnd (fe ρ) fun x => bnd (dgetW d k) fun r => ret (r.getD x)
theorem e_get2 {g : Bool} (hu : X.A.units + 1 < cLine) (ho : E X false o fo) (hi : E X false i fi) (he : E X true e fe) (m : M2 X o "get" apos i e cpos := by exact ⟨rfl, rfl, rfl, rfl⟩) : E X g (.Call (.Attribute o "get" apos) [i, e] [] cpos) (eGet2 fo fi fe) := by
  refine E.tr ⟨pe_imp (pe_dget2 hu ho.pe hi.pe he.pe m) fun σ H Q ⟨fr, O, ρ, A, q⟩ => ?_, fun ρ => mono_bnd (ho.mo ρ) fun _ => mono_bnd (mono_gd _) fun _ => mono_bnd (hi.mo ρ) fun _ => mono_bnd (he.mo ρ) fun _ => mono_bnd (mono_dgetW _ _) fun _ => mono_ret _⟩
  refine ⟨fr, O, ρ, A, ho.mo ρ _ _ (fun d k1 x H1 e1 g1 => ?_) q⟩
  have A1 := A.ex e1
  obtain ⟨a, rfl, isd⟩ := isD_of (topd_of g1) k1.1
  refine ⟨a, rfl, isd, fr, O, ρ, A1, hi.mo ρ _ _ (fun k k2 y H2 e2 g2 => ?_) k1.2⟩
  have A2 := A1.ex e2
  refine ⟨fr, O, ρ, A2, he.mo ρ _ _ (fun x k3 z H3 e3 g3 => ?_) k2⟩
  obtain ⟨a', r, e, g, k4⟩ := dget_ok (A2.gd (g := false) e3 (A1.gd (g := false) e2 g1)) (A2.gd (g := false) e3 g2) k3
  cases e
  refine ⟨r, g, ?_⟩
  rcases k4 with ⟨rfl, k4⟩ | ⟨v, e, rfl, hv, k4⟩
  · exact k4 _ H3 ((e1.trans e2).trans e3) g3
  · exact k4 _ H3 ((e1.trans e2).trans e3) hv
/-- d[k] -/
def eDget (fo fi : Rho → Wp PyData) : Rho → Wp PyData := fun ρ => bnd (fo ρ) fun d => bnd (fi ρ) fun k => bnd (dgetW d k) atW
theorem e_dget {g : Bool} (hu : X.A.units + 1 < cLine) (ho : E X false o fo) (hi : E X false i fi) (hs : NoSl i := by exact fun _ _ => rfl) : E X g (.Subscript o i pos) (eDget fo fi) := by
  refine E.tr ⟨pe_imp (pe_dget hu ho.pe hi.pe hs) fun σ H Q ⟨fr, O, ρ, A, q⟩ => ?_, fun ρ => mono_bnd (ho.mo ρ) fun _ => mono_bnd (hi.mo ρ) fun _ => mono_bnd (mono_dgetW _ _) fun _ => mono_atW _⟩
  refine ⟨fr, O, ρ, A, ho.mo ρ _ _ (fun d k1 x H1 e1 g1 => ?_) q⟩
  have A1 := A.ex e1
  refine ⟨fr, O, ρ, A1, hi.mo ρ _ _ (fun k k2 y H2 e2 g2 => ?_) k1⟩
  obtain ⟨a, r, rfl, g, k3⟩ := dget_ok (A1.gd (g := false) e2 g1) (topd_of g2) k2
  rcases k3 with ⟨rfl, k3⟩ | ⟨v, e, rfl, hv, k3⟩
  · exact False.elim k3
  · exact ⟨a, v, rfl, g, k3 _ H2 (e1.trans e2) hv⟩
/-- k in d -/
def eDin (neg : Bool) (fi fo : Rho → Wp PyData) : Rho → Wp PyData := fun ρ => bnd (fi ρ) fun k => bnd (fo ρ) fun d => bnd (dgetW d k) fun r => ret (.bool (if neg then !r.isSome else r.isSome))
theorem din_imp {neg : Bool} (mi : ∀ ρ, Mono (fi ρ)) (mo : ∀ ρ, Mono (fo ρ)) {σ : St} {H : Hp} {Q : VK} (q : teOf true (eDin neg fi fo) σ H Q) :
    teOf false fi σ H fun y H1 => teOf false fo σ H1 fun x H2 => ∃ a o, x = .ref a ∧ DGet H2 a y o ∧ Q (.bl (if neg then !o.isSome else o.isSome)) H2 := by
  obtain ⟨fr, O, ρ, A, q⟩ := q
  refine ⟨fr, O, ρ, A, mi ρ _ _ (fun k k1 y H1 e1 g1 => ?_) q⟩
  have A1 := A.ex e1
  refine ⟨fr, O, ρ, A1, mo ρ _ _ (fun d k2 x H2 e2 g2 => ?_) k1⟩
  obtain ⟨a, r, rfl, g, k3⟩ := dget_ok (topd_of g2) (A1.gd (g := false) e2 g1) k2
  refine ⟨a, r, rfl, g, ?_⟩
  rcases k3 with ⟨rfl, k3⟩ | ⟨v, e, rfl, hv, k3⟩
  · exact k3 _ H2 (e1.trans e2) (.bl _)
  · exact k3 _ H2 (e1.trans e2) (.bl _)
theorem mono_eDin {neg : Bool} (mi : ∀ ρ, Mono (fi ρ)) (mo : ∀ ρ, Mono (fo ρ)) (ρ : Rho) : Mono (eDin neg fi fo ρ) := mono_bnd (mi ρ) fun _ => mono_bnd (mo ρ) fun _ => mono_bnd (mono_dgetW _ _) fun _ => mono_ret _
theorem tB_of {t : TE} {f : Rho → Wp PyData} (mo : ∀ ρ, Mono (f ρ)) (h : ∀ σ H Q, teOf true f σ H Q → t σ H Q) {σ : St} {H : Hp} {Q : Bool → Hp → Prop} (q : ttOf (tT f) σ H Q) : tB t σ H Q := tt_of mo h q
theorem t_din (hu : X.A.units + 1 < cLine) (hi : E X false i fi) (ho : E X false o fo) (hb : behindInMarks .In o = false := by first | rfl | with_unfolding_all rfl) : T X (.Compare i [.In] [o] pos) (tT (eDin false fi fo)) :=
  ⟨pt_imp (pt_cmp (pc_din hu hi.pe ho.pe) hb) fun σ H Q q => tB_of (mono_eDin hi.mo ho.mo) (fun σ H Q q => din_imp hi.mo ho.mo q) q, mono_tT (mono_eDin hi.mo ho.mo)⟩
theorem t_dnotin (hu : X.A.units + 1 < cLine) (hi : E X false i fi) (ho : E X false o fo) (hb : behindInMarks .NotIn o = false := by first | rfl | with_unfolding_all rfl) : T X (.Compare i [.NotIn] [o] pos) (tT (eDin true fi fo)) :=
  ⟨pt_imp (pt_cmp (pc_dnotin hu hi.pe ho.pe) hb) fun σ H Q q => tB_of (mono_eDin hi.mo ho.mo) (fun σ H Q q => din_imp hi.mo ho.mo q) q, mono_tT (mono_eDin hi.mo ho.mo)⟩
theorem e_din {g : Bool} (hu : X.A.units + 1 < cLine) (hi : E X false i fi) (ho : E X false o fo) (hb : behindInMarks .In o = false := by first | rfl | with_unfolding_all rfl) : E X g (.Compare i [.In] [o] pos) (eDin false fi fo) :=
  E.tr ⟨pe_imp (pe_cmp (pc_din hu hi.pe ho.pe) hb) fun σ H Q q => din_imp hi.mo ho.mo q, mono_eDin hi.mo ho.mo⟩
end
/-! dicts of the def's own -/
def slD : Option Sl → Wp (List (PyData × PyData))
  | some (.dic es) => ret es
  | _ => bad
theorem mono_slD : ∀ o, Mono (slD o)
  | some (.dic _) => mono_ret _
  | none | some .un | some .pool | some (.lst _) | some (.dit _) | some (.val _) | some (.gh _ _) | some (.ptr _) => mono_bad
def slDT : Option Sl → Wp (List (PyData × PyData))
  | some (.dit es) => ret es
  | _ => bad
theorem mono_slDT : ∀ o, Mono (slDT o)
  | some (.dit _) => mono_ret _
  | none | some .un | some .pool | some (.lst _) | some (.dic _) | some (.val _) | some (.gh _ _) | some (.ptr _) => mono_bad
theorem At.dicO {fr : Fr} {O : List (Option Addr)} {σ : St} {ρ : Rho} {H : Hp} (A : At fr O σ ρ H) {i : Nat} {P : List (PyData × PyData) → Prop} (q : slD ρ[i]? P) : ∃ p vs es, ρ[i]? = some (.dic es) ∧ O[i]? = some (some p) ∧ σ[i]? = some (some (.ref p)) ∧ H p = some (.dK vs) ∧ DatK (Wd fr O) H vs es ∧ P es := by
  cases h : ρ[i]? with
  | none => rw [h] at q; exact False.elim q
  | some s =>
    rw [h] at q
    obtain ⟨o, x, h1, h2, h3⟩ := A.sl.get h
    cases h3 with
    | val _ => exact False.elim q
    | un => exact False.elim q
    | pool _ => exact False.elim q
    | lst _ _ => exact False.elim q
    | dit _ _ => exact False.elim q
    | gl _ _ => exact False.elim q
    | gd _ _ => exact False.elim q
    | gt _ _ => exact False.elim q
    | ptr _ => exact False.elim q
    | dic a b => exact ⟨_, _, _, rfl, h1, h2, a, b, q⟩
theorem At.ditO {fr : Fr} {O : List (Option Addr)} {σ : St} {ρ : Rho} {H : Hp} (A : At fr O σ ρ H) {i : Nat} {P : List (PyData × PyData) → Prop} (q : slDT ρ[i]? P) : ∃ p vs es, ρ[i]? = some (.dit es) ∧ O[i]? = some (some p) ∧ σ[i]? = some (some (.ref p)) ∧ H p = some (.dT vs) ∧ DatT (Wd fr O) H vs es ∧ P es := by
  cases h : ρ[i]? with
  | none => rw [h] at q; exact False.elim q
  | some s =>
    rw [h] at q
    obtain ⟨o, x, h1, h2, h3⟩ := A.sl.get h
    cases h3 with
    | val _ => exact False.elim q
    | un => exact False.elim q
    | pool _ => exact False.elim q
    | lst _ _ => exact False.elim q
    | dic _ _ => exact False.elim q
    | gl _ _ => exact False.elim q
    | gd _ _ => exact False.elim q
    | gt _ _ => exact False.elim q
    | ptr _ => exact False.elim q
    | dit a b => exact ⟨_, _, _, rfl, h1, h2, a, b, q⟩
section
variable {fr : Fr} {O : List (Option Addr)} {σ : St} {ρ : Rho} {H H' : Hp}
/-- slot i takes a new thing of its own -/
theorem At.setOwn (A : At fr O σ ρ H) (i : Nat) {p : Addr} {s : Sl} (n : H p = none) (e : Ex fr.pl H H') (h2 : SlotAt (fun b => Wd fr O b ∨ b = p) fr.pl H' (some p) (some (.ref p)) s) : At fr (O.set i (some p)) (σ.set i (some (.ref p))) (ρ.set i s) H' := by
  have A1 := A.ex e
  have sub : ∀ q, some q ∈ O.set i (some p) → some q ∈ O ∨ q = p := fun q m => (List.mem_or_eq_of_mem_set m).imp id fun z => Option.some.inj z
  have hw : ∀ q, Wd fr (O.set i (some p)) q → Wd fr O q ∨ q = p := fun q z => z.elim (fun z => .inl (.inl z)) fun m => (sub q m).imp .inr id
  have pn : some p ∉ O := fun m => A.wd (.inr m) n
  have hw' : ∀ q, ¬ (Wd fr O q ∨ q = p) → H' q ≠ none → ¬ Wd fr (O.set i (some p)) q := fun q m _ z => m (hw q z)
  have s2 : SlotAt (Wd fr (O.set i (some p))) fr.pl H' (some p) (some (.ref p)) s := by
    cases h2 with
    | lst a b => exact .lst a (b.to hw' (fun _ _ => id) fun _ _ _ => id)
    | dic a b => exact .dic a (b.to hw' (fun _ _ => id) fun _ _ _ => id)
    | dit a b => exact .dit a (b.to hw' (fun _ _ => id) fun _ _ _ => id)
  have s3 : ∃ o, H' p = some o ∧ ∀ vs, o ≠ .tup vs := by
    cases h2 with
    | lst a b => exact ⟨_, a, by intro vs z; cases z⟩
    | dic a b => exact ⟨_, a, by intro vs z; cases z⟩
    | dit a b => exact ⟨_, a, by intro vs z; cases z⟩
  refine ⟨Slots.set s2 i (A.sl.to (fun q m hq z => (hw q z).elim m fun z => hq (by rw [z]; exact n)) (A.via (b := false) e).1 (A.via (b := false) e).2 fun q o m h => e.keep q o (fun a c z => ((A.own q m).2.1 a c z).1) h), A1.keep, A1.pool, fun q m => ?_, fun j k q hj hk => ?_, A.up, A1.st, A1.gh.set i (by cases h2 <;> rfl)⟩
  · rcases sub q m with m | rfl
    · exact A1.own q m
    · refine ⟨⟨fun u => A.wd (.inl u) n, .inr ?_⟩, fun a c z => ?_, s3⟩
      · cases z : fr.H0 q with
        | none => rfl
        | some o => exact absurd n (A.st q (by rw [z]; exact Option.some_ne_none _))
      · obtain ⟨g1, g2⟩ := pool_two (A.pool a c z).1
        exact ⟨fun z => g1 (by rw [← z]; exact n), fun z => g2 (by rw [← z]; exact n)⟩
  · rw [List.getElem?_set] at hj hk
    split at hj <;> split at hk
    · subst_vars; rfl
    · split at hj
      · cases hj
        exact absurd (List.mem_of_getElem? hk) pn
      · cases hj
    · split at hk
      · cases hk
        exact absurd (List.mem_of_getElem? hj) pn
      · cases hk
    · exact A.nd j k q hj hk
end
section
variable {X : Cx} {x : Str} {px pos spos apos : Pos} {e k : Expr} {fe fk : Rho → Wp PyData} {i : Nat}
def sDnew (i : Nat) : Rho → Wp Out := fun ρ => ret (.nx (ρ.set i (.dic [])))
def sDnewT (i : Nat) : Rho → Wp Out := fun ρ => ret (.nx (ρ.set i (.dit [])))
theorem s_dnew (i : Nat) (hN : X.N.Nodup) (hi : X.N[i]? = some x := by rfl) (hx : Loc X.env.scope x := by first | exact Or.inl rfl | exact Or.inr rfl) (hs : swapsWith (.Dict [] [] spos) (some (.Name x px)) pos.line X.env = pure false := by rfl) (hf : X.fn x = true ∨ X.env.scope.names.lookup x = some .local := by first | exact .inl rfl | exact .inr rfl) :
    S X (.Assign [.Name x px] (.Dict [] [] spos) pos) (sDnew i) := by
  refine ⟨fun Wx tkx => ps_imp (ps_set (i := i) hN hi hx pe_dnewK hs hf) fun D σ H ⟨fr, O, ρ, A, q⟩ => ?_, fun ρ => mono_ret _⟩
  exact fun p n => q _ _ _ (A.setOwn i n (Ex.new A n) (.dic upd_same .nil))
theorem s_dnewT (i : Nat) (hN : X.N.Nodup) (hi : X.N[i]? = some x := by rfl) (hx : Loc X.env.scope x := by first | exact Or.inl rfl | exact Or.inr rfl) (hs : swapsWith (.Dict [] [] spos) (some (.Name x px)) pos.line X.env = pure false := by rfl) (hf : X.fn x = true ∨ X.env.scope.names.lookup x = some .local := by first | exact .inl rfl | exact .inr rfl) :
    S X (.Assign [.Name x px] (.Dict [] [] spos) pos) (sDnewT i) := by
  refine ⟨fun Wx tkx => ps_imp (ps_set (i := i) hN hi hx pe_dnewT hs hf) fun D σ H ⟨fr, O, ρ, A, q⟩ => ?_, fun ρ => mono_ret _⟩
  exact fun p n => q _ _ _ (A.setOwn i n (Ex.new A n) (.dit upd_same .nil))
/-- name[k] = e, a dict of the def's own -/
def sPut (i : Nat) (fk fe : Rho → Wp PyData) : Rho → Wp Out := fun ρ => bnd (fe ρ) fun z => bnd (slD ρ[i]?) fun es => bnd (fk ρ) fun y => gd (es.length < sizeLine ∧ keyP y ≠ none) (.nx (ρ.set i (.dic (putP es y z))))
theorem s_put (i : Nat) (hu : X.A.units + 1 < cLine) (he : E X true e fe) (hk : E X true k fk) (hN : X.N[i]? = some x := by rfl) (hv : Vis X.env.scope x := by first | exact Or.inl rfl | exact Or.inr (Or.inl rfl) | exact Or.inr (Or.inr rfl)) (hd : (x == ("__debug__" : Str)) = false := by decide) (hcd : (x == ("__classdict__" : Str)) = false := by decide)
    (hs : swapsWith e (some (.Subscript (.Name x px) k apos)) pos.line X.env = pure false := by rfl) : S X (.Assign [.Subscript (.Name x px) k apos] e pos) (sPut i fk fe) := by
  refine ⟨fun Wx tkx => ps_imp (ps_dput hu (pe_var hN hv hd hcd) hk.pe he.pe hs) fun D σ H ⟨fr, O, ρ, A, q⟩ => ?_, fun ρ => mono_bnd (he.mo ρ) fun _ => mono_bnd (mono_slD _) fun _ => mono_bnd (hk.mo ρ) fun _ => mono_gd _⟩
  refine ⟨fr, O, ρ, A, he.mo ρ _ _ (fun z k1 v H1 e1 g1 => ?_) q⟩
  have A1 := A.ex e1
  obtain ⟨p, vs, es, h1, h2, h3, h4, h5, k1⟩ := A1.dicO k1
  refine ⟨_, h3, fr, O, ρ, A1, hk.mo ρ _ _ (fun y k2 u H2 e2 g2 => ?_) k1⟩
  have A2 := A1.ex e2
  obtain ⟨p', vs', es', f1, f2, f3, f4, f5, _⟩ := A2.dicO (i := i) (P := fun _ => True) (by rw [h1]; trivial)
  cases h1.symm.trans f1
  cases h3.symm.trans f3
  obtain ⟨⟨k3, k4⟩, k5⟩ := k2
  cases zz : keyP y with
  | none => exact absurd zz k4
  | some j =>
    have ey := keyP_ok zz
    subst ey
    rw [key_at (U := fun _ => False) (W := Wd fr O) (.of (show Dat (Wd fr O) H2 u (kD j) from g2))]
    have gv : Dat (Wd fr O) H2 v z := A1.gd (g := true) e2 g1
    refine ⟨p, _, rfl, DPut.k f4 (by rw [datK_len f5]; exact k3), k5 _ _ _ (A2.write f2 f3 (by intro vs z; cases z) (.dic upd_same ?_))⟩
    have w : Wd fr O p := .inr (List.mem_of_getElem? f2)
    exact (put_k f5 gv).to (fun _ n _ => n) (fun q vs h => by rw [upd_ne (ne_of h f4 (by intro z; cases z))]; exact h) fun q o n h => by rw [upd_ne (fun z => n (by rw [z]; exact w))]; exact h
/-- .. whose keys are tuples -/
def sPutT (i : Nat) (fk fe : Rho → Wp PyData) : Rho → Wp Out := fun ρ => bnd (fe ρ) fun z => bnd (slDT ρ[i]?) fun es => bnd (fk ρ) fun y Q => ∃ ks, y = .tuple ks ∧ es.length < sizeLine ∧ keysP ks ≠ none ∧ Q (.nx (ρ.set i (.dit (putP es y z))))
theorem s_putT (i : Nat) (hu : X.A.units + 1 < cLine) (he : E X true e fe) (hk : E X true k fk) (hN : X.N[i]? = some x := by rfl) (hv : Vis X.env.scope x := by first | exact Or.inl rfl | exact Or.inr (Or.inl rfl) | exact Or.inr (Or.inr rfl)) (hd : (x == ("__debug__" : Str)) = false := by decide) (hcd : (x == ("__classdict__" : Str)) = false := by decide)
    (hs : swapsWith e (some (.Subscript (.Name x px) k apos)) pos.line X.env = pure false := by rfl) : S X (.Assign [.Subscript (.Name x px) k apos] e pos) (sPutT i fk fe) := by
  refine ⟨fun Wx tkx => ps_imp (ps_dput hu (pe_var hN hv hd hcd) hk.pe he.pe hs) fun D σ H ⟨fr, O, ρ, A, q⟩ => ?_, fun ρ => mono_bnd (he.mo ρ) fun _ => mono_bnd (mono_slDT _) fun _ => mono_bnd (hk.mo ρ) fun _ P P' h ⟨ks, a, b, c, d⟩ => ⟨ks, a, b, c, h _ d⟩⟩
  refine ⟨fr, O, ρ, A, he.mo ρ _ _ (fun z k1 v H1 e1 g1 => ?_) q⟩
  have A1 := A.ex e1
  obtain ⟨p, vs, es, h1, h2, h3, h4, h5, k1⟩ := A1.ditO k1
  refine ⟨_, h3, fr, O, ρ, A1, hk.mo ρ _ _ (fun y k2 u H2 e2 g2 => ?_) k1⟩
  have A2 := A1.ex e2
  obtain ⟨p', vs', es', f1, f2, f3, f4, f5, _⟩ := A2.ditO (i := i) (P := fun _ => True) (by rw [h1]; trivial)
  cases h1.symm.trans f1
  cases h3.symm.trans f3
  obtain ⟨ks, rfl, k3, k4, k5⟩ := k2
  cases zz : keysP ks with
  | none => exact absurd zz k4
  | some j =>
    have ey := keysP_ok zz
    subst ey
    cases (show Dat (Wd fr O) H2 u _ from g2) with
    | tup a2 b2 =>
      rw [keys_at b2] at a2
      have gv : Dat (Wd fr O) H2 v z := A1.gd (g := true) e2 g1
      refine ⟨p, _, rfl, DPut.t f4 a2 (by rw [datT_len f5]; exact k3), k5 _ _ _ (A2.write f2 f3 (by intro vs z; cases z) (.dit upd_same ?_))⟩
      have w : Wd fr O p := .inr (List.mem_of_getElem? f2)
      exact (put_t f5 gv).to (fun _ n _ => n) (fun q vs h => by rw [upd_ne (ne_of h f4 (by intro z; cases z))]; exact h) fun q o n h => by rw [upd_ne (fun z => n (by rw [z]; exact w))]; exact h
end
end Lq
namespace Lq
open PySem L2
/-! ### dict comprehensions -/
def keyW (d : PyData) : Wp Key := match keyP d with
  | some k => ret k
  | none => bad
theorem mono_keyW (d : PyData) : Mono (keyW d) := by
  unfold keyW
  split
  · exact mono_ret _
  · exact mono_bad
theorem keyW_ok {d : PyData} {P : Key → Prop} (h : keyW d P) : ∃ k, d = kD k ∧ P k := by
  unfold keyW at h
  cases e : keyP d with
  | some k => rw [e] at h; exact ⟨k, keyP_ok e, h⟩
  | none => rw [e] at h; exact False.elim h
def wDc (k : PyData → Rho → Wp Rho) (t : Rho → Wp Bool) (fk fv : Rho → Wp PyData) : List PyData → Rho → List (PyData × PyData) → Wp (List (PyData × PyData))
  | [], _, es => ret es
  | d :: ds, ρ, es => bnd (k d ρ) fun ρ1 => bnd (t ρ1) fun b => if b = true then bnd (fk ρ1) fun y => bnd (fv ρ1) fun z => bnd (keyW y) fun j => wDc k t fk fv ds ρ (putP es (kD j) z) else wDc k t fk fv ds ρ es
theorem mono_wDc {k : PyData → Rho → Wp Rho} {t : Rho → Wp Bool} {fk fv : Rho → Wp PyData} (hk : ∀ d ρ, Mono (k d ρ)) (ht : ∀ ρ, Mono (t ρ)) (hfk : ∀ ρ, Mono (fk ρ)) (hfv : ∀ ρ, Mono (fv ρ)) : ∀ ds ρ es, Mono (wDc k t fk fv ds ρ es)
  | [], _, _ => mono_ret _
  | _ :: ds, _, _ => mono_bnd (hk _ _) fun _ => mono_bnd (ht _) fun _ => ite_mono (mono_bnd (hfk _) fun _ => mono_bnd (hfv _) fun _ => mono_bnd (mono_keyW _) fun _ => mono_wDc hk ht hfk hfv ds _ _) (mono_wDc hk ht hfk hfv ds _ _)
/-- {fk: fv for k in fi if t} -/
def fDc (fi : Rho → Wp (List PyData)) (k : PyData → Rho → Wp Rho) (t : Rho → Wp Bool) (fk fv : Rho → Wp PyData) (vs : List Nat) : Rho → Wp (List (PyData × PyData)) :=
  fun ρ => bnd (fi ρ) fun ds Q => (ds.length ≤ sizeLine ∧ noOwn ρ vs = true) ∧ wDc k t fk fv ds (wipeR ρ vs) [] Q
/-- a new dict -/
def teFD (f : Rho → Wp (List (PyData × PyData))) : TE := fun σ H Q => ∃ fr O ρ, At fr O σ ρ H ∧ f ρ fun es => ∀ p kvs H', H p = none → Ex fr.pl H H' → H' p = some (.dK kvs) → DatK (fun b => Wd fr O b ∨ b = p) H' kvs es → Q (.ref p) H'
theorem putK_len (kvs : List (Key × V)) (k : Key) (v : V) : (putK kvs k v).length ≤ kvs.length + 1 := length_putK kvs k v
theorem dc_imp {fi : Rho → Wp (List PyData)} {k : PyData → Rho → Wp Rho} {t : Rho → Wp Bool} {fk fv : Rho → Wp PyData} {vs ws : List Nat} (mi : ∀ ρ, Mono (fi ρ)) (mk : ∀ d ρ, Mono (k d ρ)) (mt : ∀ ρ, Mono (t ρ)) (mfk : ∀ ρ, Mono (fk ρ)) (mfv : ∀ ρ, Mono (fv ρ)) (hws : ∀ w ∈ ws, w ∈ vs) {σ : St} {H : Hp} {Q : VK}
    (q : teFD (fDc fi k t fk fv vs) σ H Q) : tDc (tiOf false fi) (tgOf ws k) (ttOf t) (teOf true fk) (teOf true fv) vs σ H Q := by
  obtain ⟨fr, O, ρ, A, q⟩ := q
  refine ⟨fr, O, ρ, A, mi ρ _ _ (fun ds q J H1 e1 it => ?_) q⟩
  have A1 := A.ex e1
  obtain ⟨⟨hz, hno⟩, q⟩ := q
  intro D nD
  obtain ⟨Gd, Y, w, hG, hY⟩ := it.ex
  have nD0 : H D = none := by
    cases z : H D with
    | none => rfl
    | some o => exact absurd nD (e1.there D (by rw [z]; exact Option.some_ne_none _))
  have Dpool : ∀ a c, fr.pl = some (a, c) → D ≠ a ∧ D ≠ c := fun a c e => by
    obtain ⟨h1, h2⟩ := pool_two (A1.pool a c e).1
    exact ⟨fun z => h1 (by rw [← z]; exact nD), fun z => h2 (by rw [← z]; exact nD)⟩
  refine Cr.dc_it w (fun i H' => ∃ acc es, H' D = some (.dK acc) ∧ acc.length ≤ i ∧ DatK (fun b => Wd fr O b ∨ b = D) H' acc es ∧ Ex fr.pl H1 H' ∧
      wDc k t fk fv (ds.drop i) (wipeR ρ vs) es fun zs => ∀ p kvs H', H p = none → Ex fr.pl H H' → H' p = some (.dK kvs) → DatK (fun b => Wd fr O b ∨ b = p) H' kvs zs → Q (.ref p) H')
    ⟨[], [], upd_same, Nat.le_refl _, .nil, Ex.new A1 nD, q⟩ (fun i H' _ p => ?_) (fun i x H' Hb hi p y => ?_) (fun H' p => ?_)
  · obtain ⟨acc, es, p1, p2, p3, p4, p5⟩ := p
    exact hG H' p4
  · obtain ⟨acc, es, p1, p2, p3, p4, p5⟩ := p
    let fr2 : Fr := ⟨fun b => fr.U b ∨ b = D, fun b => some b ∈ O ∨ ∃ c, fr.pl = some (b, c), fr.pl, Hb, fr.gh⟩
    have hW : ∀ q, ¬ Wd fr O q → H1 q ≠ none → ¬ Wd fr2 O q := fun q n h z => by
      rcases z with (z | z) | z
      · exact n (.inl z)
      · exact h (by rw [z]; exact nD)
      · exact n (.inr z)
    obtain ⟨sm, d, hd, hx⟩ := hY i H' x Hb (Wd fr2 O) hi p4 hW y
    have A2 := A1.ex p4
    have A3 := A2.ex (A2.same sm)
    have pb : Hb D = some (.dK acc) := sm _ _ p1
    have e14 : Ex fr.pl H1 Hb := p4.trans (A2.same sm)
    obtain ⟨v1, v2⟩ := A1.via (b := false) (H' := Hb) e14
    have B : At fr2 O (L2.wipe σ vs) (wipeR ρ vs) Hb := by
      refine ⟨Slots.wipe (A1.sl.to hW v1 v2 fun p o m h => e14.keep p o (fun a c z => ((A1.own p m).2.1 a c z).1) h) vs hno, fun _ _ _ h => h, fun a c e => ⟨e14.pool a c e, .inr ⟨c, e⟩, .inl (A1.pool a c e).2.2⟩, fun p m => ?_, A1.nd, fun b u => ?_, fun _ h => h, A1.gh.wipe vs⟩
      · refine ⟨⟨fun u => u.elim (A1.own p m).1.1 fun e => ?_, .inl (.inl m)⟩, (A3.own p m).2⟩
        exact A1.wd (.inr m) (by rw [e]; exact nD)
      · rcases u with u | u
        · exact e14.there b (A1.wd (.inl u))
        · show Hb b ≠ none
          rw [u, pb]; exact Option.some_ne_none _
    have e : ds.drop i = d :: ds.drop (i + 1) := by
      obtain ⟨h1, h2⟩ := List.getElem?_eq_some_iff.mp hd
      rw [List.drop_eq_getElem_cons hi, h2]
    rw [e] at p5
    refine ⟨fr2, O, _, d, B, hx, mk _ _ _ _ (fun ρ1 k1 σ1 O1 ag B1 => ?_) p5⟩
    refine ⟨wipe_agree ag hws, fr2, O1, ρ1, B1, mt _ _ _ (fun b k2 H3 e3 => ?_) k1⟩
    have B2 := B1.ex e3
    have kD' : ∀ {Ha Hb' : Hp}, Ex fr.pl Ha Hb' → Ha D = some (.dK acc) → Hb' D = some (.dK acc) := fun ex h => ex.keep D _ (fun a c z => (Dpool a c z).1) h
    have WD : ∀ a c, fr.pl = some (a, c) → (Wd fr O a ∨ a = D) := fun a c z => .inl (.inl (A1.pool a c z).2.2)
    have dEx : ∀ {Ha Hb' : Hp}, Ex fr.pl Ha Hb' → Ex fr.pl H1 Ha → DatK (fun b => Wd fr O b ∨ b = D) Ha acc es → DatK (fun b => Wd fr O b ∨ b = D) Hb' acc es := fun {Ha Hb'} ex e0 h => h.to (fun _ n _ => n) (fun q vs h => ex.keep q _ (fun a c z => by
      obtain ⟨us, hu⟩ := pool_obj (e0.pool a c z)
      exact ne_of h hu (by intro y; cases y)) h) fun q o n h => ex.keep q o (fun a c z y => n (by rw [y]; exact WD a c z)) h
    have q3 : H3 D = some (.dK acc) := kD' e3 pb
    have d3 : DatK (fun b => Wd fr O b ∨ b = D) H3 acc es := dEx e3 e14 (p3.to (fun _ n _ => n) (fun q vs => sm q _) fun q o _ => sm q o)
    have e13 : Ex fr.pl H1 H3 := e14.trans e3
    have hlt : acc.length < sizeLine := by omega
    cases b with
    | true =>
      have k2 : bnd (fk ρ1) _ _ := k2
      refine iteT ⟨fr2, O1, ρ1, B2, mfk _ _ _ (fun yd k3 v H4 e4 g4 => ?_) k2⟩
      have B3 := B2.ex e4
      refine ⟨fr2, O1, ρ1, B3, mfv _ _ _ (fun zd k4 u H5 e5 g5 => ?_) k3⟩
      obtain ⟨j, rfl, k5⟩ := keyW_ok k4
      have q5 : H5 D = some (.dK acc) := kD' e5 (kD' e4 q3)
      have d5 : DatK (fun b => Wd fr O b ∨ b = D) H5 acc es := dEx e5 (e13.trans e4) (dEx e4 e13 d3)
      have e15 : Ex fr.pl H1 H5 := (e13.trans e4).trans e5
      have dv : Dat (fun b => Wd fr O b ∨ b = D) H5 u zd := (show Dat (Wd fr2 O1) H5 u zd from g5).to (fun q n _ z => by
        rcases z with (z | z) | z
        · exact n (.inl (.inl z))
        · obtain ⟨j, hj⟩ := List.mem_iff_getElem?.mp z
          have m := own_out A1.sl hno hj
          exact n (.inr (List.mem_of_getElem? ((ag.oeq j fun w => m (hws j w)).trans hj)))
        · exact n (.inl (.inr z))) (fun _ _ => id) fun _ _ _ => id
      have ey := key_at (U := fun _ => False) (.of (show Dat (Wd fr2 O1) H4 v (Lq.kD j) from g4))
      refine ⟨acc, j, ey, q5, hlt, putK acc j u, putP es (Lq.kD j) zd, upd_same, Nat.le_trans (putK_len _ _ _) (Nat.succ_le_succ p2), ?_, ?_, k5⟩
      · exact (put_k d5 dv).to (fun _ n _ => n) (fun q vs h => by rw [upd_ne (ne_of h q5 (by intro z; cases z))]; exact h) fun q o n h => by rw [upd_ne (fun z => n (.inr z))]; exact h
      · refine ⟨fun b o n h => ?_, fun a c z => pool_up (e15.pool a c z) (Dpool a c z).1 (Dpool a c z).2, fun b h => ?_⟩
        · rw [upd_ne (ne_of_none h nD)]; exact e15.keep b o n h
        · by_cases z : b = D
          · rw [z, upd_same]; exact Option.some_ne_none _
          · rw [upd_ne z]; exact e15.there b h
    | false =>
      have k2 : wDc k t fk fv (ds.drop (i + 1)) (wipeR ρ vs) es _ := k2
      exact iteF ⟨acc, es, q3, by omega, d3, e13, k2⟩
  · obtain ⟨acc, es, p1, p2, p3, p4, p5⟩ := p
    rw [List.drop_length] at p5
    exact (show ∀ p kvs H', _ from p5) D acc H' nD0 (e1.trans p4) p1 p3
def eD (f : Rho → Wp (List (PyData × PyData))) : Rho → Wp PyData := fun ρ => bnd (f ρ) fun es => ret (.dict es)
section
variable {X : Cx} {kx vx tg iter : Expr} {ifs : List Expr} {scope : Scope} {own : List (Str × Nat)} {pos : Pos} {fi : Rho → Wp (List PyData)} {k : PyData → Rho → Wp Rho} {t : Rho → Wp Bool} {fk fv : Rho → Wp PyData} {ws : List Nat}
theorem tefd_of {f : Rho → Wp (List (PyData × PyData))} (mo : ∀ ρ, Mono (f ρ)) {σ : St} {H : Hp} {Q : VK} (q : teOf true (eD f) σ H Q) : teFD f σ H Q := by
  obtain ⟨fr, O, ρ, A, q⟩ := q
  refine ⟨fr, O, ρ, A, mo ρ _ _ (fun ds k p vs H1 n e1 h1 h2 => k _ H1 e1 ?_) q⟩
  exact Dat.dic (fun w => A.wd w n) (.inl h1) (h2.to (fun q n _ w => n (.inl w)) (fun _ _ => id) fun _ _ _ => id)
theorem mono_fDc {vs : List Nat} (mi : ∀ ρ, Mono (fi ρ)) (mk : ∀ d ρ, Mono (k d ρ)) (mt : ∀ ρ, Mono (t ρ)) (mfk : ∀ ρ, Mono (fk ρ)) (mfv : ∀ ρ, Mono (fv ρ)) (ρ : Rho) : Mono (fDc fi k t fk fv vs ρ) := mono_bnd (mi ρ) fun _ _ _ h q => ⟨q.1, mono_wDc mk mt mfk mfv _ _ _ _ _ h q.2⟩
theorem e_dc {g : Bool} (hc : X.calm = true) (hN : X.N.Nodup) (hi : I X false tg iter fi) (ok : BlkOk X.N X.env.scope scope own) (hg : ∀ (s : Shared) (H : Hp) (C : Addr) (cl : List (Str × Addr)) (fp : List Addr), G (X.blk s H scope (compEnvC scope cl C X.env) fp) ws tg k)
    (ht : ∀ (s : Shared) (H : Hp) (C : Addr) (cl : List (Str × Addr)) (fp : List Addr), TTs (X.blk s H scope (compEnvC scope cl C X.env) fp) ifs t) (hk : ∀ (s : Shared) (H : Hp) (C : Addr) (cl : List (Str × Addr)) (fp : List Addr), E (X.blk s H scope (compEnvC scope cl C X.env) fp) true kx fk)
    (hv : ∀ (s : Shared) (H : Hp) (C : Addr) (cl : List (Str × Addr)) (fp : List Addr), E (X.blk s H scope (compEnvC scope cl C X.env) fp) true vx fv)
    (hws : ∀ w ∈ ws, w ∈ own.map (·.2) := by decide) (hs : ∀ x, foldedSetIterable iter X.env x = pure x := by intro _; rfl) : E X g (.DictComp kx vx [⟨tg, iter, ifs, 0⟩] scope pos) (eD (fDc fi k t fk fv (own.map (·.2)))) := by
  have mk := (hg X.s_0 X.H_0 0 [] []).mo
  have mt := (ht X.s_0 X.H_0 0 [] []).mo
  have mfk := (hk X.s_0 X.H_0 0 [] []).mo
  have mfv := (hv X.s_0 X.H_0 0 [] []).mo
  have m := mono_fDc (vs := own.map (·.2)) hi.mo mk mt mfk mfv
  exact E.tr ⟨pe_imp (pe_dc hc hN hi.pi ok (fun s H C cl fp => (hg s H C cl fp).pg) (fun s H C cl fp => (ht s H C cl fp).pt) (fun s H C cl fp => (hk s H C cl fp).pe) (fun s H C cl fp => (hv s H C cl fp).pe) hs) fun σ H Q q => dc_imp hi.mo mk mt mfk mfv hws (tefd_of m q), fun ρ => mono_bnd (m ρ) fun _ => mono_ret _⟩
theorem s_setDc {i : Nat} {y : Str} {py spos : Pos} (hc : X.calm = true) (hN : X.N.Nodup) (hi : I X false tg iter fi) (ok : BlkOk X.N X.env.scope scope own) (hg : ∀ (s : Shared) (H : Hp) (C : Addr) (cl : List (Str × Addr)) (fp : List Addr), G (X.blk s H scope (compEnvC scope cl C X.env) fp) ws tg k)
    (ht : ∀ (s : Shared) (H : Hp) (C : Addr) (cl : List (Str × Addr)) (fp : List Addr), TTs (X.blk s H scope (compEnvC scope cl C X.env) fp) ifs t) (hk : ∀ (s : Shared) (H : Hp) (C : Addr) (cl : List (Str × Addr)) (fp : List Addr), E (X.blk s H scope (compEnvC scope cl C X.env) fp) true kx fk)
    (hv : ∀ (s : Shared) (H : Hp) (C : Addr) (cl : List (Str × Addr)) (fp : List Addr), E (X.blk s H scope (compEnvC scope cl C X.env) fp) true vx fv)
    (hy : X.N[i]? = some y := by rfl) (hyl : X.env.scope.names.lookup y = some .local := by rfl) (hsw : swapsWith (.DictComp kx vx [⟨tg, iter, ifs, 0⟩] scope pos) (some (.Name y py)) spos.line X.env = pure true := by exact Cr.sw_dict rfl rfl rfl (by decide +kernel))
    (hws : ∀ w ∈ ws, w ∈ own.map (·.2) := by decide) (hs : ∀ x, foldedSetIterable iter X.env x = pure x := by intro _; rfl) : S X (.Assign [.Name y py] (.DictComp kx vx [⟨tg, iter, ifs, 0⟩] scope pos) spos) (sSet (gN i) (eD (fDc fi k t fk fv (own.map (·.2))))) := by
  have mk := (hg X.s_0 X.H_0 0 [] []).mo
  have mt := (ht X.s_0 X.H_0 0 [] []).mo
  have mfk := (hk X.s_0 X.H_0 0 [] []).mo
  have mfv := (hv X.s_0 X.H_0 0 [] []).mo
  have m := mono_fDc (vs := own.map (·.2)) hi.mo mk mt mfk mfv
  refine ⟨fun Wx tkx => ps_imp (Cr.ps_setDc (i := i) hc hN hy hyl hsw hi.pi ok (fun s H C cl fp => (hg s H C cl fp).pg) (fun s H C cl fp => (ht s H C cl fp).pt) (fun s H C cl fp => (hk s H C cl fp).pe) (fun s H C cl fp => (hv s H C cl fp).pe) hs) fun D σ H ⟨fr, O, ρ, A, q⟩ => ?_, fun ρ => mono_bnd (mono_bnd (m ρ) fun _ => mono_ret _) fun _ => mono_bnd (mono_ret _) fun _ => mono_ret _⟩
  refine dc_imp hi.mo mk mt mfk mfv hws (tefd_of m ⟨fr, O, ρ, A, ?_⟩)
  exact mono_bnd (m ρ) (fun _ => mono_ret _) _ _ (fun d k1 v H1 e1 g1 => k1 _ _ H1 ((A.ex e1).setVal i g1)) q
end
/-! ### more on own lists -/
section
variable {X : Cx} {x : Str} {px pos spos apos : Pos} {e : Expr} {i : Nat}
/-- list(e) -/
def lList (f : Rho → Wp PyData) : Rho → Wp (List PyData) := fun ρ => bnd (f ρ) items
theorem f_list {f : Rho → Wp PyData} (h : E X false e f) (hm : X.mg "list" = none) (hg : Gl X "list" := by rfl) (he : starEach [e] X.env = (false, eval e X.env) :: starEach [] X.env := by rfl) (hpl : (backTo pos (starEach [] X.env)).any (·.1) = false := by rfl) : EF X (.Call (.Name "list" px) [e] [] pos) (lList f) := by
  refine ⟨pe_imp (pe_callTy call_list_of hg hm (by decide +kernel) (pa_cons h.pe pa_nil he) (by decide) (by decide) he hpl) fun σ H Q ⟨fr, O, ρ, A, q⟩ => ?_, fun ρ => mono_bnd (h.mo ρ) mono_items⟩
  refine ⟨fr, O, ρ, A, h.mo ρ _ _ (fun d k v H1 e1 g1 => ?_) q⟩
  have A1 := A.ex e1
  have nn : ∀ {l}, H1 l = none → H l = none := fun {l} n => by
    cases z : H l with
    | none => rfl
    | some o => exact absurd n (e1.there l (by rw [z]; exact Option.some_ne_none _))
  have go : ∀ {vs : List V} {ds : List PyData} {l : Addr}, Dats (Wd fr O) H1 vs ds → H1 l = none → Dats (fun b => Wd fr O b ∨ b = l) (upd H1 l (.lst vs)) vs ds := fun {vs ds l} b n =>
    b.to (fun q n' h z => z.elim n' fun e => h (by rw [e]; exact n)) (fun q vs h => by rw [upd_ne (ne_of_none h n)]; exact h) fun q o _ h => by rw [upd_ne (ne_of_none h n)]; exact h
  unfold items at k
  split at k
  · obtain ⟨p, vs, rfl, a, b⟩ := (topd_of g1).tup
    exact ⟨p, vs, rfl, .inr (SqT.of a), fun l n => k l _ _ (nn n) (e1.trans (Ex.new A1 n)) upd_same (go b n)⟩
  · obtain ⟨p, vs, rfl, a, b⟩ := (topd_of g1).list
    exact ⟨p, vs, rfl, .inl (SqL.of a), fun l n => k l _ _ (nn n) (e1.trans (Ex.new A1 n)) upd_same (go b n)⟩
  · exact False.elim k
/-- tg = name.pop() -/
def sPop (i : Nat) (k : PyData → Rho → Wp Rho) : Rho → Wp Out := fun ρ => bnd (slL ρ[i]?) fun ds => bnd (atW ds.getLast?) fun d => bnd (k d (ρ.set i (.lst ds.dropLast))) fun ρ' => ret (.nx ρ')
theorem last_of {W : Addr → Prop} {H : Hp} {vs : List V} {ds : List PyData} {d : PyData} (h : Dats W H vs ds) (e : ds.getLast? = some d) : ∃ v, vs[vs.length - 1]? = some v ∧ Dat W H v d := by
  rw [List.getLast?_eq_getElem?] at e
  rw [h.length]
  exact h.get e
theorem Dats.dropLast {W : Addr → Prop} {H : Hp} {vs : List V} {ds : List PyData} (h : Dats W H vs ds) : Dats W H vs.dropLast ds.dropLast := by
  rw [List.dropLast_eq_take, List.dropLast_eq_take, h.length]
  exact h.take _
theorem s_pop (i : Nat) {ws : List Nat} {tg : Expr} {k : PyData → Rho → Wp Rho} (g : G X ws tg k) (hN : X.N[i]? = some x := by rfl) (hv : Vis X.env.scope x := by first | exact Or.inl rfl | exact Or.inr (Or.inl rfl) | exact Or.inr (Or.inr rfl)) (hd : (x == ("__debug__" : Str)) = false := by decide) (hcd : (x == ("__classdict__" : Str)) = false := by decide)
    (hbase : attributeBase (.Name x px) "pop" X.env (eval (.Name x px) X.env) = eval (.Name x px) X.env := by rfl) (hline : (apos.endLine == pos.line) = true := by rfl)
    (hs : swapsWithSole [tg] (.Call (.Attribute (.Name x px) "pop" apos) [] [] pos) spos.line X.env = pure false := by rfl) (hw : swappedStores [tg] (.Call (.Attribute (.Name x px) "pop" apos) [] [] pos) X.env = pure none := by rfl) (h1 : (assignEach [tg] X.env).map (·.2) = [assign tg X.env] := by rfl) :
    S X (.Assign [tg] (.Call (.Attribute (.Name x px) "pop" apos) [] [] pos) spos) (sPop i k) := by
  refine ⟨fun Wx tkx => ps_imp (ps_asg (pe_bm0 PySem.F.plainAttrs_list PySem.F.slot_list_pop PySem.F.type_list_pop mt_pop (pe_var hN hv hd hcd) hbase hline) g.pg hs hw h1) fun D σ H ⟨fr, O, ρ, A, q⟩ => ?_, fun ρ => mono_bnd (mono_slL _) fun _ => mono_bnd (mono_atW _) fun _ => mono_bnd (g.mo _ _) fun _ => mono_ret _⟩
  obtain ⟨p, vs, ds, h1, h2, h3, h4, h5, q⟩ := A.list q
  obtain ⟨d, e, q⟩ := atW_ok q
  obtain ⟨v, f1, f2⟩ := last_of h5 e
  have w : Wd fr O p := .inr (List.mem_of_getElem? h2)
  have mv : ∀ {u : V} {c : PyData}, Dat (Wd fr O) H u c → Dat (Wd fr O) (upd H p (.lst vs.dropLast)) u c := fun h =>
    h.to (fun _ n _ => n) (fun q vs h => by rw [upd_ne (ne_of h h4 (by intro z; cases z))]; exact h) fun q o n h => by rw [upd_ne (fun z => n (by rw [z]; exact w))]; exact h
  have mvs : ∀ {u : List V} {c : List PyData}, Dats (Wd fr O) H u c → Dats (Wd fr O) (upd H p (.lst vs.dropLast)) u c := fun h =>
    h.to (fun _ n _ => n) (fun q vs h => by rw [upd_ne (ne_of h h4 (by intro z; cases z))]; exact h) fun q o n h => by rw [upd_ne (fun z => n (by rw [z]; exact w))]; exact h
  refine ⟨_, h3, .inl ⟨rfl, _, SqL.of h4⟩, p, vs, v, rfl, rfl, h4, f1, ?_⟩
  exact ⟨fr, O, _, d, A.write h2 h3 (by intro vs z; cases z) (.lst upd_same (mvs h5.dropLast)), mv f2, g.mo _ _ _ _ (fun ρ1 k1 σ1 O1 _ A1 => k1 σ1 O1 _ A1) q⟩
/-- name.extend(e) -/
def sExt (i : Nat) (f : Rho → Wp PyData) : Rho → Wp Out := fun ρ => bnd (slL ρ[i]?) fun ds => bnd (f ρ) fun d => bnd (items d) fun es => gd (ds.length + es.length ≤ sizeLine) (.nx (ρ.set i (.lst (ds ++ es))))
theorem s_extend (i : Nat) {f : Rho → Wp PyData} (h : E X true e f) (hN : X.N[i]? = some x := by rfl) (hv : Vis X.env.scope x := by first | exact Or.inl rfl | exact Or.inr (Or.inl rfl) | exact Or.inr (Or.inr rfl)) (hd : (x == ("__debug__" : Str)) = false := by decide) (hcd : (x == ("__classdict__" : Str)) = false := by decide)
    (hbase : attributeBase (.Name x px) "extend" X.env (eval (.Name x px) X.env) = eval (.Name x px) X.env := by rfl)
    (hfew : ((backTo pos (starEach [e] X.env)).all (fun x => !x.1) && (backToKw pos (keywordEach [] X.env)).all (fun x => x.1.isSome) && decide (([e] : List Expr).length + ([] : List Keyword).length + (if ([] : List Keyword).isEmpty then 0 else 1) < 30)) = true := by rfl)
    (hline : (apos.endLine == pos.line) = true := by rfl) (hs : starEach [e] X.env = (false, eval e X.env) :: starEach [] X.env := by rfl) (hpl : (backTo pos (starEach [] X.env)).any (·.1) = false := by rfl)
    (hsw : swapsWith (.Call (.Attribute (.Name x px) "extend" apos) [e] [] pos) none spos.line X.env = pure false := by rfl) : S X (.Expr (.Call (.Attribute (.Name x px) "extend" apos) [e] [] pos) spos) (sExt i f) := by
  have or : MtR X "list.extend" _ := MtR.or mt_extend Cr.mt_extT
  refine ⟨fun Wx tkx => ps_imp (ps_expr (pe_bm PySem.F.plainAttrs_list PySem.F.slot_list_extend PySem.F.type_list_extend or (pe_var hN hv hd hcd) (pa_cons h.pe pa_nil hs) hbase hfew hline hs hpl) hsw) fun D σ H ⟨fr, O, ρ, A, q⟩ => ?_, fun ρ => mono_bnd (mono_slL _) fun _ => mono_bnd (h.mo ρ) fun _ => mono_bnd (mono_items _) fun _ => mono_gd _⟩
  obtain ⟨p, vs, ds, h1, h2, h3, h4, h5, q⟩ := A.list q
  refine ⟨_, h3, .inl ⟨rfl, _, SqL.of h4⟩, fr, O, ρ, A, h.mo ρ _ _ (fun d k v H1 e1 g1 => ?_) q⟩
  have A1 := A.ex e1
  obtain ⟨p', vs', ds', f1, f2, f3, f4, f5, _⟩ := A1.list (i := i) (P := fun _ => True) (by rw [h1]; trivial)
  cases h1.symm.trans f1
  cases h3.symm.trans f3
  have w : Wd fr O p := .inr (List.mem_of_getElem? f2)
  have fin : ∀ {us : List V} {es : List PyData}, Dats (Wd fr O) H1 us es → gd (ds.length + es.length ≤ sizeLine) (Out.nx (ρ.set i (.lst (ds ++ es)))) (endOf (X.mg, Wx) fr D) → vs'.length + us.length ≤ sizeLine ∧ D.nx σ (upd H1 p (.lst (vs' ++ us))) := fun {us es} b k => by
    refine ⟨by rw [f5.length, b.length]; exact k.1, k.2 _ _ _ (A1.write f2 f3 (by intro vs z; cases z) (.lst upd_same ?_))⟩
    exact (f5.append b).to (fun _ n _ => n) (fun q vs h => by rw [upd_ne (ne_of h f4 (by intro z; cases z))]; exact h) fun q o n h => by rw [upd_ne (fun z => n (by rw [z]; exact w))]; exact h
  have k : items d (fun es => gd (ds.length + es.length ≤ sizeLine) (Out.nx (ρ.set i (.lst (ds ++ es)))) (endOf (X.mg, Wx) fr D)) := k
  unfold items at k
  split at k
  · cases (show Dat (Wd fr O) H1 v _ from g1) with
    | tup a b => exact .inr ⟨p, _, vs', _, rfl, rfl, f4, a, fin b k⟩
  · cases (show Dat (Wd fr O) H1 v _ from g1) with
    | lst n a b => exact .inl ⟨p, _, vs', _, rfl, rfl, f4, a, fin b k⟩
  · exact False.elim k
/-- name[k] = e, a list of the def's own -/
def sSetIx (i : Nat) (fk fe : Rho → Wp PyData) : Rho → Wp Out := fun ρ => bnd (fe ρ) fun z => bnd (slL ρ[i]?) fun ds => bnd (fk ρ) fun y => bnd (atW (match y with
  | .int n => ixN ds.length n
  | _ => none)) fun j => ret (.nx (ρ.set i (.lst (ds.set j z))))
theorem s_setIx (i : Nat) {k : Expr} {fe fk : Rho → Wp PyData} (he : E X true e fe) (hk : E X true k fk) (hN : X.N[i]? = some x := by rfl) (hv : Vis X.env.scope x := by first | exact Or.inl rfl | exact Or.inr (Or.inl rfl) | exact Or.inr (Or.inr rfl)) (hd : (x == ("__debug__" : Str)) = false := by decide) (hcd : (x == ("__classdict__" : Str)) = false := by decide)
    (hg : ∀ (to ti : TE), PE X (.Name x px) to → PE X k ti → PG X (.Subscript (.Name x px) k apos) (gSub to ti rSetL)) (hs : swapsWithSole [.Subscript (.Name x px) k apos] e pos.line X.env = pure false := by rfl) (hw : swappedStores [.Subscript (.Name x px) k apos] e X.env = pure none := by rfl) (h1 : (assignEach [.Subscript (.Name x px) k apos] X.env).map (·.2) = [assign (.Subscript (.Name x px) k apos) X.env] := by rfl) :
    S X (.Assign [.Subscript (.Name x px) k apos] e pos) (sSetIx i fk fe) := by
  refine ⟨fun Wx tkx => ps_imp (ps_asg he.pe (hg _ _ (pe_var hN hv hd hcd) hk.pe) hs hw h1) fun D σ H ⟨fr, O, ρ, A, q⟩ => ?_, fun ρ => mono_bnd (he.mo ρ) fun _ => mono_bnd (mono_slL _) fun _ => mono_bnd (hk.mo ρ) fun _ => mono_bnd (mono_atW _) fun _ => mono_ret _⟩
  refine ⟨fr, O, ρ, A, he.mo ρ _ _ (fun z k1 v H1 e1 g1 => ?_) q⟩
  have A1 := A.ex e1
  obtain ⟨p, vs, ds, h1, h2, h3, h4, h5, k1⟩ := A1.list k1
  refine ⟨_, h3, fr, O, ρ, A1, hk.mo ρ _ _ (fun y k2 u H2 e2 g2 => ?_) k1⟩
  have A2 := A1.ex e2
  obtain ⟨p', vs', ds', f1, f2, f3, f4, f5, _⟩ := A2.list (i := i) (P := fun _ => True) (by rw [h1]; trivial)
  cases h1.symm.trans f1
  cases h3.symm.trans f3
  obtain ⟨j, hj, k3⟩ := atW_ok k2
  have w : Wd fr O p := .inr (List.mem_of_getElem? f2)
  have gv : Dat (Wd fr O) H2 v z := A1.gd (g := true) e2 g1
  cases y with
  | int n =>
    cases (show Dat (Wd fr O) H2 u _ from g2)
    refine ⟨p, vs', n, j, rfl, rfl, f4, by rw [f5.length]; exact hj, k3 _ _ _ (A2.write f2 f3 (by intro vs z; cases z) (.lst upd_same ?_))⟩
    exact (f5.set gv j).to (fun _ n _ => n) (fun q vs h => by rw [upd_ne (ne_of h f4 (by intro z; cases z))]; exact h) fun q o n h => by rw [upd_ne (fun z => n (by rw [z]; exact w))]; exact h
  | none => cases hj
  | bool _ => cases hj
  | str _ => cases hj
  | list _ => cases hj
  | tuple _ => cases hj
  | dict _ => cases hj
end
/-! ### -a, a ** b -/
section
variable {X : Cx} {a : Expr} {f : Rho → Wp PyData} {pos : Pos}
def negQ : PyData → Wp PyData
  | .int i => ret (.int (-i))
  | _ => bad
def eNeg (f : Rho → Wp PyData) : Rho → Wp PyData := fun ρ => bnd (f ρ) negQ
theorem mono_negQ (d : PyData) : Mono (negQ d) := by
  unfold negQ
  split
  · exact mono_ret _
  · exact mono_bad
theorem e_neg {g : Bool} (h : E X false a f) : E X g (.UnaryOp .USub a pos) (eNeg f) := by
  refine E.tr ⟨pe_imp (pe_un un_neg h.pe) fun σ H Q ⟨fr, O, ρ, A, q⟩ => ?_, fun ρ => mono_bnd (h.mo ρ) mono_negQ⟩
  refine ⟨fr, O, ρ, A, h.mo ρ _ _ (fun d k v H1 e1 g1 => ?_) q⟩
  unfold negQ at k
  split at k
  · cases (topd_of g1).int
    exact ⟨_, rfl, k _ H1 e1 (.int _)⟩
  · exact False.elim k
def powQ : PyData → PyData → Wp PyData
  | .int i, .int j => gd (CPow i j) (.int (i ^ j.toNat))
  | _, _ => bad
theorem q_pow : OpQ X (binaryOp .Pow) powQ := q_ii op_pow (h := fun i j => .int (i ^ j.toNat)) (fun d e P q => by
  unfold powQ at q
  split at q
  · exact ⟨_, _, rfl, rfl, q⟩
  · exact q.elim) (fun d e => by
  unfold powQ
  split
  · exact mono_gd _
  · exact mono_bad) fun _ _ _ _ => .int _
end
end Lq
namespace Lq
open PySem L2
/-! ### the frame of a law -/
def tPool (K : PySem.W.Frag) (i : Nat) : TS := fun D σ H => ∃ (a : Addr) (ns : List Int), σ[0]? = some (some (.ref a)) ∧ SqL K H a (ns.map V.int) ∧ ns.length ≤ 63 ∧ ∀ (p c : Addr) (H' : Hp), Cf.PoolAt H' p c → D.nx (σ.set i (some (.ref p))) H'
section
variable {X : Cx}
theorem s_pool (i : Nat) {j : Nat} {x y z : Str} {px p q pos spos : Pos} (C : Cf.At X.prog X.w X.K X.mg X.base x j ["script"] (Cf.spPool X.K)) (hr : Room j X.A) (hN : X.N.Nodup) (h0 : X.N[0]? = some z := by rfl) (hi : X.N[i]? = some y := by rfl) (hx : Loc X.env.scope y := by first | exact Or.inl rfl | exact Or.inr rfl)
    (hv : Vis X.env.scope z := by first | exact Or.inl rfl | exact Or.inr (Or.inl rfl) | exact Or.inr (Or.inr rfl)) (hg : Gl X x := by rfl) (hd : (z == ("__debug__" : Str)) = false := by decide) (hcd : (z == ("__classdict__" : Str)) = false := by decide) (hdb : (x == ("__debug__" : Str)) = false := by decide)
    (he : starEach [.Name z q] X.env = (false, eval (.Name z q) X.env) :: starEach [] X.env := by rfl) (hpl : (backTo pos (starEach [] X.env)).any (·.1) = false := by rfl) (hs : swapsWith (.Call (.Name x p) [.Name z q] [] pos) (some (.Name y px)) spos.line X.env = pure false := by rfl) (hf : X.fn y = true ∨ X.env.scope.names.lookup y = some .local := by first | exact .inl rfl | exact .inr rfl) :
    PS X (.Assign [.Name y px] (.Call (.Name x p) [.Name z q] [] pos) spos) (tPool X.K i) := by
  obtain ⟨fa, fd, F, hb, hk, hm⟩ := C.ex
  exact ps_imp (ps_set (i := i) hN hi hx (pe_call (dvs := []) (E := E0) F hr hg hm hk hb .nil pass0 (pa_cons (pe_var h0 hv hd hcd) pa_nil he) hdb he hpl) hs hf) fun D σ H ⟨a, ns, h, hS, hl, q⟩ => ⟨.ref a, h, a, ns, rfl, hS, hl, fun p b H' hp _ _ => q p b H' hp⟩
end
theorem slots_any {W : Addr → Prop} {pl : Pl} {H : Hp} : ∀ {n : Nat} (σ : St), σ.length = n → Slots W pl H (List.replicate n none) σ (List.replicate n .un)
  | 0, [], _ => .nil
  | n + 1, x :: σ, h => .cons (.un x) (slots_any σ (Nat.succ.inj h))
def lawR (n i : Nat) : Rho := (List.replicate n Sl.un).set i .pool
theorem at_law {n i : Nat} {σ : St} {H : Hp} {p c : Addr} (hp : Cf.PoolAt H p c) (hl : σ.length = n) : At ⟨fun b => b = p ∨ b = c, fun b => b = p, some (p, c), H, []⟩ (List.replicate n none) (σ.set i (some (.ref p))) (lawR n i) H := by
  have s : Slots (Wd ⟨fun b => b = p ∨ b = c, fun b => b = p, some (p, c), H, []⟩ (List.replicate n none)) (some (p, c)) H ((List.replicate n none).set i none) (σ.set i (some (.ref p))) (lawR n i) := Slots.set (.pool rfl) i (slots_any σ hl)
  have e : (List.replicate n (none : Option Addr)).set i none = List.replicate n none := by
    refine List.ext_getElem? fun j => ?_
    rw [List.getElem?_set, List.getElem?_replicate]
    split
    · subst i
      split <;> rename_i h
      · rw [List.length_replicate] at h; rw [if_pos h]
      · rw [List.length_replicate] at h; rw [if_neg h]
    · rfl
  rw [e] at s
  obtain ⟨g1, g2⟩ := pool_two hp
  exact ⟨s, fun _ _ _ h => h, fun a' c' z => (by cases z; exact ⟨hp, rfl, .inl rfl⟩), fun q m => absurd m noO, fun j k q h => absurd h noO2, fun b u => u.elim (fun z => z ▸ g1) fun z => z ▸ g2, fun _ h => h, Tied.free fun s m => (List.mem_or_eq_of_mem_set m).elim (fun m => by rw [List.eq_of_mem_replicate m]; rfl) fun e => by rw [e]; rfl⟩
section
variable {P : Program} {w : World} {K : PySem.W.Frag} {mg : Str → Option Value} {base : Heap}
theorem law_len {K : PySem.W.Frag} : ∀ (vs : List V) (H : Hp) (Q : VK) (E : XK), Cf.spLaw K vs H Q E → vs.length = (["script"] : List Str).length := fun vs H Q E ⟨a, ns, h, _⟩ => by rw [h]; rfl
theorem law_end {K : PySem.W.Frag} {mg : Str → Option Value} {X : Cx} {N : List Str} {st0 : Stmt} {rest : List Stmt} {body : Rho → Wp Out} {i : Nat} {vs : List V} {H : Hp} {Q : VK} {E : XK} (h : Cf.spLaw K vs H Q E) (hb : SS X rest body) (q : body (lawR N.length i) (fun o => o = .rt (.bool true))) (hN : N.length ≠ 0) :
    tPool K i { nx := fun σ1 H1 => tsOf (mg, fun _ _ _ _ => False) body { nx := fun _ H' => Q .non H', rt := Q } σ1 H1, rt := Q } (L2.start N vs) H := by
  obtain ⟨a, ns, rfl, hS, hl, q'⟩ := h
  refine ⟨a, ns, rfl, hS, hl, fun p c H' hp => ?_⟩
  refine ⟨_, _, _, at_law hp ?_, hb.mo _ _ _ (fun o k => ?_) q⟩
  · unfold L2.start
    simp
    omega
  · subst k
    intro v H2 F
    cases F.dat
    exact q' H2
theorem fn_law {x qual : Str} {st : Stmt} {f : Addr} {fd : FuncData} {N : List Str} {k i : Nat} {body : Rho → Wp Out} (F : Fun K x qual st f fd) (Sc : FnScope N ["script"] (defScope st)) (hN : N.length ≠ 0)
    (hb : ∀ (cdv : Value) (A : Around) (outer : List Env) (s : Shared) (H : Hp) (E : XK), Room k (A.deeper (PyProof.Rows.envOfC qual (defScope st) s.heap.objs.size f cdv)) → ∃ st0 rest, defBody st = st0 :: rest ∧ PS (cxOf CX0 P w K mg base N qual (defScope st) f cdv A outer s H E).nox st0 (tPool K i) ∧ SS (cxOf CX0 P w K mg base N qual (defScope st) f cdv A outer s H E).nox rest body)
    (q : body (lawR N.length i) (fun o => o = .rt (.bool true))) : FnOk P w K mg base CX0 (k + 1) f fd ["script"] (Cf.spLaw K) := by
  refine F.ok Sc law_len (fun cdv A outer s H vs Q E hr h => ?_)
  obtain ⟨st0, rest, e, h1, h2⟩ := hb cdv A outer s H E hr
  rw [e]
  exact ⟨_, pss_cons h1 (h2.ps _ takes0), law_end h h2 q hN (st0 := st0)⟩
theorem fn_lawG {x qual : Str} {st : Stmt} {f : Addr} {fd : FuncData} {N : List Str} {k i : Nat} {body : Rho → Wp Out} (F : Fun K x qual st f fd) (Sc : FnScope N ["script"] (defScope st)) (hN : N.length ≠ 0)
    (hb : ∀ (cdv : Value) (A : Around) (outer : List Env) (s : Shared) (H : Hp) (E : XK), A.guards = some [] → Room k (A.deeper (PyProof.Rows.envOfC qual (defScope st) s.heap.objs.size f cdv)) → ∃ st0 rest, defBody st = st0 :: rest ∧ PS (cxOf CX0 P w K mg base N qual (defScope st) f cdv A outer s H E).nox st0 (tPool K i) ∧ SS (cxOf CX0 P w K mg base N qual (defScope st) f cdv A outer s H E).nox rest body)
    (q : body (lawR N.length i) (fun o => o = .rt (.bool true))) : Cr.RunsG P w K mg base (k + 1) f fd ["script"] (Cf.spLaw K) := by
  refine Cr.fn_g F Sc law_len (fun cdv A outer s H vs Q E hg hr h => ?_)
  obtain ⟨st0, rest, e, h1, h2⟩ := hb cdv A outer s H E hg hr
  rw [e]
  exact ⟨_, pss_cons h1 (h2.ps _ takes0), law_end h h2 q hN (st0 := st0)⟩
/-! ### older contracts -/
theorem at_imp {x : Str} {j : Nat} {ps : List Str} {sp sp' : Sp} (C : Cf.At P w K mg base x j ps sp) (h : ∀ vs H Q E, sp' vs H Q E → sp vs H Q E) : Cf.At P w K mg base x j ps sp' := by
  obtain ⟨f, fd, F, hb, hk, hm⟩ := C.ex
  exact ⟨f, fd, F.imp h, hb, hk, hm⟩
theorem ex_but {a c : Addr} {H H' : Hp} (e : Cf.But a H H') (hp : Cf.PoolAt H' a c) : Ex (some (a, c)) H H' := by
  refine ⟨fun b o n h => e b o (n a c rfl) h, fun a' c' z => (by cases z; exact hp), fun b h => ?_⟩
  by_cases z : b = a
  · exact z ▸ (pool_two hp).1
  · cases y : H b with
    | none => exact absurd y h
    | some o => rw [e b o z y]; exact Option.some_ne_none _
/-- a number below the given one -/
def mDraw : List PyData → Wp PyData
  | [.int n] => fun Q => (0 < n ∧ n < 2 ^ 63) ∧ ∀ d : Int, 0 ≤ d → d < n → Q (.int d)
  | _ => bad
theorem conv_draw {j : Nat} (C : Cf.At P w K mg base "_law_draw" j ["pool", "many"] Cf.spDraw) : Cf.At P w K mg base "_law_draw" j ["pool", "many"] (spQP 1 mDraw) := by
  refine at_imp C fun vs H Q E h => ?_
  obtain ⟨ds, U, a, c, us, rfl, h1, hp, ha, hU, h2, R, hm, hi⟩ := h
  cases h2 with
  | nil => cases h1
  | cons x y =>
    cases y with
    | cons _ _ => cases h1
    | nil =>
      cases x with
      | int n =>
        obtain ⟨⟨n0, n1⟩, hm⟩ := hm
        exact ⟨a, c, n, rfl, hp, n0, n1, fun d H' d0 d1 hp' e => hi _ (hm d d0 d1) _ _ (ex_but e hp') (.int d)⟩
      | non => exact False.elim hm
      | bl _ => exact False.elim hm
      | str _ => exact False.elim hm
      | tup _ _ => exact False.elim hm
      | lst _ _ _ => exact False.elim hm
      | dic _ _ _ => exact False.elim hm
      | dit _ _ _ => exact False.elim hm
end
end Lq
namespace Lq
open PySem L2
/-! ### t[::-1], t[:0:-1] -/
section
variable {X : Cx}
def backQ (d : PyData) (hi : Option Int) : Wp PyData := match d, hi with
  | .tuple ds, none => ret (.tuple ds.reverse)
  | .tuple ds, some i => gd (i = 0 ∧ 0 < ds.length) (.tuple (ds.drop 1).reverse)
  | .list ds, none => ret (.list ds.reverse)
  | _, _ => bad
theorem mono_backQ (d : PyData) (hi : Option Int) : Mono (backQ d hi) := by
  unfold backQ
  split <;> first | exact mono_ret _ | exact mono_gd _ | exact mono_bad
def eBack (f : Rho → Wp PyData) (h : Rho → Wp (Option Int)) : Rho → Wp PyData := fun ρ => bnd (f ρ) fun d => bnd (h ρ) (backQ d)
theorem e_back {g : Bool} {a : Expr} {hi : Option Expr} {kk : Nat} {p1 p2 p3 pos : Pos} {f : Rho → Wp PyData} {h : Rho → Wp (Option Int)} (ha : E X false a f) (hh : Part X hi h) : E X g (.Subscript a (.Slice none hi (some (.UnaryOp .USub (.Constant (.int 1) kk p1) p2)) p3) pos) (eBack f h) := by
  refine E.tr ⟨pe_imp (Cr.pe_back2 ha.pe hh.po) fun σ H Q ⟨fr, O, ρ, A, q⟩ => ?_, fun ρ => mono_bnd (ha.mo ρ) fun _ => mono_bnd (hh.mo ρ) fun _ => mono_backQ _ _⟩
  refine ⟨fr, O, ρ, A, ha.mo ρ _ _ (fun d k1 v H1 e1 g1 => ?_) q⟩
  have A1 := A.ex e1
  refine ⟨fr, O, ρ, A1, hh.mo ρ _ _ (fun hi k2 H2 e2 => ?_) k1⟩
  have A2 := A1.ex e2
  have g2 : TopD fr.U (Wd fr O) H2 v d := A1.gd (g := false) e2 g1
  have e12 := e1.trans e2
  unfold backQ at k2
  split at k2
  · obtain ⟨p, vs, rfl, a, b⟩ := g2.tup
    refine .inl ⟨p, vs, 0, rfl, SqT.of a, .inl ⟨rfl, rfl⟩, fun r n => k2 _ _ (e12.trans (A2.same (dat_new n))) (.tup upd_same (b.reverse.same (dat_new n)))⟩
  · obtain ⟨p, vs, rfl, a, b⟩ := g2.tup
    obtain ⟨⟨rfl, hl⟩, k2⟩ := k2
    refine .inl ⟨p, vs, 1, rfl, SqT.of a, .inr ⟨rfl, rfl, by rw [b.length]; exact hl⟩, fun r n => k2 _ _ (e12.trans (A2.same (dat_new n))) (.tup upd_same ((b.drop 1).reverse.same (dat_new n)))⟩
  · obtain ⟨p, vs, rfl, a, b⟩ := g2.list
    refine .inr ⟨p, vs, rfl, rfl, SqL.of a, fun r n => k2 _ _ (e12.trans (A2.same (dat_new n))) (Dat.lst (wd_new A2 n) upd_same (b.reverse.same (dat_new n)))⟩
  · exact False.elim k2
end
end Lq
namespace Lq
open PySem L2
/-! ### constants of the module, all, any, ranges as values, max of three, empty dicts -/
section
variable {X : Cx} {x : Str} {pos p p2 q : Pos}
theorem e_glob {g : Bool} {i : Int} (h : ∃ t, X.mg x = some (.int i t)) (hg : Gl X x := by rfl) (hd : (x == ("__debug__" : Str)) = false := by decide) : E X g (.Name x pos) (eC (.int i)) := by
  obtain ⟨t, h⟩ := h
  exact ⟨pe_imp (pe_glob (v := .int i) hg h ⟨t, rfl⟩ hd) fun σ H Q ⟨fr, O, ρ, A, q⟩ => q _ H A.refl (Gd.of (.int i)), fun _ => mono_ret _⟩
/-- the truth values of a list -/
def bolsOf : List PyData → Option (List Bool)
  | [] => some []
  | .bool i :: ds => (bolsOf ds).map (i :: ·)
  | _ :: _ => none
theorem bolsOf_ok {W : Addr → Prop} {H : Hp} : ∀ {vs : List V} {ds : List PyData} {ns : List Bool}, Dats W H vs ds → bolsOf ds = some ns → vs = ns.map V.bl
  | _, _, _, .nil, e => by cases e; rfl
  | _, _, ns, .cons (d := d) (ds := ds) h r, e => by
    cases d with
    | bool i =>
      have e : (bolsOf ds).map (i :: ·) = some ns := e
      obtain ⟨ms, h1, rfl⟩ := Option.map_eq_some_iff.mp e
      cases h
      rw [bolsOf_ok r h1]
      rfl
    | none => cases e
    | int _ => cases e
    | str _ => cases e
    | list _ => cases e
    | tuple _ => cases e
    | dict _ => cases e
def bolsW (ds : List PyData) : Wp (List Bool) := match bolsOf ds with
  | some ns => ret ns
  | none => bad
theorem mono_bolsW (ds : List PyData) : Mono (bolsW ds) := by
  unfold bolsW
  split
  · exact mono_ret _
  · exact mono_bad
theorem bolsW_ok {ds : List PyData} {P : List Bool → Prop} (h : bolsW ds P) : ∃ ns, bolsOf ds = some ns ∧ P ns := by
  unfold bolsW at h
  cases e : bolsOf ds with
  | some ns => rw [e] at h; exact ⟨ns, rfl, h⟩
  | none => rw [e] at h; exact False.elim h
def allQ : List PyData → Wp PyData
  | [.list ds] => bnd (bolsW ds) fun ns => ret (.bool (ns.all id))
  | _ => bad
def anyQ : List PyData → Wp PyData
  | [.list ds] => bnd (bolsW ds) fun ns => ret (.bool (ns.any id))
  | _ => bad
theorem q_all (hc : X.calm = true) : CallQ X (.builtin "all") allQ := by
  refine ⟨⟨_, cr_all hc, fun {fr O σ ρ H vs ds Q} A h q => ?_⟩, fun ds => ?_⟩
  · unfold allQ at q
    split at q
    · cases h with
      | cons h r =>
        cases r
        obtain ⟨p, vs, rfl, a, b⟩ := (topd_of h).list
        obtain ⟨ns, e, q⟩ := bolsW_ok q
        exact ⟨p, ns, rfl, by rw [← bolsOf_ok b e]; exact SqL.of a, q _ H (Same.refl H) (.bl _)⟩
    · exact q.elim
  · unfold allQ
    split
    · exact mono_bnd (mono_bolsW _) fun _ => mono_ret _
    · exact mono_bad
theorem q_any (hc : X.calm = true) : CallQ X (.builtin "any") anyQ := by
  refine ⟨⟨_, cr_any hc, fun {fr O σ ρ H vs ds Q} A h q => ?_⟩, fun ds => ?_⟩
  · unfold anyQ at q
    split at q
    · cases h with
      | cons h r =>
        cases r
        obtain ⟨p, vs, rfl, a, b⟩ := (topd_of h).list
        obtain ⟨ns, e, q⟩ := bolsW_ok q
        exact ⟨p, ns, rfl, by rw [← bolsOf_ok b e]; exact SqL.of a, q _ H (Same.refl H) (.bl _)⟩
    · exact q.elim
  · unfold anyQ
    split
    · exact mono_bnd (mono_bolsW _) fun _ => mono_ret _
    · exact mono_bad
/-! list(range(..)), tuple(range(..)) -/
variable {e : Expr} {f k : Rho → Wp PyData}
theorem rgV_dats {W : Addr → Prop} {H : Hp} (a b : Int) : Dats W H (rgV a b) (upto a (b - a).toNat) := by
  unfold rgV upto
  induction List.range (b - a).toNat with
  | nil => exact .nil
  | cons i is ih => exact .cons (.int _) ih
def rgW (a b : Int) (l : Bool) : Wp PyData := gd (RgOk a b) (if l = true then .list (upto a (b - a).toNat) else .tuple (upto a (b - a).toNat))
def eRg1 (l : Bool) (f : Rho → Wp PyData) : Rho → Wp PyData := fun ρ => bnd (f ρ) fun d => match d with
  | .int n => rgW 0 n l
  | _ => bad
def eRg2 (l : Bool) (f k : Rho → Wp PyData) : Rho → Wp PyData := fun ρ => bnd (f ρ) fun d => bnd (k ρ) fun e => match d, e with
  | .int m, .int n => rgW m n l
  | _, _ => bad
theorem mono_eRg1 {l : Bool} (h : ∀ ρ, Mono (f ρ)) (ρ : Rho) : Mono (eRg1 l f ρ) := mono_bnd (h ρ) fun d => by
  cases d <;> first | exact mono_gd _ | exact mono_bad
theorem mono_eRg2 {l : Bool} (h : ∀ ρ, Mono (f ρ)) (r : ∀ ρ, Mono (k ρ)) (ρ : Rho) : Mono (eRg2 l f k ρ) := mono_bnd (h ρ) fun d => mono_bnd (r ρ) fun e => by
  cases d <;> first | exact mono_bad | (cases e <;> first | exact mono_gd _ | exact mono_bad)
theorem prg1_of (mo : ∀ ρ, Mono (f ρ)) {l : Bool} {σ : St} {H : Hp} {Q : VK} (q : teOf true (eRg1 l f) σ H Q) (hf : teOf false f = teOf false f) : tRg1 (teOf false f) σ H fun a b H1 => RgOk a b ∧ ∀ q, H1 q = none → Q (.ref q) (upd H1 q (if l = true then .lst (rgV a b) else .tup (rgV a b))) := by
  obtain ⟨fr, O, ρ, A, q⟩ := q
  refine ⟨fr, O, ρ, A, mo ρ _ _ (fun d k v H1 e1 g1 => ?_) q⟩
  cases d with
  | int n =>
    cases (show TopD _ _ _ _ _ from g1).int
    refine ⟨n, rfl, k.1, fun p hp => ?_⟩
    have A1 := A.ex e1
    have k2 := k.2
    cases l with
    | true => exact k2 _ _ (e1.trans (Ex.new A1 hp)) (Dat.lst (wd_new A1 hp) upd_same (rgV_dats _ _))
    | false => exact k2 _ _ (e1.trans (Ex.new A1 hp)) (Dat.tup upd_same (rgV_dats _ _))
  | none => exact False.elim k
  | bool _ => exact False.elim k
  | str _ => exact False.elim k
  | list _ => exact False.elim k
  | tuple _ => exact False.elim k
  | dict _ => exact False.elim k
theorem e_listRg1 {g : Bool} {a : Expr} (hc : X.calm = true) (ha : E X false a f) (hm : X.mg "list" = none) (hr : X.mg "range" = none) (hg : Gl X "list" := by rfl) (hg2 : Gl X "range" := by rfl)
    (na : starEach [.Call (.Name "range" p2) [a] [] q] X.env = (false, eval (.Call (.Name "range" p2) [a] [] q) X.env) :: starEach [] X.env := by rfl) (nb : starEach [a] X.env = (false, eval a X.env) :: starEach [] X.env := by rfl) : E X g (.Call (.Name "list" p) [.Call (.Name "range" p2) [a] [] q] [] pos) (eRg1 true f) :=
  E.tr ⟨pe_imp (pe_listRg hc hg hm (prg_1 hg2 hr ha.pe nb) na) fun σ H Q q => prg1_of ha.mo q rfl, mono_eRg1 ha.mo⟩
theorem e_tupRg1 {g : Bool} {a : Expr} (hc : X.calm = true) (ha : E X false a f) (hm : X.mg "tuple" = none) (hr : X.mg "range" = none) (hg : Gl X "tuple" := by rfl) (hg2 : Gl X "range" := by rfl)
    (na : starEach [.Call (.Name "range" p2) [a] [] q] X.env = (false, eval (.Call (.Name "range" p2) [a] [] q) X.env) :: starEach [] X.env := by rfl) (nb : starEach [a] X.env = (false, eval a X.env) :: starEach [] X.env := by rfl) : E X g (.Call (.Name "tuple" p) [.Call (.Name "range" p2) [a] [] q] [] pos) (eRg1 false f) :=
  E.tr ⟨pe_imp (pe_tupRg hc hg hm (prg_1 hg2 hr ha.pe nb) na) fun σ H Q q => prg1_of ha.mo q rfl, mono_eRg1 ha.mo⟩
/-! max, min of three -/
def max3Q : List PyData → Wp PyData
  | [.int i, .int j, .int k] => ret (.int (max (max i j) k))
  | _ => bad
theorem nu_max3 (i j k : Int) : nuMax3 (.int i) (.int j) (.int k) = some (.int (max (max i j) k)) := by
  have two : ∀ a b : Int, nuMax2 (.int a) (.int b) = some (.int (max a b)) := fun a b => by
    show some (if decide (a < b) = true then V.int b else V.int a) = _
    by_cases h : a < b
    · rw [if_pos (decide_eq_true h), Int.max_eq_right (by omega)]
    · rw [if_neg (by simpa using h), Int.max_eq_left (by omega)]
  show (nuMax2 (.int i) (.int j)).bind (fun m => nuMax2 m (.int k)) = _
  rw [two]; exact two _ _
theorem q_max3 (hc : X.calm = true) : CallQ X (.builtin "max") max3Q := by
  refine ⟨⟨_, call_max3Nu hc, fun {fr O σ ρ H vs ds Q} A h q => ?_⟩, fun ds => ?_⟩
  · unfold max3Q at q
    split at q
    · cases h with
      | cons h r => cases r with
        | cons h2 r => cases r with
          | cons h3 r => cases r; cases (topd_of h).int; cases (topd_of h2).int; cases (topd_of h3).int; exact ⟨_, _, _, _, rfl, nu_max3 _ _ _, q _ H (Same.refl H) (.int _)⟩
    · exact q.elim
  · unfold max3Q
    split <;> first | exact mono_ret _ | exact mono_bad
/-! {} as a thing -/
theorem e_d0 {g : Bool} : E X g (.Dict [] [] pos) (eC (.dict [])) := by
  refine E.tr ⟨pe_imp pe_dnewK fun σ H Q ⟨fr, O, ρ, A, q⟩ => ?_, fun _ => mono_ret _⟩
  exact fun p hp => q _ _ (Ex.new A hp) (Dat.dic (wd_new A hp) (.inl upd_same) .nil)
theorem e_d0T {g : Bool} : E X g (.Dict [] [] pos) (eC (.dict [(.none, .none)])) := by
  refine E.tr ⟨pe_imp pe_dnewT fun σ H Q ⟨fr, O, ρ, A, q⟩ => ?_, fun _ => mono_ret _⟩
  exact fun p hp => q _ _ (Ex.new A hp) (Dat.dit (wd_new A hp) (.inl upd_same) .nil)
end
/-! ### an own thing becomes data -/
def frzS : Sl → Sl
  | .lst ds => .val (.list ds)
  | .dic es => .val (.dict es)
  | .dit es => .val (.dict ((.none, .none) :: es))
  | s => s
def frzR (i : Nat) (ρ : Rho) : Rho := match ρ[i]? with
  | some s => ρ.set i (frzS s)
  | none => ρ
section
variable {fr : Fr} {O : List (Option Addr)} {σ : St} {ρ : Rho} {H : Hp}
theorem set_self {α : Type} {xs : List α} {i : Nat} {x : α} (h : xs[i]? = some x) : xs.set i x = xs := by
  refine List.ext_getElem? fun j => ?_
  rw [List.getElem?_set]
  split
  · rename_i e
    subst e
    rw [h]
    split
    · rfl
    · rename_i h2; exact absurd (List.getElem?_eq_some_iff.mp h).1 h2
  · rfl
theorem At.frz (A : At fr O σ ρ H) (i : Nat) : ∃ O', At fr O' σ (frzR i ρ) H := by
  unfold frzR
  cases h : ρ[i]? with
  | none => exact ⟨O, A⟩
  | some s =>
    obtain ⟨o, x, h1, h2, h3⟩ := A.sl.get h
    have eσ : σ.set i x = σ := set_self h2
    have hw : ∀ p, ¬ Wd fr O p → H p ≠ none → ¬ Wd fr (O.set i none) p := fun p n _ z => n (z.elim .inl fun m => .inr (mem_set_none m))
    have free : ∀ p, o = some p → ¬ Wd fr (O.set i none) p := fun p e z => by
      subst e
      rcases z with z | z
      · exact (A.own p (List.mem_of_getElem? h1)).1.1 z
      · obtain ⟨j, hj, e⟩ := List.getElem_of_mem z
        have ej : (O.set i none)[j]? = some (some p) := by rw [List.getElem?_eq_getElem hj, e]
        have e2 := A.nd j i p (get_set_none ej) h1
        subst e2
        rw [List.getElem?_set] at ej
        simp only [if_true] at ej
        split at ej <;> cases ej
    have fin : ∀ s', plS s' = true → SlotAt (Wd fr (O.set i none)) fr.pl H none x s' → ∃ O', At fr O' σ (ρ.set i s') H := fun s' hp hs => by
      refine ⟨O.set i none, ⟨?_, A.keep, A.pool, fun p m => A.own p (mem_set_none m), fun j k p h1 h2 => A.nd j k p (get_set_none h1) (get_set_none h2), A.up, A.st, eσ ▸ A.gh.set i (x := x) hp⟩⟩
      have := Slots.set hs i (A.sl.to hw (fun _ _ => id) (fun _ _ _ => id) fun _ _ _ => id)
      rwa [eσ] at this
    cases h3 with
    | un => exact ⟨O, by have e : List.set ρ i (frzS .un) = ρ := set_self h; show At fr O σ (List.set ρ i (frzS _)) H; rw [e]; exact A⟩
    | val _ => exact ⟨O, by have e : List.set ρ i (frzS (.val _)) = ρ := set_self h; show At fr O σ (List.set ρ i (frzS _)) H; rw [e]; exact A⟩
    | pool _ => exact ⟨O, by have e : List.set ρ i (frzS .pool) = ρ := set_self h; show At fr O σ (List.set ρ i (frzS _)) H; rw [e]; exact A⟩
    | ptr _ => exact ⟨O, by have e : List.set ρ i (frzS (.ptr _)) = ρ := set_self h; show At fr O σ (List.set ρ i (frzS _)) H; rw [e]; exact A⟩
    | gl _ _ => exact ⟨O, by have e : List.set ρ i (frzS (.gh _ _)) = ρ := set_self h; show At fr O σ (List.set ρ i (frzS _)) H; rw [e]; exact A⟩
    | gd _ _ => exact ⟨O, by have e : List.set ρ i (frzS (.gh _ _)) = ρ := set_self h; show At fr O σ (List.set ρ i (frzS _)) H; rw [e]; exact A⟩
    | gt _ _ => exact ⟨O, by have e : List.set ρ i (frzS (.gh _ _)) = ρ := set_self h; show At fr O σ (List.set ρ i (frzS _)) H; rw [e]; exact A⟩
    | lst a b => exact fin _ rfl (.val (.lst (free _ rfl) a (b.to hw (fun _ _ => id) fun _ _ _ => id)))
    | dic a b => exact fin _ rfl (.val (.dic (free _ rfl) (.inl a) (b.to hw (fun _ _ => id) fun _ _ _ => id)))
    | dit a b => exact fin _ rfl (.val (.dit (free _ rfl) (.inl a) (b.to hw (fun _ _ => id) fun _ _ _ => id)))
end
def sFrz (i : Nat) (f : Rho → Wp Out) : Rho → Wp Out := fun ρ => f (frzR i ρ)
section
variable {X : Cx} {st : Stmt} {f : Rho → Wp Out}
theorem s_frz (i : Nat) (h : S X st f) : S X st (sFrz i f) := by
  refine ⟨fun Wx tkx => ps_imp (h.ps Wx tkx) fun D σ H ⟨fr, O, ρ, A, q⟩ => ?_, fun ρ => h.mo _⟩
  obtain ⟨O', A'⟩ := A.frz i
  exact ⟨fr, O', _, A', q⟩
/-! ### x += e, x -= e -/
def sAug (o : Int → Int → Int) (i : Nat) (f : Rho → Wp PyData) : Rho → Wp Out := fun ρ => bnd (slV ρ[i]?) fun d => bnd (f ρ) fun e => match d, e with
  | .int m, .int n => ret (.nx (ρ.set i (.val (.int (o m n)))))
  | _, _ => bad
variable {x : Str} {px spos : Pos} {e : Expr} {fe : Rho → Wp PyData}
theorem slV_ok {o : Option Sl} {P : PyData → Prop} (h : slV o P) : ∃ d, o = some (.val d) ∧ P d := by
  unfold slV at h
  split at h
  · exact ⟨_, rfl, h⟩
  · exact h.elim
theorem mono_sAug {o : Int → Int → Int} {i : Nat} (h : ∀ ρ, Mono (fe ρ)) (ρ : Rho) : Mono (sAug o i fe ρ) := mono_bnd (mono_slV _) fun d => mono_bnd (h ρ) fun e => by
  cases d <;> first | exact mono_bad | (cases e <;> first | exact mono_ret _ | exact mono_bad)
theorem s_aug {op : Operator} {o : Int → Int → Int} (i : Nat) (ho : PIp X op (ipI o)) (hN : X.N.Nodup) (h : E X true e fe) (hi : X.N[i]? = some x := by rfl) (hx : Loc X.env.scope x := by first | exact Or.inl rfl | exact Or.inr rfl) (hf : X.fn x = true ∨ X.env.scope.names.lookup x = some .local := by first | exact .inl rfl | exact .inr rfl) : S X (.AugAssign (.Name x px) op e spos) (sAug o i fe) := by
  refine ⟨fun Wx tkx => ps_imp (ps_aug hN hi hx h.pe ho hf) fun D σ H ⟨fr, O, ρ, A, q⟩ => ?_, mono_sAug h.mo⟩
  obtain ⟨d, hd, q⟩ := slV_ok q
  obtain ⟨v, h1, h2⟩ := A.val hd
  refine ⟨v, h1, fr, O, ρ, A, h.mo ρ _ _ (fun e' k u H1 e1 g1 => ?_) q⟩
  cases d with
  | int m =>
    cases e' with
    | int n =>
      cases h2
      cases (show Dat (Wd fr O) H1 u (.int n) from g1)
      exact ⟨m, n, rfl, rfl, k _ _ H1 ((A.ex e1).setVal i (.int _))⟩
    | none => exact False.elim k
    | bool _ => exact False.elim k
    | str _ => exact False.elim k
    | list _ => exact False.elim k
    | tuple _ => exact False.elim k
    | dict _ => exact False.elim k
  | none => exact False.elim k
  | bool _ => exact False.elim k
  | str _ => exact False.elim k
  | list _ => exact False.elim k
  | tuple _ => exact False.elim k
  | dict _ => exact False.elim k
def sAugadd (i : Nat) (f : Rho → Wp PyData) := sAug (fun m n => m + n) i f
def sAugsub (i : Nat) (f : Rho → Wp PyData) := sAug (fun m n => m - n) i f
theorem s_augadd (i : Nat) (hN : X.N.Nodup) (h : E X true e fe) (hi : X.N[i]? = some x := by rfl) (hx : Loc X.env.scope x := by first | exact Or.inl rfl | exact Or.inr rfl) (hf : X.fn x = true ∨ X.env.scope.names.lookup x = some .local := by first | exact .inl rfl | exact .inr rfl) : S X (.AugAssign (.Name x px) .Add e spos) (sAugadd i fe) := s_aug i ip_add hN h hi hx hf
theorem s_augsub (i : Nat) (hN : X.N.Nodup) (h : E X true e fe) (hi : X.N[i]? = some x := by rfl) (hx : Loc X.env.scope x := by first | exact Or.inl rfl | exact Or.inr rfl) (hf : X.fn x = true ∨ X.env.scope.names.lookup x = some .local := by first | exact .inl rfl | exact .inr rfl) : S X (.AugAssign (.Name x px) .Sub e spos) (sAugsub i fe) := s_aug i ip_sub hN h hi hx hf
end
end Lq
namespace Lq
open PySem L2
/-! ### repr of data -/
section
variable {X : Cx} {pins : List (Addr × Obj)} {σ : L2.St} {H : Hp} {s : Shared} {U : Addr → Prop}
mutual
theorem dat_reads (I : Inv X pins σ H s) : ∀ {v : V} {d : PyData} {u : Value}, Dat U H v d → d.hasDict = false → RelV v u → ∃ as, Reads s.heap u d as
  | _, _, _, .non, _, r => by cases r; exact ⟨_, .none⟩
  | _, _, _, .bl b, _, r => by cases r; exact ⟨_, .bool _⟩
  | _, _, _, .int i, _, r => by obtain ⟨t, rfl⟩ := r; exact ⟨_, .int _ _⟩
  | _, _, _, .str x, _, r => by obtain ⟨t, rfl⟩ := r; exact ⟨_, .str _ _⟩
  | _, _, _, .tup h k, hd, r => by
    cases r
    obtain ⟨its, rv, ⟨o, ho, hc, n, hdt⟩, _⟩ := I.tuple (SqT.of h)
    obtain ⟨as, ra⟩ := dats_reads I k (by simpa [PyData.hasDict] using hd) rv
    exact ⟨as, .tuple ho hc hdt (by simpa using ra)⟩
  | _, _, _, .lst _ h k, hd, r => by
    cases r
    obtain ⟨its, rv, ⟨o, n, ho, hc, hx, hdt⟩, _⟩ := I.list (SqL.of h)
    obtain ⟨as, ra⟩ := dats_reads I k (by simpa [PyData.hasDict] using hd) rv
    exact ⟨_, .list ho hc hdt (by simpa using ra)⟩
  | _, _, _, .dic _ _ _, hd, _ => by simp [PyData.hasDict] at hd
  | _, _, _, .dit _ _ _, hd, _ => by simp [PyData.hasDict] at hd
theorem dats_reads (I : Inv X pins σ H s) : ∀ {v : List V} {d : List PyData} {u : List Value}, Dats U H v d → PyData.hasDictAll d = false → Vals v u → ∃ as, ReadsAll s.heap u d as
  | _, _, _, .nil, _, r => by cases r; exact ⟨_, .nil⟩
  | _, _, _, .cons h k, hd, r => by
    cases r with
    | cons r1 r2 =>
      simp only [PyData.hasDictAll, Bool.or_eq_false_iff] at hd
      obtain ⟨as, h1⟩ := dat_reads I h hd.1 r1
      obtain ⟨bs, h2⟩ := dats_reads I k hd.2 r2
      exact ⟨_, .cons h1 h2⟩
end
mutual
/-- neither lists nor dicts within -/
def flatT : PyData → Bool
  | .list _ => false
  | .dict _ => false
  | .tuple ds => flatTs ds
  | _ => true
def flatTs : List PyData → Bool
  | [] => true
  | d :: ds => flatT d && flatTs ds
end
mutual
theorem dat_reads0 (I : Inv X pins σ H s) : ∀ {v : V} {d : PyData} {u : Value}, Dat U H v d → flatT d = true → RelV v u → Reads s.heap u d []
  | _, _, _, .non, _, r => by cases r; exact .none
  | _, _, _, .bl b, _, r => by cases r; exact .bool _
  | _, _, _, .int i, _, r => by obtain ⟨t, rfl⟩ := r; exact .int _ _
  | _, _, _, .str x, _, r => by obtain ⟨t, rfl⟩ := r; exact .str _ _
  | _, _, _, .tup h k, hd, r => by
    cases r
    obtain ⟨its, rv, ⟨o, ho, hc, n, hdt⟩, _⟩ := I.tuple (SqT.of h)
    exact .tuple ho hc hdt (by simpa using dats_reads0 I k (by simpa [flatT] using hd) rv)
  | _, _, _, .lst _ h k, hd, r => by simp [flatT] at hd
  | _, _, _, .dic _ _ _, hd, _ => by simp [flatT] at hd
  | _, _, _, .dit _ _ _, hd, _ => by simp [flatT] at hd
theorem dats_reads0 (I : Inv X pins σ H s) : ∀ {v : List V} {d : List PyData} {u : List Value}, Dats U H v d → flatTs d = true → Vals v u → ReadsAll s.heap u d []
  | _, _, _, .nil, _, r => by cases r; exact .nil
  | _, _, _, .cons h k, hd, r => by
    cases r with
    | cons r1 r2 =>
      simp only [flatTs, Bool.and_eq_true] at hd
      exact .cons (as := []) (bs := []) (dat_reads0 I h hd.1 r1) (dats_reads0 I k hd.2 r2)
end
/-- entries of a dict whose keys are tuples -/
theorem ents_readsT (I : Inv X pins σ H s) : ∀ {kvs : List (List Key × V)} {xs : List (List Key × Addr × Value)} {es : List (PyData × PyData)}, KT H kvs xs → DatT U H kvs es → (∀ e ∈ es, flatT e.2 = true) →
    ReadsAll s.heap (xs.map fun x => Value.ref x.2.1) (es.map (·.1)) [] ∧ ReadsAll s.heap (xs.map fun x => x.2.2) (es.map (·.2)) []
  | _, _, _, .nil, .nil, _ => ⟨.nil, .nil⟩
  | (k, v) :: kvs, (k', b, u) :: xs, _, .cons h t, .cons hv hr, hf => by
    obtain ⟨e1, e2, e3⟩ := h
    obtain ⟨a, b⟩ := ents_readsT I t hr fun e m => hf e (List.mem_cons_of_mem _ m)
    obtain ⟨its, rv, ⟨o, ho, hc, n, hdt⟩, _⟩ := I.tuple (SqT.of e2)
    have kf : ∀ ks : List Key, flatTs (ks.map kD) = true := fun ks => by
      induction ks with
      | nil => rfl
      | cons k ks ih => cases k <;> simp [flatTs, flatT, kD, ih]
    refine ⟨ReadsAll.cons (as := []) (bs := []) (.tuple ho hc hdt (by simpa using dats_reads0 (U := U) I (dats_kV k) (kf k) rv)) a, ReadsAll.cons (as := []) (bs := []) (dat_reads0 I hv (hf _ List.mem_cons_self) e3) b⟩
theorem dit_reads (I : Inv X pins σ H s) {p : Addr} {kvs : List (List Key × V)} {es : List (PyData × PyData)} (h : Rd H p (.dT kvs)) (k : DatT U H kvs es) (hf : ∀ e ∈ es, flatT e.2 = true) : Reads s.heap (.ref p) (.dict es) [p] ∧ p ≠ sysModules := by
  obtain ⟨z, hs, xs, kt, o, eo, ep, ho, hx, hdt, hes, nd⟩ := (show ObjOk X.prog X.w H s.heap p (.dT kvs) from h.ok I.hok)
  obtain ⟨a, b⟩ := ents_readsT I kt k hf
  refine ⟨.dict ho hx.1 hdt (as := []) (bs := []) ?_ ?_, fun e => by rw [e] at hs; simp at hs⟩
  · rw [hes, List.map_map]; exact a
  · rw [hes, List.map_map]; exact b
end
/-- what a text of data asks -/
structure Shows (d : PyData) : Prop where
  able : d.showable = true
  len : d.shown.length ≤ sizeLine
  dep : d.depth ≤ 60
def reprQ : List PyData → Wp PyData
  | [.dict ((.none, _) :: es)] => gd (Shows (.dict es) ∧ ∀ e ∈ es, flatT e.2 = true) (.str (PyData.dict es).shown)
  | [d] => gd (Shows d ∧ d.hasDict = false) (.str d.shown)
  | _ => bad
section
variable {X : Cx}
def rRepr (X : Cx) : List V → Hp → VK → Prop := fun xs H Q => ∃ v d, xs = [v] ∧ Shows d ∧ (∀ (pins : List (Addr × Obj)) (σ : L2.St) (s : Shared) (u : Value), Inv X pins σ H s → RelV v u → ∃ as, Reads s.heap u d as ∧ (d.hasDict = true → sysModules ∉ as)) ∧ Q (.str d.shown) H
theorem call_repr (hg : X.A.guards = some []) (hu : X.A.units + 65 < cLine) : CallR X (.builtin "repr") (rRepr X) := by
  intro pins s σ H xs us Q I r h
  obtain ⟨v, d, rfl, sh, hr, q⟩ := h
  obtain ⟨u, rfl, rx⟩ := vals1 r
  obtain ⟨as, rd, hs⟩ := hr pins σ s u I rx
  cases rd with
  | none => exact P.repr_of_none ⟨.str _, H, I.tok _, ⟨_, rfl⟩, q⟩
  | bool b => exact P.repr_of_bool ⟨.str _, H, I.tok _, ⟨_, by cases b <;> rfl⟩, q⟩
  | int i t => exact P.repr_of_int (by simpa [PyData.showable] using sh.able) ⟨.str _, H, I.tok _, ⟨_, rfl⟩, q⟩
  | str x t => exact P.repr_of_str ⟨.str _, H, I.tok _, ⟨_, rfl⟩, q⟩ sh.len
  | list h1 h2 h3 h4 => exact repr_of_reads' (.list h1 h2 h3 h4) sh.able hs hg (by have := sh.dep; omega) (fun _ _ e => e) (fun h' u tk k => ⟨.str _, H, I.kept (t' := tk) k, ⟨_, rfl⟩, q⟩) sh.len
  | tuple h1 h2 h3 h4 => exact repr_of_reads' (.tuple h1 h2 h3 h4) sh.able hs hg (by have := sh.dep; omega) (fun _ _ e => e) (fun h' u tk k => ⟨.str _, H, I.kept (t' := tk) k, ⟨_, rfl⟩, q⟩) sh.len
  | dict h1 h2 h3 h4 h5 => exact repr_of_reads' (.dict h1 h2 h3 h4 h5) sh.able hs hg (by have := sh.dep; omega) (fun _ _ e => e) (fun h' u tk k => ⟨.str _, H, I.kept (t' := tk) k, ⟨_, rfl⟩, q⟩) sh.len
theorem topd_reads {pins : List (Addr × Obj)} {σ : L2.St} {H : Hp} {s : Shared} {U W : Addr → Prop} (I : Inv X pins σ H s) {v : V} {d : PyData} {u : Value} (h : TopD U W H v d) (hd : d.hasDict = false) (r : RelV v u) : ∃ as, Reads s.heap u d as := by
  cases h with
  | of h => exact dat_reads I h hd r
  | lst _ h k =>
    cases r
    obtain ⟨its, rv, ⟨o, n, ho, hc, hx, hdt⟩, _⟩ := I.list (SqL.of h)
    obtain ⟨as, ra⟩ := dats_reads I k (by simpa [PyData.hasDict] using hd) rv
    exact ⟨_, .list ho hc hdt (by simpa using ra)⟩
  | dic _ _ _ => simp [PyData.hasDict] at hd
  | dit _ _ _ => simp [PyData.hasDict] at hd
theorem q_repr (hg : X.A.guards = some []) (hu : X.A.units + 65 < cLine) : CallQ X (.builtin "repr") reprQ := by
  refine ⟨⟨_, call_repr hg hu, fun {fr O σ ρ H vs ds Q} A h q => ?_⟩, fun ds => ?_⟩
  · unfold reprQ at q
    split at q
    · rename_i es
      cases h with
      | cons h r =>
        cases r
        obtain ⟨p, rfl, hh⟩ := (topd_of h).dict
        rcases hh with ⟨kvs, a, b⟩ | ⟨kvs, fs, e, a, b⟩
        · exact (datK_none b).elim
        · cases e
          refine ⟨.ref p, .dict _, rfl, q.1.1, fun pins σ s u I r => ?_, q.2 _ H (Same.refl H) (.str _)⟩
          cases r
          obtain ⟨z1, z2⟩ := dit_reads I a b q.1.2
          exact ⟨[p], z1, fun _ m => z2 (List.mem_singleton.mp m).symm⟩
    · cases h with
      | cons h r =>
        cases r
        refine ⟨_, _, rfl, q.1.1, fun pins σ s u I r => ?_, q.2 _ H (Same.refl H) (.str _)⟩
        obtain ⟨as, z⟩ := topd_reads I (topd_of h) q.1.2 r
        exact ⟨as, z, fun h => by rw [q.1.2] at h; cases h⟩
    · exact q.elim
  · unfold reprQ
    split <;> first | exact mono_gd _ | exact mono_bad
end
end Lq
namespace Lq
open PySem L2
/-! ### zip, enumerate, texts walked -/
section
variable {X : Cx} {tg iter : Expr} {pos tpos p : Pos} {elts : List Expr} {kk : Nat}
theorem its_pair {b : Bool} {fr : Fr} {O : List (Option Addr)} {σ : St} {ρ : Rho} {H : Hp} {J : It} {f g : Nat → Option V} {ds : List PyData} {Gd : Hp → Prop} (A : At fr O σ ρ H) (w : Walk J ds.length Gd (YPair f g)) (hG : ∀ H2, (if b = true then Kept fr O H H2 else Ex fr.pl H H2) → Gd H2)
    (h : ∀ i x y, i < ds.length → f i = some x → g i = some y → ∃ d e, ds[i]? = some (.tuple [d, e]) ∧ Dat (Wd fr O) H x d ∧ Dat (Wd fr O) H y e) : Its b fr O H J ds := by
  refine ⟨Gd, _, w, hG, fun i Ha x Hb W hi k hW y => ?_⟩
  obtain ⟨T, u, v, rfl, hT, rfl, h1, h2⟩ := y
  obtain ⟨d, e, hd, k1, k2⟩ := h i u v hi h1 h2
  obtain ⟨g1, g2⟩ := A.via k
  have sm := Cf.same_new hT (HO.tup [u, v])
  exact ⟨sm, _, hd, .tup upd_same (.cons ((k1.to hW g1 g2).same sm) (.cons ((k2.to hW g1 g2).same sm) .nil))⟩
def zipD (a b : List PyData) : List PyData := List.zipWith (fun x y => .tuple [x, y]) a b
def zipW : List PyData → Wp (List PyData)
  | [.list a, .list b] => ret (zipD a b)
  | [.tuple a, .tuple b] => ret (zipD a b)
  | _ => bad
theorem mono_zipW (ds : List PyData) : Mono (zipW ds) := by
  unfold zipW
  split <;> first | exact mono_ret _ | exact mono_bad
theorem zipD_len (a b : List PyData) : (zipD a b).length = min a.length b.length := by simp [zipD]
theorem zipD_get {a b : List PyData} {i : Nat} {x y : PyData} (h : a[i]? = some x) (k : b[i]? = some y) : (zipD a b)[i]? = some (.tuple [x, y]) := by simp [zipD, List.getElem?_zipWith, h, k]
theorem walk_zipT {K : PySem.W.Frag} {a b : Addr} {xs ys : List V} {n : Nat} (hn : n = min xs.length ys.length) : Walk (RZ.ItzT K a b) n (fun H => SqT K H a xs ∧ SqT K H b ys) (YPair (fun i => xs[i]?) (fun i => ys[i]?)) := by
  subst hn
  refine ⟨fun i _ hi q => ?_, fun _ q => ⟨xs, ys, q.1, q.2, by omega⟩, fun i H v H' _ q y => ?_⟩
  · have h1 : i < xs.length := by omega
    have h2 : i < ys.length := by omega
    exact ⟨xs, ys, xs[i], ys[i], q.1, q.2, by simp [h1], by simp [h2]⟩
  · obtain ⟨T, x, z, h1, h2, h3, h4, h5⟩ := y
    exact ⟨T, x, z, h1, h2, h3, h4 xs q.1, h5 ys q.2⟩
theorem i_zip {b : Bool} {e1 e2 : Expr} {ka : Rho → Wp (List PyData)} (hm : X.mg "zip" = none) (ha : A X true [e1, e2] ka) (hg : Gl X "zip" := by rfl)
    (hs : starEach [e1, e2] X.env = (false, eval e1 X.env) :: starEach [e2] X.env := by rfl) (hpl : (backTo pos (starEach [e2] X.env)).any (·.1) = false := by rfl) : I X b (.Tuple elts kk tpos) (.Call (.Name "zip" p) [e1, e2] [] pos) (iCall zipW ka) := by
  refine ⟨pi_imp (RZ.pi_zipA hg hm ha.pa hs hpl) fun σ H R ⟨fr, O, ρ, A, q⟩ => ?_, fun ρ => mono_bnd (ha.mo ρ) mono_zipW⟩
  refine ⟨fr, O, ρ, A, ha.mo ρ _ _ (fun ds k vs H1 e1 g1 => ?_) q⟩
  have A1 := A.ex e1
  unfold zipW at k
  split at k
  · cases g1 with
    | cons h r => cases r with
      | cons h2 r =>
        cases r
        have h : Dat (Wd fr O) H1 _ _ := h
        have h2 : Dat (Wd fr O) H1 _ _ := h2
        cases h with
        | @lst pa va _ na ka1 da => cases h2 with
          | @lst pb vb _ nb kb db =>
            refine ⟨pa, pb, va, vb, rfl, .inl ⟨SqL.of ka1, SqL.of kb, k _ H1 e1 ?_⟩⟩
            refine its_pair A1 (walk_zip (xs := va) (ys := vb) (by rw [zipD_len, da.length, db.length])) (fun H2 kk => ⟨?_, ?_⟩) fun i x y hi hx hy => ?_
            · exact SqL.of ((A1.via kk).2 _ _ na ka1)
            · exact SqL.of ((A1.via kk).2 _ _ nb kb)
            · obtain ⟨d1, z1, z2⟩ := da.getV hx
              obtain ⟨d2, y1, y2⟩ := db.getV hy
              exact ⟨d1, d2, zipD_get z1 y1, z2, y2⟩
  · cases g1 with
    | cons h r => cases r with
      | cons h2 r =>
        cases r
        have h : Dat (Wd fr O) H1 _ _ := h
        have h2 : Dat (Wd fr O) H1 _ _ := h2
        cases h with
        | @tup pa va _ ka1 da => cases h2 with
          | @tup pb vb _ kb db =>
            refine ⟨pa, pb, va, vb, rfl, .inr ⟨SqT.of ka1, SqT.of kb, k _ H1 e1 ?_⟩⟩
            refine its_pair A1 (walk_zipT (xs := va) (ys := vb) (by rw [zipD_len, da.length, db.length])) (fun H2 kk => ⟨?_, ?_⟩) fun i x y hi hx hy => ?_
            · exact SqT.of ((A1.via kk).1 _ _ ka1)
            · exact SqT.of ((A1.via kk).1 _ _ kb)
            · obtain ⟨d1, z1, z2⟩ := da.getV hx
              obtain ⟨d2, y1, y2⟩ := db.getV hy
              exact ⟨d1, d2, zipD_get z1 y1, z2, y2⟩
  · exact False.elim k
/-- enumerate(list) -/
def enumD (a : List PyData) : List PyData := a.mapIdx fun i x => .tuple [.int (i : Int), x]
def enumW : List PyData → Wp (List PyData)
  | [.list a] => ret (enumD a)
  | _ => bad
theorem mono_enumW (ds : List PyData) : Mono (enumW ds) := by
  unfold enumW
  split <;> first | exact mono_ret _ | exact mono_bad
theorem enumD_len (a : List PyData) : (enumD a).length = a.length := by simp [enumD]
theorem i_enum {b : Bool} {e1 : Expr} {ka : Rho → Wp (List PyData)} (hm : X.mg "enumerate" = none) (ha : A X true [e1] ka) (hg : Gl X "enumerate" := by rfl)
    (hs : starEach [e1] X.env = [(false, eval e1 X.env)] := by rfl) : I X b (.Tuple elts kk tpos) (.Call (.Name "enumerate" p) [e1] [] pos) (iCall enumW ka) := by
  refine ⟨pi_imp (pi_enum hg hm ha.pa hs) fun σ H R ⟨fr, O, ρ, A, q⟩ => ?_, fun ρ => mono_bnd (ha.mo ρ) mono_enumW⟩
  refine ⟨fr, O, ρ, A, ha.mo ρ _ _ (fun ds k vs H1 e1 g1 => ?_) q⟩
  have A1 := A.ex e1
  unfold enumW at k
  split at k
  · cases g1 with
    | cons h r =>
      cases r
      have h : Dat (Wd fr O) H1 _ _ := h
      cases h with
      | @lst pa va _ na ka1 da =>
        refine ⟨pa, va, rfl, SqL.of ka1, k _ H1 e1 ?_⟩
        have w := walk_enum (K := X.K) (a := pa) (xs := va)
        rw [da.length, ← enumD_len] at w
        refine its_pair A1 w (fun H2 kk => SqL.of ((A1.via kk).2 _ _ na ka1)) fun i x y hi hx hy => ?_
        cases hx
        obtain ⟨d2, y1, y2⟩ := da.getV hy
        exact ⟨.int (i : Nat), d2, by simp [enumD, y1], .int _, y2⟩
  · exact False.elim k
/-- a text, sign by sign -/
def signs (x : Str) : List PyData := x.cps.toList.map fun c => .str ⟨#[c]⟩
def signsW : PyData → Wp (List PyData)
  | .str x => ret (signs x)
  | _ => bad
theorem mono_signsW (d : PyData) : Mono (signsW d) := by
  unfold signsW
  split <;> first | exact mono_ret _ | exact mono_bad
def iStr (f : Rho → Wp PyData) : Rho → Wp (List PyData) := fun ρ => bnd (f ρ) signsW
theorem i_str {b : Bool} {e : Expr} {f : Rho → Wp PyData} (h : E X false e f) : I X b tg e (iStr f) := by
  refine ⟨pi_imp (pi_str h.pe) fun σ H R ⟨fr, O, ρ, A, q⟩ => ?_, fun ρ => mono_bnd (h.mo ρ) mono_signsW⟩
  refine ⟨fr, O, ρ, A, h.mo ρ _ _ (fun d k v H1 e1 g1 => ?_) q⟩
  unfold signsW at k
  split at k
  · rename_i x
    cases (show TopD _ _ _ _ _ from g1).str
    refine ⟨x, rfl, k _ H1 e1 ⟨fun _ => True, fun i H v H' => H' = H ∧ ∃ c, x.cps[i]? = some c ∧ v = .str ⟨#[c]⟩, ?_, fun _ _ => trivial, fun i Ha u Hb W hi k hW y => ?_⟩⟩
    · have w := walk_str (z := x)
      have e : x.cps.size = (signs x).length := by simp [signs]
      rw [e] at w
      exact w
    · obtain ⟨rfl, c, hc, rfl⟩ := y
      exact ⟨Same.refl _, .str ⟨#[c]⟩, by simp [signs, hc], .str _⟩
  · exact False.elim k
end
end Lq
namespace Lq
open PySem L2
/-! ### constructors and terms as data -/
def consD (cs : List (Str × Nat)) : PyData := .tuple (cs.map fun c => .tuple [.str c.1, .int (c.2 : Int)])
mutual
def tmD : Cf.Tm → PyData
  | .var n => .int n
  | .node w ps => .tuple (.str w :: tmsD ps)
def tmsD : List Cf.Tm → List PyData
  | [] => []
  | t :: ts => tmD t :: tmsD ts
end
section
variable {U : Addr → Prop} {H : Hp}
theorem dat_int {v : V} {i : Int} (h : Dat U H v (.int i)) : v = .int i := by cases h; rfl
theorem dat_str {v : V} {x : Str} (h : Dat U H v (.str x)) : v = .str x := by cases h; rfl
theorem dat_tup {v : V} {ds : List PyData} (h : Dat U H v (.tuple ds)) : ∃ p vs, v = .ref p ∧ H p = some (.tup vs) ∧ Dats U H vs ds := by
  cases h with
  | tup a b => exact ⟨_, _, rfl, a, b⟩
theorem dat_lst {v : V} {ds : List PyData} (h : Dat U H v (.list ds)) : ∃ p vs, v = .ref p ∧ ¬ U p ∧ H p = some (.lst vs) ∧ Dats U H vs ds := by
  cases h with
  | lst n a b => exact ⟨_, _, rfl, n, a, b⟩
theorem dats_nil {vs : List V} (h : Dats U H vs []) : vs = [] := by cases h; rfl
theorem dats_cons {vs : List V} {d : PyData} {ds : List PyData} (h : Dats U H vs (d :: ds)) : ∃ v us, vs = v :: us ∧ Dat U H v d ∧ Dats U H us ds := by
  cases h with
  | cons a b => exact ⟨_, _, rfl, a, b⟩
theorem dats_ints : ∀ {ns : List Int} {vs : List V}, Dats U H vs (ns.map .int) → vs = ns.map V.int
  | [], _, h => dats_nil h
  | n :: ns, _, h => by
    obtain ⟨v, us, rfl, a, b⟩ := dats_cons h
    rw [dat_int a, dats_ints b]; rfl
theorem ints_dats : ∀ (ns : List Int), Dats U H (ns.map V.int) (ns.map .int)
  | [] => .nil
  | _ :: ns => .cons (.int _) (ints_dats ns)
theorem strs_dats : ∀ (ws : List Str), Dats U H (ws.map V.str) (ws.map .str)
  | [] => .nil
  | _ :: ws => .cons (.str _) (strs_dats ws)
theorem cons_at : ∀ {cs : List (Str × Nat)} {vs : List V}, Dats U H vs (cs.map fun c => PyData.tuple [.str c.1, .int (c.2 : Int)]) → ∃ ps : List Addr, vs = ps.map V.ref ∧ Paired (Cf.PairAt H) ps cs
  | [], _, h => ⟨[], dats_nil h, .nil⟩
  | c :: cs, _, h => by
    obtain ⟨v, us, rfl, a, b⟩ := dats_cons h
    obtain ⟨p, ws, rfl, hp, a⟩ := dat_tup a
    obtain ⟨v1, w1, rfl, a1, a⟩ := dats_cons a
    obtain ⟨v2, w2, rfl, a2, a⟩ := dats_cons a
    rw [dat_str a1, dat_int a2, dats_nil a] at hp
    obtain ⟨ps, rfl, kk⟩ := cons_at b
    exact ⟨p :: ps, rfl, .cons hp kk⟩
theorem dat_cons {v : V} {cs : List (Str × Nat)} (h : Dat U H v (consD cs)) : ∃ p, v = .ref p ∧ Cf.ConsAt H p cs := by
  obtain ⟨p, vs, rfl, hp, a⟩ := dat_tup h
  obtain ⟨ps, rfl, k⟩ := cons_at a
  exact ⟨p, rfl, ps, hp, k⟩
theorem at_cons : ∀ {ps : List Addr} {cs : List (Str × Nat)}, Paired (Cf.PairAt H) ps cs → Dats U H (ps.map V.ref) (cs.map fun c => PyData.tuple [.str c.1, .int (c.2 : Int)])
  | _, _, .nil => .nil
  | _, _, .cons h r => .cons (.tup h (.cons (.str _) (.cons (.int _) .nil))) (at_cons r)
theorem cons_dat {p : Addr} {cs : List (Str × Nat)} (h : Cf.ConsAt H p cs) : Dat U H (.ref p) (consD cs) := by
  obtain ⟨ps, hp, k⟩ := h
  exact .tup hp (at_cons k)
mutual
theorem tm_dat : ∀ {v : V} {t : Cf.Tm}, Cf.TmAt H v t → Dat U H v (tmD t)
  | _, _, .var n => .int n
  | _, _, .node h r => .tup h (.cons (.str _) (tms_dat r))
theorem tms_dat : ∀ {v : List V} {t : List Cf.Tm}, Cf.TmsAt H v t → Dats U H v (tmsD t)
  | _, _, .nil => .nil
  | _, _, .cons h r => .cons (tm_dat h) (tms_dat r)
end
mutual
theorem dat_tm : ∀ {v : V} (t : Cf.Tm), Dat U H v (tmD t) → Cf.TmAt H v t
  | _, .var n, h => by rw [dat_int h]; exact .var n
  | _, .node w ps, h => by
    obtain ⟨p, vs, rfl, hp, a⟩ := dat_tup h
    obtain ⟨v1, w1, rfl, a1, a⟩ := dats_cons a
    rw [dat_str a1] at hp
    exact .node hp (dats_tms ps a)
theorem dats_tms : ∀ {v : List V} (t : List Cf.Tm), Dats U H v (tmsD t) → Cf.TmsAt H v t
  | _, [], h => by rw [dats_nil h]; exact .nil
  | _, t :: ts, h => by
    obtain ⟨v1, w1, rfl, a1, a⟩ := dats_cons h
    exact .cons (dat_tm t a1) (dats_tms ts a)
end
end
section
variable {P : Program} {w : World} {K : PySem.W.Frag} {mg : Str → Option Value} {base : Heap}
def mCons : List PyData → Wp PyData
  | [] => fun Q => ∀ cs, Cf.ConsOk cs → Q (consD cs)
  | _ => bad
theorem conv_cons {j : Nat} (C : Cf.At P w K mg base "_law_constructors" j ["pool"] Cf.spCons) : Cf.At P w K mg base "_law_constructors" j ["pool"] (spQP 0 mCons) := by
  refine at_imp C fun vs H Q E h => ?_
  obtain ⟨ds, U, a, c, us, rfl, h1, hp, ha, hU, h2, R, hm, hi⟩ := h
  cases h2 with
  | cons _ _ => cases h1
  | nil => exact ⟨a, c, rfl, hp, fun cs p H' ok n hc hp' e => hi _ (hm cs ok) _ _ (ex_but e hp') (cons_dat hc)⟩
def mTerm (n : Nat) (ds : List PyData) : Wp PyData := fun Q => ∃ cs ns, ∃ d : Nat, ds = [consD cs, .list (ns.map .int), .int d] ∧ Cf.ConsOk cs ∧ ns.length ≤ 1000 ∧ 1 ≤ d ∧ d ≤ n ∧ ∀ t, Cf.TmOver cs ns d t → Q (tmD t)
theorem conv_term {j n : Nat} (C : Cf.At P w K mg base "_law_term" j ["pool", "constructors", "numbers", "deep"] (Cf.spTerm K n)) : Cf.At P w K mg base "_law_term" j ["pool", "constructors", "numbers", "deep"] (spQP 3 (mTerm n)) := by
  refine at_imp C fun vs H Q E h => ?_
  obtain ⟨ds, U, a, c, us, rfl, h1, hp, ha, hU, h2, R, ⟨cs, ns, d, rfl, m1, m2, m3, m4, m5⟩, hi⟩ := h
  obtain ⟨v1, w1, rfl, a1, h3⟩ := dats_cons h2
  obtain ⟨v2, w2, rfl, a2, h4⟩ := dats_cons h3
  obtain ⟨v3, w3, rfl, a3, h5⟩ := dats_cons h4
  obtain ⟨cp, rfl, hc⟩ := dat_cons a1
  obtain ⟨np, xs, rfl, nu, hn, b2⟩ := dat_lst a2
  rw [dats_ints b2] at hn
  have e3 := dats_nil h5
  subst e3
  rw [dat_int a3]
  exact ⟨a, c, cp, np, cs, ns, d, rfl, hp, hc, m1, SqL.of hn, fun z => nu (by rw [z]; exact ha), m2, m3, m4, fun v t H' ht ho hp' e => hi _ (m5 t ho) _ _ (ex_but e hp') (tm_dat ht)⟩
end
end Lq
namespace Lq
open PySem L2
/-! ### drawn words as data -/
section
variable {P : Program} {w : World} {K : PySem.W.Frag} {mg : Str → Option Value} {base : Heap}
theorem dats_strs {U : Addr → Prop} {H : Hp} : ∀ {ns : List Str} {vs : List V}, Dats U H vs (ns.map .str) → vs = ns.map V.str
  | [], _, h => dats_nil h
  | n :: ns, _, h => by
    obtain ⟨v, us, rfl, a, b⟩ := dats_cons h
    rw [dat_str a, dats_strs b]; rfl
def mWords : List PyData → Wp PyData
  | [.int n] => fun Q => (0 ≤ n ∧ n ≤ 100) ∧ ∀ ws : List Str, (ws.length : Int) = n → ws.Nodup → (∀ w ∈ ws, Cf.WordOk w) → Q (.list (ws.map .str))
  | _ => bad
theorem conv_words {j : Nat} (C : Cf.At P w K mg base "_law_words" j ["pool", "many"] Cf.spWords) : Cf.At P w K mg base "_law_words" j ["pool", "many"] (spQP 1 mWords) := by
  refine at_imp C fun vs H Q E h => ?_
  obtain ⟨ds, U, a, c, us, rfl, h1, hp, ha, hU, h2, R, hm, hi⟩ := h
  cases h2 with
  | nil => cases h1
  | cons x y =>
    cases y with
    | cons _ _ => cases h1
    | nil =>
      cases x with
      | int n =>
        obtain ⟨⟨n0, n1⟩, hm⟩ := hm
        obtain ⟨k, rfl⟩ := Int.eq_ofNat_of_zero_le n0
        refine ⟨a, c, k, rfl, hp, by omega, fun ws p H' l nd ok np hp' hP e => hi _ (hm ws (by omega) nd ok) _ _ (ex_but e hP) (.lst (fun u => hU p u np) hp' (strs_dats ws))⟩
      | non => exact False.elim hm
      | bl _ => exact False.elim hm
      | str _ => exact False.elim hm
      | tup _ _ => exact False.elim hm
      | lst _ _ _ => exact False.elim hm
      | dic _ _ _ => exact False.elim hm
      | dit _ _ _ => exact False.elim hm
end
end Lq
namespace Lq
open PySem L2
/-! ### {k: v, ..} -/
def mergeP (es more : List (PyData × PyData)) : List (PyData × PyData) := more.foldl (fun acc p => putP acc p.1 p.2) es
theorem merge_k {W : Addr → Prop} {H : Hp} {more : List (Key × V)} : ∀ {ms : List (PyData × PyData)} {kvs : List (Key × V)} {es : List (PyData × PyData)}, DatK W H more ms → DatK W H kvs es → DatK W H (mergeK kvs more) (mergeP es ms) := by
  induction more with
  | nil => intro ms kvs es h k; cases h; exact k
  | cons p more ih => intro ms kvs es h k; cases h with | @cons key _ _ _ _ hd r => (have z := ih r (put_k (k := key) k hd); exact z)
def ppNil : Rho → Wp (List (PyData × PyData)) := fun _ => ret []
def ppCons (fk fv : Rho → Wp PyData) (r : Rho → Wp (List (PyData × PyData))) : Rho → Wp (List (PyData × PyData)) := fun ρ => bnd (fk ρ) fun y => bnd (fv ρ) fun z => bnd (r ρ) fun es => bnd (keyW y) fun j => ret ((kD j, z) :: es)
structure PP (X : Cx) (pos : Pos) (keys : List (Option Expr)) (vals : List Expr) (f : Rho → Wp (List (PyData × PyData))) : Prop where
  ex : ∃ trs, PPs X pos keys vals trs ∧ ∀ {fr : Fr} {O : List (Option Addr)} {σ : St} {ρ : Rho} {H : Hp} {Q : List (V × V) → Hp → Prop}, At fr O σ ρ H →
    (f ρ fun es => ∀ (kvs : List (Key × V)) H', Ex fr.pl H H' → DatK (Wd fr O) H' kvs es → Q (kvs.map fun kv => (kV kv.1, kv.2)) H') → tPairs trs σ H Q
  mo : ∀ ρ, Mono (f ρ)
section
variable {X : Cx} {pos : Pos}
theorem pp_nil : PP X pos [] [] ppNil := ⟨⟨[], pps_nil, fun A q => q [] _ A.refl .nil⟩, fun _ => mono_ret _⟩
theorem pp_cons {k v : Expr} {ks : List (Option Expr)} {vs : List Expr} {fk fv : Rho → Wp PyData} {r : Rho → Wp (List (PyData × PyData))} (hk : E X true k fk) (hv : E X true v fv) (hr : PP X pos ks vs r) : PP X pos (some k :: ks) (v :: vs) (ppCons fk fv r) := by
  obtain ⟨trs, h1, h2⟩ := hr.ex
  refine ⟨⟨_, pps_cons hk.pe hv.pe h1, fun {fr O σ ρ H Q} A q => ?_⟩, fun ρ => mono_bnd (hk.mo ρ) fun _ => mono_bnd (hv.mo ρ) fun _ => mono_bnd (hr.mo ρ) fun _ => mono_bnd (mono_keyW _) fun _ => mono_ret _⟩
  refine ⟨fr, O, ρ, A, hk.mo ρ _ _ (fun y k1 x H1 e1 g1 => ?_) q⟩
  have A1 := A.ex e1
  refine ⟨fr, O, ρ, A1, hv.mo ρ _ _ (fun z k2 u H2 e2 g2 => ?_) k1⟩
  have A2 := A1.ex e2
  refine h2 A2 (hr.mo ρ _ _ (fun es k3 kvs H3 e3 dk => ?_) k2)
  obtain ⟨j, rfl, k4⟩ := keyW_ok k3
  have ex : x = kV j := key_at (U := fun _ => False) (.of (show Dat (Wd fr O) H1 x (kD j) from g1))
  subst ex
  exact k4 ((j, u) :: kvs) H3 ((e1.trans e2).trans e3) (.cons (A2.gd (g := true) e3 g2) dk)
/-- a new thing stands apart while what is put into it is made -/
theorem At.under {fr : Fr} {O : List (Option Addr)} {σ : St} {ρ : Rho} {H : Hp} (A : At fr O σ ρ H) {D : Addr} (nD : H D = none) (o : HO) :
    At ⟨fun b => fr.U b ∨ b = D, fun b => some b ∈ O ∨ ∃ c, fr.pl = some (b, c), fr.pl, upd H D o, fr.gh⟩ O σ ρ (upd H D o) := by
  have e : Ex fr.pl H (upd H D o) := Ex.new A nD
  refine ⟨?_, fun _ _ _ h => h, fun a c z => ⟨e.pool a c z, .inr ⟨c, z⟩, .inl (A.pool a c z).2.2⟩, fun p m => ?_, A.nd, fun b u => ?_, fun _ h => h, A.gh⟩
  · obtain ⟨v1, v2⟩ := A.via (b := false) (H' := upd H D o) e
    refine A.sl.to (fun q n h z => ?_) v1 v2 fun p o m h => e.keep p o (fun a c z => ((A.own p m).2.1 a c z).1) h
    rcases z with (z | z) | z
    · exact n (.inl z)
    · exact h (by rw [z]; exact nD)
    · exact n (.inr z)
  · refine ⟨⟨fun u => u.elim (A.own p m).1.1 fun z => ?_, .inl (.inl m)⟩, ((A.ex e).own p m).2⟩
    exact A.wd (.inr m) (by rw [z]; exact nD)
  · rcases u with u | u
    · exact e.there b (A.wd (.inl u))
    · show upd H D o b ≠ none
      rw [u, upd_same]; exact Option.some_ne_none _
def eDisp (f : Rho → Wp (List (PyData × PyData))) : Rho → Wp PyData := fun ρ => bnd (f ρ) fun es => gd (es.length ≤ 15) (.dict (mergeP [] es))
theorem e_disp {g : Bool} {keys : List (Option Expr)} {vals : List Expr} {f : Rho → Wp (List (PyData × PyData))} (h : PP X pos keys vals f) (hall : keys.all (·.isSome) = true := by rfl) (hl : keys.length = vals.length := by rfl) (h0 : keys ≠ [] := by exact fun z => by cases z) (h15 : keys.length ≤ 15 := by decide) :
    E X g (.Dict keys vals pos) (eDisp f) := by
  obtain ⟨trs, h1, h2⟩ := h.ex
  refine E.tr ⟨pe_imp (pe_disp h1 hall hl h0 h15) fun σ H Q ⟨fr, O, ρ, A, q⟩ => ?_, fun ρ => mono_bnd (h.mo ρ) fun _ => mono_gd _⟩
  intro D nD
  have B := A.under nD (.dK [])
  have eD : Ex fr.pl H (upd H D (.dK [])) := Ex.new A nD
  have Dpool : ∀ a c, fr.pl = some (a, c) → D ≠ a ∧ D ≠ c := fun a c e => by
    obtain ⟨h1, h2⟩ := pool_two (A.pool a c e).1
    exact ⟨fun z => h1 (by rw [← z]; exact nD), fun z => h2 (by rw [← z]; exact nD)⟩
  refine h2 B (h.mo ρ _ _ (fun es k kvs H' e dk => ?_) q)
  have hD : H' D = some (.dK []) := e.keep D _ (fun a c z => (Dpool a c z).1) upd_same
  refine ⟨hD, kvs, rfl, by rw [datK_len dk]; exact k.1, ?_⟩
  have m := merge_k dk (DatK.nil (U := _) (H := H'))
  have eT : Ex fr.pl H (upd H' D (.dK (mergeK [] kvs))) := by
    have e2 := eD.trans e
    refine ⟨fun b o n h => ?_, fun a c z => pool_up (e2.pool a c z) (Dpool a c z).1 (Dpool a c z).2, fun b h => ?_⟩
    · rw [upd_ne (ne_of_none h nD)]; exact e2.keep b o n h
    · by_cases z : b = D
      · rw [z, upd_same]; exact Option.some_ne_none _
      · rw [upd_ne z]; exact e2.there b h
  refine k.2 _ _ eT (Dat.dic (fun w => A.wd w nD) (.inl upd_same) (m.to (fun q n h z => ?_) (fun q vs h => ?_) fun q o n h => ?_))
  · rcases z with z | z
    · exact n (.inl (.inl z))
    · exact n (.inr z)
  · rw [upd_ne (ne_of h hD (by intro z; cases z))]; exact h
  · rw [upd_ne (fun z => n (.inl (.inr z)))]; exact h
end
end Lq
namespace Lq
open PySem PySem.Spec PyProof.Rows L2
/-! ### list(d.values()) -/
theorem kv_get {kvs : List (Key × V)} {vs : List (Key × Value)} (r : KV kvs vs) : ∀ {j : Nat} {k : Key} {v : Value}, vs[j]? = some (k, v) → ∃ x, (kvs.map (·.2))[j]? = some x ∧ RelV x v := by
  induction r with
  | nil => intro j k v h; simp at h
  | @cons p q ps qs h t ih =>
    intro j k v e
    cases j with
    | zero =>
      have e : q = (k, v) := by simpa using e
      subst e
      exact ⟨p.2, rfl, h.2⟩
    | succ j =>
      obtain ⟨x, a, b⟩ := ih (j := j) (k := k) (v := v) (by simpa using e)
      exact ⟨x, by simpa using a, b⟩
section
variable {X : Cx} {o : Expr} {td : TE} {p apos cpos pos : Pos}
def tListVals (td : TE) : TE := fun σ H Q => td σ H fun x H1 => ∃ d kvs, x = .ref d ∧ Rd H1 d (.dK kvs) ∧ ∀ q, H1 q = none → Q (.ref q) (upd H1 q (.lst (kvs.map (·.2))))
theorem pe_listVals (hc : X.calm = true) (hg : Gl X "list") (hm : X.mg "list" = none) (ho : PE X o td) (hbase : attributeBase o "values" X.env (eval o X.env) = eval o X.env := by rfl) (hline : (apos.endLine == cpos.line) = true := by rfl)
    (na : starEach [.Call (.Attribute o "values" apos) [] [] cpos] X.env = (false, eval (.Call (.Attribute o "values" apos) [] [] cpos) X.env) :: starEach [] X.env := by rfl) : PE X (.Call (.Name "list" p) [.Call (.Attribute o "values" apos) [] [] cpos] [] pos) (tListVals td) := by
  refine ⟨fun pins s σ H Q I h => ?_⟩
  refine Call_ (ld_blt I hg hm boot_list (PyProof.Rows.callWith_type1 (PyProof.Rows.args_cons ?_ na) na))
  refine wpAny_Call_method (T := "dict") (id := "dict.values") hbase rfl hline F.plainAttrs_dict F.slot_dict_values F.type_dict_values (thn (ho.run pins s σ H _ I h) fun u s1 ⟨x, H1, I1, rx, d, kvs, ex, hd, q⟩ => ?_)
  subst ex
  obtain rfl : u = Value.ref d := rx
  obtain ⟨z, lo, vs, rk, hdd⟩ := (show ObjOk X.prog X.w H1 s1.heap d (.dK kvs) from hd.ok I1.hok)
  obtain ⟨ep, hat⟩ := hdd.dictAt
  have hl : kvs.length = vs.length := Paired.length rk
  refine ⟨hdd.typeIs, hdd.mapOf.noDict, ?_⟩
  have I2 : Inv X pins σ H1 { s1 with heap := s1.heap.push { cls := .type "dict_values", data := .fields #[.ref d] } } := I1.kept (t' := s1.toks) fun b ob q => Heap.get?_push_of_some _ q
  refine PySem.method_meetsIn F.slot_dict_values F.entry_dict_values rfl (PySem.evalArgs_none ⟨rfl, hdd.typeIs, F.args_dict_values_1 _, _, meets_dict_values (mixKind X.prog X.w) d lo, ⟨vs, hdd⟩, ?_⟩)
  refine PyProof.Rows.args_nil ?_
  refine PySem.W.kdl_call (PySem.W.kdl_values (knd := mixKind X.prog X.w) (kvs := vs) (ep := ep) (d := d)) (I2.ok.hd hc) ⟨⟨_, Heap.get?_push_size _ rfl, rfl, rfl⟩, hat.push _⟩ (by rw [← hl]; exact z) fun h' tk acc' c' hkeep hS hacc => ?_
  refine ⟨.ref _, upd H1 _ (.lst (kvs.map (·.2))), I2.laid hkeep (Nat.le_refl _) (show ObjOk X.prog X.w _ _ _ (.lst (kvs.map (·.2))) from ⟨?_, acc'.toList, c', ?_, ?_⟩), rfl, q _ (I2.hok.fresh (Nat.le_refl _))⟩
  · rw [List.length_map]; exact z
  · have el : acc'.toList.length = acc'.size := by simp
    refine vals_of_at (by rw [List.length_map, el, hacc.1, hl]) fun j x w h1 h2 => ?_
    obtain ⟨k, hi⟩ := hacc.2 j w (by rw [← Array.getElem?_toList]; exact h2)
    obtain ⟨y, e1, e2⟩ := kv_get rk hi
    rw [h1] at e1
    cases e1
    exact e2
  · rw [Array.toArray_toList]; exact hS
def valsQ : PyData → Wp PyData
  | .dict ((.none, _) :: _) => bad
  | .dict es => ret (.list (es.map (·.2)))
  | _ => bad
theorem mono_valsQ (d : PyData) : Mono (valsQ d) := by
  unfold valsQ
  split <;> first | exact mono_ret _ | exact mono_bad
theorem datK_vals {W : Addr → Prop} {H : Hp} : ∀ {kvs : List (Key × V)} {es : List (PyData × PyData)}, DatK W H kvs es → Dats W H (kvs.map (·.2)) (es.map (·.2))
  | _, _, .nil => .nil
  | _, _, .cons h r => .cons h (datK_vals r)
def eListVals (f : Rho → Wp PyData) : Rho → Wp PyData := fun ρ => bnd (f ρ) valsQ
theorem e_listVals {g : Bool} {f : Rho → Wp PyData} (hc : X.calm = true) (hm : X.mg "list" = none) (ho : E X false o f) (hg : Gl X "list" := by rfl) (hbase : attributeBase o "values" X.env (eval o X.env) = eval o X.env := by rfl) (hline : (apos.endLine == cpos.line) = true := by rfl)
    (na : starEach [.Call (.Attribute o "values" apos) [] [] cpos] X.env = (false, eval (.Call (.Attribute o "values" apos) [] [] cpos) X.env) :: starEach [] X.env := by rfl) : E X g (.Call (.Name "list" p) [.Call (.Attribute o "values" apos) [] [] cpos] [] pos) (eListVals f) := by
  refine E.tr ⟨pe_imp (pe_listVals hc hg hm ho.pe hbase hline na) fun σ H Q ⟨fr, O, ρ, A, q⟩ => ?_, fun ρ => mono_bnd (ho.mo ρ) mono_valsQ⟩
  refine ⟨fr, O, ρ, A, ho.mo ρ _ _ (fun d k v H1 e1 g1 => ?_) q⟩
  have A1 := A.ex e1
  unfold valsQ at k
  split at k
  · exact k.elim
  · obtain ⟨b, rfl, hh⟩ := (topd_of g1).dict
    rename_i es hes
    rcases hh with ⟨kvs, a, b⟩ | ⟨kvs, fs, e, a, b⟩
    · exact ⟨_, kvs, rfl, a, fun r n => k _ _ (e1.trans (A1.same (dat_new n))) (Dat.lst (wd_new A1 n) upd_same ((datK_vals b).same (dat_new n)))⟩
    · exact (hes _ _ (by rw [e])).elim
  · exact k.elim
end
end Lq
namespace Lq
open PySem L2
/-! ### a tuple some times over; a + b as a new list -/
section
variable {X : Cx}
def mulTQ : PyData → PyData → Wp PyData
  | .tuple ds, .int k => gd (ds ≠ [] ∧ 2 ≤ k ∧ k ≤ 1000 ∧ ds.length ≤ 1000) (.tuple (List.replicate k.toNat ds).flatten)
  | _, _ => bad
theorem mono_mulTQ (d e : PyData) : Mono (mulTQ d e) := by
  unfold mulTQ
  split <;> first | exact mono_gd _ | exact mono_bad
theorem dats_rep {W : Addr → Prop} {H : Hp} {vs : List V} {ds : List PyData} (h : Dats W H vs ds) : ∀ n : Nat, Dats W H (List.replicate n vs).flatten (List.replicate n ds).flatten
  | 0 => .nil
  | n + 1 => by
    rw [List.replicate_succ, List.replicate_succ, List.flatten_cons, List.flatten_cons]
    exact h.append (dats_rep h n)
theorem q_mulT : OpQ X (binaryOp .Mult) mulTQ := by
  refine ⟨⟨_, op_repT, fun {fr O σ ρ H x y d e Q} A hx hy q => ?_⟩, mono_mulTQ⟩
  unfold mulTQ at q
  split at q
  · obtain ⟨p, vs, rfl, a, b⟩ := hx.tup
    cases hy.int
    obtain ⟨⟨h1, h2, h3, h4⟩, q⟩ := q
    refine ⟨p, _, vs, rfl, rfl, SqT.of a, fun z => h1 ?_, h2, h3, by rw [b.length]; exact h4, fun r n => ?_⟩
    · subst z; cases b; rfl
    · exact q _ _ (dat_new n) (.tup upd_same ((dats_rep b _).same (dat_new n)))
  · exact q.elim
variable {a b : Expr} {pos : Pos} {f k : Rho → Wp PyData}
/-- a list and a list: a new one -/
def catL : PyData → PyData → Wp (List PyData)
  | .list a, .list b => gd (a.length + b.length ≤ sizeLine) (a ++ b)
  | _, _ => bad
theorem mono_catL (d e : PyData) : Mono (catL d e) := by
  unfold catL
  split <;> first | exact mono_gd _ | exact mono_bad
def lAdd (f k : Rho → Wp PyData) : Rho → Wp (List PyData) := fun ρ => bnd (f ρ) fun d => bnd (k ρ) fun e => catL d e
theorem mono_lAdd (ha : ∀ ρ, Mono (f ρ)) (hb : ∀ ρ, Mono (k ρ)) (ρ : Rho) : Mono (lAdd f k ρ) := mono_bnd (ha ρ) fun d => mono_bnd (hb ρ) fun e => mono_catL d e
theorem f_add (ha : E X false a f) (hb : E X false b k) : EF X (.BinOp a .Add b pos) (lAdd f k) := by
  refine ⟨pe_imp (pe_op op_cat ha.pe hb.pe) fun σ H Q ⟨fr, O, ρ, A, q⟩ => ?_, mono_lAdd ha.mo hb.mo⟩
  refine ⟨fr, O, ρ, A, ha.mo ρ _ _ (fun d k1 x H1 e1 g1 => ?_) q⟩
  have A1 := A.ex e1
  refine ⟨fr, O, ρ, A1, hb.mo ρ _ _ (fun e k2 y H2 e2 g2 => ?_) k1⟩
  have A2 := A1.ex e2
  have g1 : TopD fr.U (Wd fr O) H2 x d := A1.gd (g := false) e2 g1
  have e12 := e1.trans e2
  have nn : ∀ {l}, H2 l = none → H l = none := fun {l} n => by
    cases z : H l with
    | none => rfl
    | some o => exact absurd n (e12.there l (by rw [z]; exact Option.some_ne_none _))
  have go : ∀ {vs : List V} {ds : List PyData} {l : Addr}, Dats (Wd fr O) H2 vs ds → H2 l = none → Dats (fun b => Wd fr O b ∨ b = l) (upd H2 l (.lst vs)) vs ds := fun {vs ds l} b n =>
    b.to (fun q n' h z => z.elim n' fun e => h (by rw [e]; exact n)) (fun q vs h => by rw [upd_ne (ne_of_none h n)]; exact h) fun q o _ h => by rw [upd_ne (ne_of_none h n)]; exact h
  have k2 : catL d e _ := k2
  unfold catL at k2
  split at k2
  · obtain ⟨p, vs, rfl, a1, b1⟩ := g1.list
    obtain ⟨p2, vs2, rfl, a2, b2⟩ := (topd_of g2).list
    exact ⟨p, p2, vs, vs2, rfl, rfl, a1, a2, by rw [b1.length, b2.length]; exact k2.1, fun l n => k2.2 l _ _ (nn n) (e12.trans (Ex.new A2 n)) upd_same (go (b1.append b2) n)⟩
  · exact False.elim k2
end
end Lq
namespace Lq
open PySem PySem.W L2 PyProof.Rows
/-! ### sorted(a list of alike data) -/
theorem vals_each : ∀ {vs : List V} {us : List Value} {ds : List PyData} , Vals vs us → vs.length = ds.length → EachIs (fun u (b : V × PyData) => RelV b.1 u) us (vs.zip ds)
  | _, _, [], .nil, _ => .nil
  | _, _, d :: ds, .cons r t, h => .cons r (vals_each t (Nat.succ.inj h))
  | _, _, [], .cons _ _, h => by simp at h
  | _, _, _ :: _, .nil, h => by simp at h
theorem each_vals : ∀ {us : List Value} {bs : List (V × PyData)}, EachIs (fun u (b : V × PyData) => RelV b.1 u) us bs → Vals (bs.map (·.1)) us
  | _, _, .nil => .nil
  | _, _, .cons r t => .cons r (each_vals t)
def srt (vs : List V) (ds : List PyData) : List (V × PyData) := (vs.zip ds).mergeSort (dataLe false (·.2))
def srtD (ds : List PyData) : List PyData := ds.mergeSort (dataLe false id)
theorem srt_snd {vs : List V} {ds : List PyData} (h : vs.length = ds.length) : (srt vs ds).map (·.2) = srtD ds := by
  have z := List.map_mergeSort (r := dataLe false fun b : V × PyData => b.2) (s := dataLe false id) (f := fun b => b.2) (l := vs.zip ds) (fun _ _ _ _ => rfl)
  have hm : (vs.zip ds).map (fun b => b.2) = ds := List.map_snd_zip (by omega)
  unfold srt srtD
  rw [z, hm]
section
variable {X : Cx}
def rSD (X : Cx) : List V → Hp → VK → Prop := fun xs H Q => ∃ l vs ds, xs = [.ref l] ∧ SqL X.K H l vs ∧ vs.length = ds.length ∧ (∀ (pins : List (Addr × Obj)) (σ : L2.St) (s : Shared) (us : List Value), Inv X pins σ H s → Vals vs us → ∃ as, ReadsAll s.heap us ds as) ∧ AllAlike ds ∧ Sortable ds ∧ (∀ d ∈ ds, d.depth ≤ 50) ∧
  ∀ p, H p = none → Q (.ref p) (upd H p (.lst ((srt vs ds).map (·.1))))
theorem call_sortedL (hu : X.A.units + 64 < cLine) : CallR X (.builtin "sorted") (rSD X) := by
  intro pins s σ H xs us Q I r h
  obtain ⟨l, vs, ds, rfl, hq, hl, hr, ha, hk, hd, q⟩ := h
  obtain ⟨u, rfl, rx⟩ := vals1 r
  cases rx
  obtain ⟨its, r', pl, hz⟩ := I.list hq
  have hlen := r'.length
  obtain ⟨as, ra⟩ := hr pins σ s its I r'
  have hm : (vs.zip ds).map (·.2) = ds := List.map_snd_zip (by omega)
  have hzl : (vs.zip ds).length = vs.length := by rw [List.length_zip]; omega
  refine sorted_data (bs := vs.zip ds) (enc := fun b : V × PyData => b.2) (R := fun u (b : V × PyData) => RelV b.1 u) pl.isList (vals_each r' hl) (readsAll_each (fun b : V × PyData => b.2) (by rw [hm]; exact ra)) (by rw [hm]; exact ha) (by rw [hm]; exact hk) (by omega) (fun b hb => ?_) fun out ho eo => ?_
  · have := hd b.2 (by rw [← hm]; exact List.mem_map_of_mem hb)
    omega
  · obtain ⟨c, hc⟩ := sortedAll_at s.heap its out.toArray
    exact ⟨.ref (s.heap.objs.size + 1), _, I.laid (t' := s.toks) (fun _ _ => sortedAll_old) (Nat.le_succ _) (show ObjOk X.prog X.w _ _ _ (.lst ((srt vs ds).map (·.1))) from ⟨by rw [List.length_map]; unfold srt; rw [List.length_mergeSort]; omega, out, c, each_vals eo, hc⟩), rfl, q _ (I.hok.fresh (Nat.le_succ _))⟩
theorem zip_dat {W : Addr → Prop} {H : Hp} : ∀ {vs : List V} {ds : List PyData}, Dats W H vs ds → ∀ b ∈ vs.zip ds, Dat W H b.1 b.2
  | _, _, .nil, b, h => by cases h
  | _, _, .cons a r, b, h => by
    rcases List.mem_cons.mp h with rfl | m
    · exact a
    · exact zip_dat r b m
theorem srt_dats {W : Addr → Prop} {H : Hp} {vs : List V} {ds : List PyData} (h : Dats W H vs ds) : Dats W H ((srt vs ds).map (·.1)) (srtD ds) := by
  have hl := h.length
  rw [← srt_snd hl]
  have hm : ∀ b ∈ srt vs ds, Dat W H b.1 b.2 := fun b hb => zip_dat h b ((List.mergeSort_perm _ _).mem_iff.mp hb)
  generalize srt vs ds = bs at hm
  induction bs with
  | nil => exact .nil
  | cons b bs ih => exact .cons (hm b List.mem_cons_self) (ih fun x m => hm x (List.mem_cons_of_mem _ m))
end
end Lq
namespace Lq
open PySem PySem.W L2 PyProof.Rows
/-! ### sorted(a dict whose keys are tuples) -/
theorem each_flat {h : Heap} : ∀ {us : List Value} {bs : List (V × PyData)}, ReadsAll h us (bs.map fun b => b.2) [] → EachIs (fun u (b : V × PyData) => Reads h u b.2 []) us bs
  | _, [], r => by
    have r' : ReadsAll h _ [] _ := r
    cases r'
    exact .nil
  | us, b :: bs, r => by
    have r' : ReadsAll h us (b.2 :: bs.map fun b => b.2) [] := r
    generalize ha : ([] : List Addr) = as at r'
    cases r' with
    | cons h1 h2 =>
      obtain ⟨e1, e2⟩ := List.append_eq_nil_iff.mp ha.symm
      subst e1; subst e2
      exact .cons h1 (each_flat h2)
section
variable {X : Cx}
def rSDT (X : Cx) : List V → Hp → VK → Prop := fun xs H Q => ∃ d kvs ds, xs = [V.ref d] ∧ Rd H d (.dT kvs) ∧ kvs.length = ds.length ∧ (∀ bs, IsKeys H kvs bs → Dats (fun _ => False) H (bs.map V.ref) ds) ∧ flatTs ds = true ∧ AllAlike ds ∧ Sortable ds ∧ (∀ d ∈ ds, d.depth ≤ 50) ∧
  ∀ p bs, H p = none → IsKeys H kvs bs → Q (.ref p) (upd H p (.lst ((srt (bs.map V.ref) ds).map (·.1))))
theorem call_sortedT (hcalm : X.calm = true) (hu : X.A.units + 64 < cLine) : CallR X (.builtin "sorted") (rSDT X) := by
  intro pins s σ H xs us Q I r h
  obtain ⟨d, kvs, ds, rfl, hd, hkl, hdk, hnd, ha, hk, hdp, q⟩ := h
  obtain ⟨u, rfl, rx⟩ := r.one
  cases rx
  obtain ⟨z, hs, ks, pr, o, es, ep, ho, hx, hdt, he, hn⟩ := (show ObjOk X.prog X.w H s.heap d (.dT kvs) from hd.ok I.hok)
  have l1 : es.size = ks.length := size_of_entries he
  have l2 : kvs.length = ks.length := Paired.length pr
  refine Calls.call_function_entry PyProof.Rows.kind_sorted PyProof.Rows.plain_sorted PyProof.Rows.entry_sorted (PyProof.Rows.args_sorted1 _) ?_
  unfold Builtin.«sorted»
  refine wpAny_bind (m := checkCount "sorted" 1 1 _) (wpAny_pure ?_)
  refine wpAny_bind (PySem.W.kdu_collect (A := X.A.in1) (kdl_raw hs hx hdt) (I.ok.hd hcalm) ho (by omega) fun h' tk acc' kp it => ?_)
  have ea : acc'.toList = ks.map fun x => Value.ref x.2.1 := by
    have hl : acc'.toList.length = ks.length := by rw [Array.length_toList, it.1]; exact l1
    apply List.ext_getElem?
    intro j
    rw [List.getElem?_map]
    cases hj : acc'.toList[j]? with
    | none =>
      have h1 := List.getElem?_eq_none_iff.mp hj
      rw [List.getElem?_eq_none (by omega)]
      all_goals rfl
    | some v =>
      obtain ⟨en, hen, hv⟩ := it.2 j v (by rw [← Array.getElem?_toList]; exact hj)
      have qe := entry_at he j
      rw [hen] at qe
      cases hb : ks[j]? with
      | none =>
        rw [hb] at qe
        exact nomatch (show some en = none from qe)
      | some b =>
        rw [hb] at qe
        have e2 : en = entryOfKey (tupleKind (mixKind X.prog X.w)) b := Option.some.inj qe
        rw [hv, e2]
        all_goals rfl
  have eb : acc'.toList = (ks.map fun x => x.2.1).map Value.ref := by rw [ea, List.map_map]; all_goals rfl
  have rv : Vals ((ks.map fun x => x.2.1).map V.ref) acc'.toList := by rw [eb]; exact vals_refs _
  have hkeys : IsKeys H kvs (ks.map fun x => x.2.1) := isKeys_of pr
  have hD := hdk _ hkeys
  have hl : ((ks.map fun x => x.2.1).map V.ref).length = ds.length := hD.length
  have hal : acc'.toList.length = ds.length := by rw [← rv.length]; exact hl
  have ra := dats_reads0 I hD hnd rv
  have hzl : (((ks.map fun x => x.2.1).map V.ref).zip ds).length = ds.length := by rw [List.length_zip]; omega
  have hm : (((ks.map fun x => x.2.1).map V.ref).zip ds).map (fun b => b.2) = ds := List.map_snd_zip (by omega)
  have I1 : Inv X pins σ H { s with heap := h', toks := tk } := I.kept kp
  refine wpAny_bind (wpAny_newList ?_ (by omega))
  have hoL : (h'.push (seqObj "list" acc'.toList.toArray 0)).get? h'.objs.size = some (seqObj "list" acc'.toList.toArray 0) := Heap.get?_push_size _ rfl
  show wpAny _ _ _ _ _ { s with heap := h'.push (seqObj "list" acc'.toList.toArray 0), toks := tk }
  have kp2 : ∀ b o, s.heap.get? b = some o → (h'.push (seqObj "list" acc'.toList.toArray 0)).get? b = some o := fun b o e => Heap.get?_push_of_some _ (kp b o e)
  have er := each_flat (bs := ((ks.map fun x => x.2.1).map V.ref).zip ds) (us := acc'.toList) (h := s.heap) (by rw [hm]; exact ra)
  refine wpAny_bind (wpAny_holding (list_sort_data (s := { s with heap := h'.push (seqObj "list" acc'.toList.toArray 0), toks := tk }) (bs := ((ks.map fun x => x.2.1).map V.ref).zip ds) (enc := fun b : V × PyData => b.2) (R := fun u (b : V × PyData) => RelV b.1 u) hoL (vals_each rv hl) (er.mono fun v b r => ⟨[], PyProof.Rows.Reads.keeps kp2 r, List.not_mem_nil⟩) (by rw [hm]; exact ha) (by rw [hm]; exact hk) (by omega) (fun b hb => ?_) fun out ho' eo => ?_))
  · have := hdp b.2 (by rw [← hm]; exact List.mem_map_of_mem hb)
    have : X.A.in1.units = X.A.units + 1 := rfl
    omega
  obtain ⟨e', he'⟩ := PyProof.Rows.sortedHeap_at (vs := acc'.toList) (out := out.toArray) hoL
  refine wpAny_pure ⟨_, rfl, .ref h'.objs.size, _, I1.laid (t' := tk) (fun b u e => ?_) (Nat.le_refl _) (show ObjOk X.prog X.w _ _ _ (.lst ((srt ((ks.map fun x => x.2.1).map V.ref) ds).map (·.1))) from ⟨by rw [List.length_map]; unfold srt; rw [List.length_mergeSort]; omega, out, e', each_vals eo, he'⟩), rfl, q _ _ (I1.hok.fresh (Nat.le_refl _)) hkeys⟩
  have hb : b < h'.objs.size := Heap.lt_size e
  rw [PyProof.Rows.sortedHeap_old (Nat.ne_of_lt hb) (by rw [size_push']; exact Nat.lt_succ_of_lt hb)]
  exact Heap.get?_push_of_some _ e
structure SortOk (ds : List PyData) : Prop where
  alike : AllAlike ds
  able : Sortable ds
  dep : ∀ d ∈ ds, d.depth ≤ 50
def sortedQ : List PyData → Wp PyData
  | [.dict ((.none, _) :: es)] => gd (SortOk (es.map (·.1)) ∧ flatTs (es.map (·.1)) = true) (.list (srtD (es.map (·.1))))
  | [.list ds] => gd (SortOk ds ∧ PyData.hasDictAll ds = false) (.list (srtD ds))
  | _ => bad
theorem q_sorted (hc : X.calm = true) (hu65 : X.A.units + 65 < cLine) : CallQ X (.builtin "sorted") sortedQ := by
  have hu : X.A.units + 64 < cLine := by omega
  refine ⟨⟨_, (call_sortedL hu).or (call_sortedT hc hu), fun {fr O σ ρ H vs ds Q} A h q => ?_⟩, fun ds => ?_⟩
  · unfold sortedQ at q
    split at q
    · rename_i es
      cases h with
      | cons h r =>
        cases r
        obtain ⟨p, rfl, hh⟩ := (topd_of h).dict
        rcases hh with ⟨kvs, a, b⟩ | ⟨kvs, fs, e, a, b⟩
        · exact (datK_none b).elim
        · cases e
          obtain ⟨⟨⟨c1, c2, c4⟩, c3⟩, q⟩ := q
          exact .inr ⟨p, kvs, _, rfl, a, by rw [List.length_map]; exact datT_len b, fun bs k => datT_keys (Same.refl H) b k, c3, c1, c2, c4, fun l bs n k => q _ _ (dat_new n) (.lst (wd_new A n) upd_same (srt_dats (datT_keys (dat_new n) b k)))⟩
    · cases h with
      | cons h r =>
        cases r
        obtain ⟨p, vs, rfl, a, b⟩ := (topd_of h).list
        obtain ⟨⟨⟨c1, c2, c4⟩, c3⟩, q⟩ := q
        exact .inl ⟨p, vs, _, rfl, SqL.of a, b.length, fun pins σ s us I r => dats_reads I b c3 r, c1, c2, c4, fun l n => q _ _ (dat_new n) (.lst (wd_new A n) upd_same ((srt_dats b).same (dat_new n)))⟩
    · exact q.elim
  · unfold sortedQ
    split <;> first | exact mono_gd _ | exact mono_bad
end
end Lq
namespace Cr
open PySem PySem.Spec PyProof.Rows L2
/-! ### d.items() of a dict whose keys are tuples -/
/-- the items of the locked dict at d, each a new pair -/
def ItiT (d : Addr) (o : Obj) (kvs : List (List Key × V)) : It :=
  ⟨fun i H => H d = some (.frz o (.dT kvs)) ∧ i < kvs.length, fun i H x H' => ∃ T k v q, kvs[i]? = some (k, v) ∧ x = .ref T ∧ H T = none ∧ H q = some (.tup (k.map kV)) ∧ H' = upd H T (.tup [.ref q, v]), fun i H => H d = some (.frz o (.dT kvs)) ∧ kvs.length ≤ i⟩
theorem frzT2 {X : Cx} {pins : List (Addr × Obj)} {σ : L2.St} {H : Hp} {s : Shared} {d : Addr} {o : Obj} {kvs : List (List Key × V)} (I : Inv X pins σ H s) (h : H d = some (.frz o (.dT kvs))) :
    (d == sysModules) = false ∧ s.heap.get? d = some o ∧ o.ExactDict ∧ ∃ (es : Array DictEntry) (ep : Nat), o.data = .dict es ep ∧ es.size = kvs.length ∧
      ∀ (i : Nat) (k : List Key) (v : V), kvs[i]? = some (k, v) → ∃ (en : DictEntry) (q : Addr), es[i]? = some en ∧ en.key = .ref q ∧ H q = some (.tup (k.map kV)) ∧ RelV v en.val := by
  obtain ⟨hd, z, hs, xs, pr, o', es, ep, ho, hx, hdt, he, _⟩ := I.hok d _ h
  rw [hd] at ho
  cases ho
  refine ⟨hs, hd, hx, es, ep, hdt, ?_, fun i k v e => ?_⟩
  · have l1 : es.size = xs.length := size_of_entries he
    have l2 : kvs.length = xs.length := Paired.length pr
    omega
  · obtain ⟨b, hb, e1, e2, e3⟩ := paired_get pr e
    have q := entry_at he i
    rw [hb] at q
    exact ⟨_, b.2.1, q, rfl, e2, e3⟩
theorem turn_itemsT {P : Program} {w : World} {K : PySem.W.Frag} {d : Addr} {o : Obj} {es : Array DictEntry} {ep : Nat} {kvs : List (List Key × V)} {elts : List Expr} {kk : Nat} {tpos : Pos} (it : Addr) (hod : o.data = .dict es ep) :
    Turn P w K (.Tuple elts kk tpos) (ItiT d o kvs) [it] it (fun i h => ∃ ok ov, IsItemIter h it d i es.size ep ok ov) where
  mem := by simp
  obj := fun i h st b hb => by
    have e : b = it := by simpa using hb
    subst e
    obtain ⟨ok, ov, e⟩ := st
    exact ⟨_, e, fun v z => nomatch z⟩
  keep := fun i h h' st k => let ⟨ok, ov, e⟩ := st; ⟨ok, ov, k it (by simp) _ e⟩
  item := by
    intro X hP hw hK hc i pins s σ H E I hf st hg
    subst hP hw hK
    obtain ⟨hd, hi⟩ := hg
    obtain ⟨hs, hgd, hx, es', ep', hdt, hsz, ent⟩ := frzT2 I hd
    obtain ⟨rfl, rfl⟩ := dict_ep hod hdt
    obtain ⟨⟨k, v⟩, hkv⟩ : ∃ p, kvs[i]? = some p := ⟨kvs[i], List.getElem?_eq_getElem hi⟩
    obtain ⟨en, q, hen, hkey, hq, ru⟩ := ent i k v hkv
    obtain ⟨ok, ov, he⟩ := st
    have hlt : it < s.heap.objs.size := Heap.lt_size he
    have hi2 : i < es'.size := by omega
    have hen2 : es'[i] = en := by
      have := Array.getElem?_eq_getElem hi2
      rw [this] at hen
      exact Option.some.inj hen
    refine DT.nextI he ⟨o, hgd, hx, hdt⟩ hi2 fun h' ho hT hz hk => ?_
    rw [hen2] at ho hT
    refine ⟨_, rfl, wpAny_letOwnedTupleGo_items (s := { s with heap := h' }) ho fun h'' he' sb => ?_⟩
    have hT2 : h''.get? s.heap.objs.size = some { cls := .type "tuple", data := .seq #[en.key, en.val] } := (sb.2 _ (Nat.ne_of_gt hlt)).trans hT
    have new : ObjOk X.prog X.w (upd H s.heap.objs.size (.tup [.ref q, v])) h'' s.heap.objs.size (.tup [.ref q, v]) :=
      ⟨by show 2 ≤ sizeLine; decide, [en.key, en.val], .cons hkey (.cons ru .nil), ⟨_, hT2, rfl, _, rfl⟩⟩
    have I1 : Inv X pins σ (upd H s.heap.objs.size (.tup [.ref q, v])) { s with heap := h'' } :=
      I.turnedNew (t' := s.toks) (ch := [it]) (fun b ob hb e => (sb.2 b (by simpa using hb)).trans (hk b ob (by simpa using hb) e)) hf (Nat.le_refl _) new
    refine ⟨.ref s.heap.objs.size, _, I1, rfl, ⟨_, k, v, q, hkv, rfl, I.hok.fresh (Nat.le_refl _), hq, rfl⟩, ⟨en.key, en.val, ?_⟩, fun b hb => ?_⟩
    · exact he'
    · have e : b = it := by simpa using hb
      rw [e, upd_ne (Nat.ne_of_lt hlt)]
      exact (hf it (by simp)).1
  done := by
    intro X hP hw hK hc i pins s σ H E I hf st hg
    subst hP hw hK
    obtain ⟨hd, hi⟩ := hg
    obtain ⟨f0, f1, f2, f3, f4, f5⟩ := hf it (by simp)
    obtain ⟨hs, hgd, hx, es', ep', hdt, hsz, ent⟩ := frzT2 I hd
    obtain ⟨rfl, rfl⟩ := dict_ep hod hdt
    obtain ⟨ok, ov, he⟩ := st
    exact DT.endI (I.ok.hd hc) he ⟨o, hgd, hx, hdt⟩ (by omega) fun h' eb => ⟨rfl, I.turned (t' := s.toks) (fun b ob hb e => eb b ob hb e) f0 f1 f3 f4 f5⟩
  self := fun A i s Q E st h => let ⟨_, _, e⟩ := st; PySem.W.kcp_self e h
def iItemsT (td : TE) : TI := fun σ H R => td σ H fun x H1 => ∃ d o kvs, x = .ref d ∧ H1 d = some (.frz o (.dT kvs)) ∧ R (ItiT d o kvs) H1
section
variable {X : Cx} {tg e : Expr} {td : TE} {apos cpos : Pos}
theorem pi_itemsT {elts : List Expr} {kk : Nat} {tpos : Pos} (he : PE X e td) (hbase : attributeBase e "items" X.env (eval e X.env) = eval e X.env := by rfl) (hline : (apos.endLine == cpos.line) = true := by rfl) :
    PI X (.Tuple elts kk tpos) (.Call (.Attribute e "items" apos) [] [] cpos) (iItemsT td) := by
  refine ⟨fun pins s σ H R I h => ?_⟩
  refine wpAny_Call_method (T := "dict") (id := "dict.items") hbase rfl hline F.plainAttrs_dict F.slot_dict_items F.type_dict_items (thn (he.run pins s σ H _ I h) fun u s1 ⟨x, H1, I1, rx, d, o, kvs, ex, hd, q⟩ => ?_)
  subst ex
  obtain rfl : u = Value.ref d := rx
  obtain ⟨hs, hgd, hx, es, ep, hdt, hsz, ent⟩ := frzT2 I1 hd
  have raw : DT.Raw s1.heap d es ep := ⟨o, hgd, hx, hdt⟩
  refine ⟨raw.typeIs, fun a ea => by cases ea; exact ⟨o, hgd, hx.2.1⟩, ?_⟩
  have I2 : Inv X pins σ H1 { s1 with heap := s1.heap.push { cls := .type "dict_items", data := .fields #[.ref d] } } := I1.kept (t' := s1.toks) fun b ob q => Heap.get?_push_of_some _ q
  have fin : wpAny (model X.prog X.w) X.A (pyIter (.ref s1.heap.objs.size)) (PIE X pins σ (.Tuple elts kk tpos) R) X.xe { s1 with heap := s1.heap.push { cls := .type "dict_items", data := .fields #[.ref d] } } := by
    refine DT.iterI (d := d) (es := es) (ep := ep) ⟨_, Heap.get?_push_size _ rfl, rfl, rfl⟩ (raw.push _) (pi_one (tk := s1.toks) I2 _ (turn_itemsT _ hdt) ⟨.none, .none, ?_⟩ q)
    exact Heap.get?_push_size _ rfl
  show wpAny _ _ (callWith cpos (.builtin "dict.items") [.ref d] [] []) _ X.xe s1
  exact method_meetsIn F.slot_dict_items F.entry_dict_items rfl (PySem.evalArgs_none ⟨rfl, raw.typeIs, F.args_dict_items_1 _, _, DT.meetsItems (es := es) (ep := ep) hs, raw, fin⟩)
end
end Cr
namespace Lq
open PySem L2
/-! ### [.. for (..) in d.items()], d an own dict whose keys are tuples and whose values are whole numbers -/
theorem lc_body {k : PyData → Rho → Wp Rho} {t : Rho → Wp Bool} {f : Rho → Wp PyData} {vs ws : List Nat} (mk : ∀ d ρ, Mono (k d ρ)) (mt : ∀ ρ, Mono (t ρ)) (mf : ∀ ρ, Mono (f ρ)) (hws : ∀ w ∈ ws, w ∈ vs) {σ : St} {H H1 : Hp} {Q : VK} {fr : Fr} {O : List (Option Addr)} {ρ : Rho} {ds : List PyData} {J : It}
    (A : At fr O σ ρ H) (e1 : Ex fr.pl H H1) (it : Its false fr O H1 J ds) (hz : ds.length ≤ sizeLine) (hno : noOwn ρ vs = true)
    (q : wLc k t f ds (wipeR ρ vs) fun zs => ∀ p us H', H p = none → Ex fr.pl H H' → H' p = some (.lst us) → Dats (fun b => Wd fr O b ∨ b = p) H' us zs → Q (.ref p) H') : tLc (fun _ _ R => R J H1) (tgOf ws k) (ttOf t) (teOf true f) vs σ H Q := by
  have A1 := A.ex e1
  intro D nD
  obtain ⟨Gd, Y, w, hG, hY⟩ := it.ex
  have nD0 : H D = none := by
    cases z : H D with
    | none => rfl
    | some o => exact absurd nD (e1.there D (by rw [z]; exact Option.some_ne_none _))
  have Dpool : ∀ a c, fr.pl = some (a, c) → D ≠ a ∧ D ≠ c := fun a c e => by
    obtain ⟨h1, h2⟩ := pool_two (A1.pool a c e).1
    exact ⟨fun z => h1 (by rw [← z]; exact nD), fun z => h2 (by rw [← z]; exact nD)⟩
  refine lc_it w (fun i H' => ∃ acc ys, H' D = some (.lst acc) ∧ acc.length ≤ i ∧ Dats (fun b => Wd fr O b ∨ b = D) H' acc ys ∧ Ex fr.pl H1 H' ∧
      wLc k t f (ds.drop i) (wipeR ρ vs) fun zs => ∀ p us H', H p = none → Ex fr.pl H H' → H' p = some (.lst us) → Dats (fun b => Wd fr O b ∨ b = p) H' us (ys ++ zs) → Q (.ref p) H')
    ⟨[], [], upd_same, Nat.le_refl _, .nil, Ex.new A1 nD, q⟩ (fun i H' _ p => ?_) (fun i x H' Hb hi p y => ?_) (fun H' p => ?_)
  · obtain ⟨acc, ys, p1, p2, p3, p4, p5⟩ := p
    exact hG H' p4
  · obtain ⟨acc, ys, p1, p2, p3, p4, p5⟩ := p
    let fr2 : Fr := ⟨fun b => fr.U b ∨ b = D, fun b => some b ∈ O ∨ ∃ c, fr.pl = some (b, c), fr.pl, Hb, fr.gh⟩
    have hW : ∀ q, ¬ Wd fr O q → H1 q ≠ none → ¬ Wd fr2 O q := fun q n h z => by
      rcases z with (z | z) | z
      · exact n (.inl z)
      · exact h (by rw [z]; exact nD)
      · exact n (.inr z)
    obtain ⟨sm, d, hd, hx⟩ := hY i H' x Hb (Wd fr2 O) hi p4 hW y
    have A2 := A1.ex p4
    have A3 := A2.ex (A2.same sm)
    have pb : Hb D = some (.lst acc) := sm _ _ p1
    have e14 : Ex fr.pl H1 Hb := p4.trans (A2.same sm)
    obtain ⟨v1, v2⟩ := A1.via (b := false) (H' := Hb) e14
    have B : At fr2 O (L2.wipe σ vs) (wipeR ρ vs) Hb := by
      refine ⟨Slots.wipe (A1.sl.to hW v1 v2 fun p o m h => e14.keep p o (fun a c z => ((A1.own p m).2.1 a c z).1) h) vs hno, fun _ _ _ h => h, fun a c e => ⟨e14.pool a c e, .inr ⟨c, e⟩, .inl (A1.pool a c e).2.2⟩, fun p m => ?_, A1.nd, fun b u => ?_, fun _ h => h, A1.gh.wipe vs⟩
      · refine ⟨⟨fun u => u.elim (A1.own p m).1.1 fun e => ?_, .inl (.inl m)⟩, (A3.own p m).2⟩
        exact A1.wd (.inr m) (by rw [e]; exact nD)
      · rcases u with u | u
        · exact e14.there b (A1.wd (.inl u))
        · show Hb b ≠ none
          rw [u, pb]; exact Option.some_ne_none _
    have e : ds.drop i = d :: ds.drop (i + 1) := by
      obtain ⟨h1, h2⟩ := List.getElem?_eq_some_iff.mp hd
      rw [List.drop_eq_getElem_cons hi, h2]
    rw [e] at p5
    refine ⟨fr2, O, _, d, B, hx, mk _ _ _ _ (fun ρ1 k1 σ1 O1 ag B1 => ?_) p5⟩
    refine ⟨wipe_agree ag hws, fr2, O1, ρ1, B1, mt _ _ _ (fun b k2 H3 e3 => ?_) k1⟩
    have B2 := B1.ex e3
    have kD : ∀ {Ha Hb' : Hp}, Ex fr.pl Ha Hb' → Ha D = some (.lst acc) → Hb' D = some (.lst acc) := fun ex h => ex.keep D _ (fun a c z => (Dpool a c z).1) h
    have WD : ∀ a c, fr.pl = some (a, c) → (Wd fr O a ∨ a = D) := fun a c z => .inl (.inl (A1.pool a c z).2.2)
    have q3 : H3 D = some (.lst acc) := kD e3 pb
    have d3 : Dats (fun b => Wd fr O b ∨ b = D) H3 acc ys := Dats.ex e3 (fun a c z => ⟨WD a c z, e14.pool a c z⟩) (p3.same sm)
    have e13 : Ex fr.pl H1 H3 := e14.trans e3
    have hlt : acc.length < sizeLine := by omega
    cases b with
    | true =>
      have k2 : bnd (f ρ1) _ _ := k2
      refine iteT ⟨fr2, O1, ρ1, B2, mf _ _ _ (fun yd k3 v H4 e4 g4 => ?_) k2⟩
      have q4 : H4 D = some (.lst acc) := kD e4 q3
      have d4 : Dats (fun b => Wd fr O b ∨ b = D) H4 acc ys := Dats.ex e4 (fun a c z => ⟨WD a c z, e13.pool a c z⟩) d3
      have e14' : Ex fr.pl H1 H4 := e13.trans e4
      have dv : Dat (fun b => Wd fr O b ∨ b = D) H4 v yd := (show Dat (Wd fr2 O1) H4 v yd from g4).to (fun q n _ z => by
        rcases z with (z | z) | z
        · exact n (.inl (.inl z))
        · obtain ⟨j, hj⟩ := List.mem_iff_getElem?.mp z
          have m := own_out A1.sl hno hj
          exact n (.inr (List.mem_of_getElem? ((ag.oeq j fun w => m (hws j w)).trans hj)))
        · exact n (.inl (.inr z))) (fun _ _ => id) fun _ _ _ => id
      have move : ∀ {us : List V} {zs : List PyData} {o : HO}, Dats (fun b => Wd fr O b ∨ b = D) H4 us zs → Dats (fun b => Wd fr O b ∨ b = D) (upd H4 D o) us zs := fun h =>
        h.to (fun _ n _ => n) (fun q vs h => by rw [upd_ne (ne_of h q4 (by intro z; cases z))]; exact h) fun q o n h => by rw [upd_ne (fun z => n (.inr z))]; exact h
      refine ⟨acc, q4, hlt, acc ++ [v], ys ++ [yd], upd_same, by rw [List.length_append]; exact Nat.succ_le_succ p2, move (d4.snoc dv), ?_, ?_⟩
      · refine ⟨fun b o n h => ?_, fun a c z => pool_up (e14'.pool a c z) (Dpool a c z).1 (Dpool a c z).2, fun b h => ?_⟩
        · rw [upd_ne (ne_of_none h nD)]; exact e14'.keep b o n h
        · by_cases z : b = D
          · rw [z, upd_same]; exact Option.some_ne_none _
          · rw [upd_ne z]; exact e14'.there b h
      · refine mono_wLc mk mt mf _ _ _ _ (fun zs h => ?_) k3
        rw [List.append_assoc]
        exact h
    | false =>
      have k2 : wLc k t f (ds.drop (i + 1)) (wipeR ρ vs) _ := k2
      exact iteF ⟨acc, ys, q3, by omega, d3, e13, k2⟩
  · obtain ⟨acc, ys, p1, p2, p3, p4, p5⟩ := p
    rw [List.drop_length] at p5
    have p5 := (show ∀ p us H', _ from p5) D acc H' nD0 (e1.trans p4) p1
    rw [List.append_nil] at p5
    exact p5 p3
def pairD (e : PyData × PyData) : PyData := .tuple [e.1, e.2]
def fLcIt (i : Nat) (k : PyData → Rho → Wp Rho) (t : Rho → Wp Bool) (f : Rho → Wp PyData) (vs : List Nat) : Rho → Wp (List PyData) :=
  fun ρ => bnd (slDT ρ[i]?) fun es Q => (es.length ≤ sizeLine ∧ noOwn (ρ.set i .un) vs = true ∧ ∀ e ∈ es, ∃ n : Int, e.2 = .int n) ∧ wLc k t f (es.map pairD) (wipeR (ρ.set i .un) vs) Q
theorem mono_fLcIt {i : Nat} {k : PyData → Rho → Wp Rho} {t : Rho → Wp Bool} {f : Rho → Wp PyData} {vs : List Nat} (mk : ∀ d ρ, Mono (k d ρ)) (mt : ∀ ρ, Mono (t ρ)) (mf : ∀ ρ, Mono (f ρ)) (ρ : Rho) : Mono (fLcIt i k t f vs ρ) :=
  mono_bnd (mono_slDT _) fun _ _ _ h q => ⟨q.1, mono_wLc mk mt mf _ _ _ _ h q.2⟩
theorem datT_get {W : Addr → Prop} {H : Hp} : ∀ {kvs : List (List Key × V)} {es : List (PyData × PyData)} {i : Nat} {k : List Key} {v : V}, DatT W H kvs es → kvs[i]? = some (k, v) → ∃ e, es[i]? = some (.tuple (k.map kD), e) ∧ Dat W H v e
  | _, _, _, _, _, .nil, h => by simp at h
  | _, _, 0, _, _, .cons a _, h => by simp at h; obtain ⟨rfl, rfl⟩ := h; exact ⟨_, rfl, a⟩
  | _, _, i + 1, _, _, .cons _ r, h => datT_get (i := i) r (by simpa using h)
theorem walk_itemsT {d : Addr} {o : Obj} {kvs : List (List Key × V)} : Walk (Cr.ItiT d o kvs) kvs.length (fun H => H d = some (.frz o (.dT kvs))) (fun i Ha x Hb => ∃ T k v q, kvs[i]? = some (k, v) ∧ x = V.ref T ∧ Ha T = none ∧ Ha q = some (.tup (k.map kV)) ∧ Hb = upd Ha T (.tup [.ref q, v])) :=
  ⟨fun _ _ hi q => ⟨q, hi⟩, fun _ q => ⟨q, Nat.le_refl _⟩, fun _ _ _ _ _ _ y => y⟩
/-- the state while the dict of slot i is locked -/
theorem At.lock {fr : Fr} {O : List (Option Addr)} {σ : St} {ρ : Rho} {H : Hp} (A : At fr O σ ρ H) {i : Nat} {p : Addr} {kvs : List (List Key × V)} (h1 : O[i]? = some (some p)) (h2 : σ[i]? = some (some (.ref p))) (h3 : H p = some (.dT kvs)) (od : Obj) :
    At ⟨fun b => fr.U b ∨ b = p, fun b => some b ∈ O.set i none ∨ ∃ c, fr.pl = some (b, c), fr.pl, upd H p (.frz od (.dT kvs)), fr.gh⟩ (O.set i none) σ (ρ.set i .un) (upd H p (.frz od (.dT kvs))) := by
  have mp : some p ∈ O := List.mem_of_getElem? h1
  have sub : ∀ {j : Nat} {q : Addr}, (O.set i none)[j]? = some (some q) → O[j]? = some (some q) ∧ j ≠ i := fun {j q} e => by
    rw [List.getElem?_set] at e
    split at e
    · split at e <;> simp at e
    · rename_i hne
      exact ⟨e, fun z => hne z.symm⟩
  have ne : ∀ q, some q ∈ O.set i none → some q ∈ O ∧ q ≠ p := fun q m => by
    obtain ⟨j, hj⟩ := List.mem_iff_getElem?.mp m
    obtain ⟨a, b⟩ := sub hj
    exact ⟨List.mem_of_getElem? a, fun z => b (A.nd j i p (by rw [← z]; exact a) h1)⟩
  have other : ∀ b o, b ≠ p → H b = some o → upd H p (.frz od (.dT kvs)) b = some o := fun b o n h => by rw [upd_ne n]; exact h
  have tn : ∀ b (xs : List V), H b = some (.tup xs) → b ≠ p := fun b xs h => ne_of h h3 (by intro z; cases z)
  have pl : ∀ a c, fr.pl = some (a, c) → p ≠ a ∧ p ≠ c := fun a c e => (A.own p mp).2.1 a c e
  refine ⟨?_, fun _ _ _ h => h, fun a c e => ⟨pool_up (A.pool a c e).1 (pl a c e).1 (pl a c e).2, .inr ⟨c, e⟩, .inl (A.pool a c e).2.2⟩, fun q m => ?_, fun j l q a b => A.nd j l q (sub a).1 (sub b).1, fun b u => ?_, fun _ h => h, by have := A.gh.set i (s := .un) (o := none) (x := some (V.ref p)) rfl; rwa [set_self h2] at this⟩
  · have s1 := A.sl.set (SlotAt.un (some (.ref p))) i
    rw [set_self h2] at s1
    refine s1.to (fun q n _ z => n ?_) (fun b xs h => other b _ (tn b xs h) h) (fun b o n h => other b o (fun z => n (.inr (by rw [z]; exact mp))) h) fun b o m h => other b o (ne b m).2 h
    rcases z with (z | z) | z
    · exact .inl z
    · exact .inr (by rw [z]; exact mp)
    · exact .inr (ne q z).1
  · obtain ⟨a, b⟩ := ne q m
    obtain ⟨c1, c2, o, c3, c4⟩ := A.own q a
    exact ⟨⟨fun u => u.elim c1.1 b, .inl (.inl m)⟩, c2, o, other q o b c3, c4⟩
  · by_cases z : b = p
    · rw [z]; show upd H p _ p ≠ none; rw [upd_same]; exact Option.some_ne_none _
    · show upd H p _ b ≠ none
      rw [upd_ne z]
      exact A.wd (.inl (u.elim id fun y => absurd y z))
section
variable {X : Cx} {elt : Expr} {elts : List Expr} {kk : Nat} {tpos apos cpos : Pos} {x : Str} {px : Pos} {ifs : List Expr} {scope : Scope} {own : List (Str × Nat)} {pos : Pos} {k : PyData → Rho → Wp Rho} {t : Rho → Wp Bool} {f : Rho → Wp PyData} {ws : List Nat}
theorem f_lcIt (i : Nat) (hc : X.calm = true) (hN : X.N.Nodup) (ok : BlkOk X.N X.env.scope scope own) (hg : ∀ (s : Shared) (H : Hp) (C : Addr) (cl : List (Str × Addr)) (fp : List Addr), G (X.blk s H scope (compEnvC scope cl C X.env) fp) ws (.Tuple elts kk tpos) k)
    (ht : ∀ (s : Shared) (H : Hp) (C : Addr) (cl : List (Str × Addr)) (fp : List Addr), TTs (X.blk s H scope (compEnvC scope cl C X.env) fp) ifs t) (he : ∀ (s : Shared) (H : Hp) (C : Addr) (cl : List (Str × Addr)) (fp : List Addr), E (X.blk s H scope (compEnvC scope cl C X.env) fp) true elt f)
    (hx : X.N[i]? = some x := by rfl) (hv : Vis X.env.scope x := by first | exact Or.inl rfl | exact Or.inr (Or.inl rfl) | exact Or.inr (Or.inr rfl)) (hd : (x == ("__debug__" : Str)) = false := by decide) (hcd : (x == ("__classdict__" : Str)) = false := by decide)
    (hbase : attributeBase (.Name x px) "items" X.env (eval (.Name x px) X.env) = eval (.Name x px) X.env := by rfl) (hline : (apos.endLine == cpos.line) = true := by rfl)
    (hws : ∀ w ∈ ws, w ∈ own.map (·.2) := by decide) (hs : ∀ y, foldedSetIterable (.Call (.Attribute (.Name x px) "items" apos) [] [] cpos) X.env y = pure y := by intro _; rfl) :
    EF X (.ListComp elt [⟨.Tuple elts kk tpos, .Call (.Attribute (.Name x px) "items" apos) [] [] cpos, ifs, 0⟩] scope pos) (fLcIt i k t f (own.map (·.2))) := by
  have mk := (hg X.s_0 X.H_0 0 [] []).mo
  have mt := (ht X.s_0 X.H_0 0 [] []).mo
  have mf := (he X.s_0 X.H_0 0 [] []).mo
  refine ⟨pe_imp (pe_lock (pe_lc hc hN (Cr.pi_itemsT (pe_var hx hv hd hcd) hbase hline) ok (fun s H C cl fp => (hg s H C cl fp).pg) (fun s H C cl fp => (ht s H C cl fp).pt) (fun s H C cl fp => (he s H C cl fp).pe) hs)) fun σ H Q ⟨fr, O, ρ, A, q⟩ => ?_, mono_fLcIt mk mt mf⟩
  obtain ⟨p, kvs, es, _, h1, h2, h3, h4, ⟨q1, q2, q3⟩, q⟩ := A.ditO (i := i) q
  refine ⟨p, .dT kvs, h3, trivial, fun od => ⟨.ref p, h2, p, od, kvs, rfl, upd_same, ?_⟩⟩
  have B := A.lock h1 h2 h3 od
  have mp : some p ∈ O := List.mem_of_getElem? h1
  have pl : ∀ a c, fr.pl = some (a, c) → p ≠ a ∧ p ≠ c := fun a c e => (A.own p mp).2.1 a c e
  have hl := datT_len h4
  have IT : Its false ⟨fun b => fr.U b ∨ b = p, fun b => some b ∈ O.set i none ∨ ∃ c, fr.pl = some (b, c), fr.pl, upd H p (.frz od (.dT kvs)), fr.gh⟩ (O.set i none) (upd H p (.frz od (.dT kvs))) (Cr.ItiT p od kvs) (es.map pairD) := by
    refine ⟨_, _, by rw [List.length_map, ← hl]; exact walk_itemsT, fun H3 e => ?_, fun j Ha y Hb W hj eA hW yy => ?_⟩
    · have e : Ex fr.pl (upd H p (.frz od (.dT kvs))) H3 := e
      exact e.keep p _ (fun a c z => (pl a c z).1) upd_same
    · obtain ⟨T, kq, v, q', e1, e2, e3, e4, e5⟩ := yy
      obtain ⟨d, f1, f2⟩ := datT_get h4 e1
      obtain ⟨n, hn⟩ := q3 _ (List.mem_of_getElem? f1)
      simp only at hn
      subst hn
      have ev := dat_int f2
      subst ev
      subst e5
      subst e2
      refine ⟨dat_new e3, .tuple [.tuple (kq.map kD), .int n], by rw [List.getElem?_map, f1]; rfl, .tup upd_same (.cons (.tup (vs := kq.map kV) ?_ (dats_kV kq)) (.cons (.int n) .nil))⟩
      rw [upd_ne (ne_of_none e4 e3)]
      exact e4
  refine lc_body (Q := fun v H' => H' p = some (.frz od (.dT kvs)) ∧ Q v (upd H' p (.dT kvs))) mk mt mf hws B B.refl IT (by rw [List.length_map]; exact q1) q2 (mono_wLc mk mt mf _ _ _ _ (fun zs h D us H' n e g1 g2 => ?_) q)
  have e : Ex fr.pl (upd H p (.frz od (.dT kvs))) H' := e
  have np : D ≠ p := fun z => by rw [z, upd_same] at n; cases n
  have nD : H D = none := by rw [upd_ne np] at n; exact n
  refine ⟨e.keep p _ (fun a c z => (pl a c z).1) upd_same, h D us _ nD ⟨fun b o m g => ?_, fun a c z => pool_up (e.pool a c z) (pl a c z).1 (pl a c z).2, fun b m => ?_⟩ (by rw [upd_ne np]; exact g1) ?_⟩
  · by_cases z : b = p
    · rw [z] at g ⊢
      rw [h3] at g
      rw [upd_same]; exact g
    · rw [upd_ne z]
      exact e.keep b o m (by rw [upd_ne z]; exact g)
  · by_cases z : b = p
    · rw [z, upd_same]; exact Option.some_ne_none _
    · rw [upd_ne z]
      exact e.there b (by rw [upd_ne z]; exact m)
  · refine g2.to (fun q n _ z => n ?_) (fun b xs g => ?_) (fun b o n g => ?_)
    · rcases z with (z | z) | z
      · exact .inl (.inl (.inl z))
      · by_cases y : q = p
        · exact .inl (.inl (.inr y))
        · obtain ⟨j, hj⟩ := List.mem_iff_getElem?.mp z
          have ij : i ≠ j := fun w => y (by rw [← w, h1] at hj; exact (Option.some.inj (Option.some.inj hj)).symm)
          exact .inl (.inr (List.mem_of_getElem? (i := j) (by rw [List.getElem?_set_ne ij]; exact hj)))
      · exact .inr z
    · have hp : H' p = some (.frz od (.dT kvs)) := e.keep p _ (fun a c z => (pl a c z).1) upd_same
      rw [upd_ne (ne_of g hp (by intro z; cases z))]
      exact g
    · rw [upd_ne fun z => n (.inl (.inl (.inr z)))]
      exact g
end
end Lq
namespace Lq
open PySem L2
/-! ### a tuple with starred parts -/
/-- parts of a display; how many there are is not told -/
structure AS (X : Cx) (es : List Expr) (k : Rho → Wp (List PyData)) : Prop where
  pa : PA X es (taOf true k)
  mo : ∀ ρ, Mono (k ρ)
theorem gds_app {fr : Fr} {O : List (Option Addr)} {H : Hp} : ∀ {vs : List V} {ds : List PyData} {us : List V} {es : List PyData}, Dats (Wd fr O) H vs ds → Gds true fr O H us es → Gds true fr O H (vs ++ us) (ds ++ es)
  | _, _, _, _, .nil, g => g
  | _, _, _, _, .cons a r, g => .cons a (gds_app r g)
section
variable {X : Cx}
theorem as_of {es : List Expr} {k : Rho → Wp (List PyData)} (h : A X true es k) : AS X es k := ⟨h.pa, h.mo⟩
theorem as_cons {e : Expr} {es : List Expr} {f : Rho → Wp PyData} {k : Rho → Wp (List PyData)} (h : E X true e f) (r : AS X es k) (hs : starEach (e :: es) X.env = (false, eval e X.env) :: starEach es X.env := by rfl) : AS X (e :: es) (aCons f k) := by
  refine ⟨pa_imp (pa_cons h.pe r.pa hs) fun σ H Q ⟨fr, O, ρ, A, q⟩ => ?_, fun ρ => mono_bnd (h.mo ρ) fun _ => mono_bnd (r.mo ρ) fun _ => mono_ret _⟩
  refine ⟨fr, O, ρ, A, h.mo ρ _ _ (fun d k1 v H1 e1 g1 => ?_) q⟩
  have A1 := A.ex e1
  exact ⟨fr, O, ρ, A1, r.mo ρ _ _ (fun ds k2 vs H2 e2 g2 => k2 (v :: vs) H2 (e1.trans e2) (.cons (A1.gd e2 g1) g2)) k1⟩
def aStar (f : Rho → Wp PyData) (k : Rho → Wp (List PyData)) : Rho → Wp (List PyData) := fun ρ => bnd (f ρ) fun d => bnd (items d) fun xs => bnd (k ρ) fun ds => ret (xs ++ ds)
theorem as_star {e : Expr} {p : Pos} {es : List Expr} {f : Rho → Wp PyData} {k : Rho → Wp (List PyData)} (h : E X true e f) (r : AS X es k) (hs : starEach (.Starred e p :: es) X.env = (true, eval e X.env) :: starEach es X.env := by rfl) : AS X (.Starred e p :: es) (aStar f k) := by
  refine ⟨pa_imp (StX.pa_star h.pe r.pa hs) fun σ H Q ⟨fr, O, ρ, A, q⟩ => ?_, fun ρ => mono_bnd (h.mo ρ) fun _ => mono_bnd (mono_items _) fun _ => mono_bnd (r.mo ρ) fun _ => mono_ret _⟩
  refine ⟨fr, O, ρ, A, h.mo ρ _ _ (fun d k1 v H1 e1 g1 => ?_) q⟩
  have A1 := A.ex e1
  have g1 : Dat (Wd fr O) H1 v d := g1
  have mv : ∀ {H2 : Hp} {vs : List V} {ds : List PyData}, Ex fr.pl H1 H2 → Dats (Wd fr O) H1 vs ds → Dats (Wd fr O) H2 vs ds := fun e2 b => Dats.ex e2 (fun a c z => ⟨.inl (A1.pool a c z).2.2, (A1.pool a c z).1⟩) b
  cases g1 with
  | tup a b => exact ⟨_, _, rfl, .inl (SqT.of a), fr, O, ρ, A1, r.mo ρ _ _ (fun ds k2 vs H2 e2 g2 => k2 _ H2 (e1.trans e2) (gds_app (mv e2 b) g2)) k1⟩
  | lst n a b => exact ⟨_, _, rfl, .inr (SqL.of a), fr, O, ρ, A1, r.mo ρ _ _ (fun ds k2 vs H2 e2 g2 => k2 _ H2 (e1.trans e2) (gds_app (mv e2 b) g2)) k1⟩
  | non => exact False.elim k1
  | bl _ => exact False.elim k1
  | int _ => exact False.elim k1
  | str _ => exact False.elim k1
  | dic _ _ _ => exact False.elim k1
  | dit _ _ _ => exact False.elim k1
theorem e_tupS {g : Bool} {es : List Expr} {c} {pos : Pos} {k : Rho → Wp (List PyData)} (h : AS X es k) : E X g (.Tuple es c pos) (eTup k) := by
  refine E.tr ⟨pe_imp (pe_tup h.pa) fun σ H Q ⟨fr, O, ρ, A, q⟩ => ?_, fun ρ => mono_bnd (h.mo ρ) fun _ => mono_gd _⟩
  refine ⟨fr, O, ρ, A, h.mo ρ _ _ (fun ds k1 vs H1 e1 g1 => ?_) q⟩
  have A1 := A.ex e1
  have l := g1.dats.length
  exact ⟨by rw [l]; exact k1.1, fun p hp => k1.2 _ _ (e1.trans (Ex.new A1 hp)) (Dat.tup upd_same (g1.dats.same (Cf.same_new hp _)))⟩
end
end Lq
namespace Lq
open PySem L2
/-! ### a dict of data while it is known: it is read as before -/
/-- from one heap to another that differs only in whether p is known -/
structure Fz (H H' : Hp) (p : Addr) (u : HO) : Prop where
  eq : ∀ b, b ≠ p → H' b = H b
  a : Rd H p u
  b : Rd H' p u
  k : (∃ kvs, u = .dK kvs) ∨ ∃ kvs, u = .dT kvs
section
variable {H H' : Hp} {p : Addr} {u : HO} {U W : Addr → Prop} {pl : Pl}
theorem Fz.ne (F : Fz H H' p u) {q : Addr} {o : HO} (h : H q = some o) (n1 : ∀ kvs, o ≠ .dK kvs) (n2 : ∀ kvs, o ≠ .dT kvs) (n3 : ∀ od w, o ≠ .frz od w) : q ≠ p := fun e => by
  subst e
  rcases F.a with g | ⟨od, g⟩
  · rw [h] at g
    cases g
    rcases F.k with ⟨kvs, z⟩ | ⟨kvs, z⟩
    · exact n1 _ z
    · exact n2 _ z
  · rw [h] at g
    cases g
    exact n3 _ _ rfl
theorem Fz.tup (F : Fz H H' p u) {q : Addr} {vs : List V} (h : H q = some (.tup vs)) : H' q = some (.tup vs) := by
  rw [F.eq q (F.ne h (fun _ z => nomatch z) (fun _ z => nomatch z) fun _ _ z => nomatch z)]; exact h
theorem Fz.lst (F : Fz H H' p u) {q : Addr} {vs : List V} (h : H q = some (.lst vs)) : H' q = some (.lst vs) := by
  rw [F.eq q (F.ne h (fun _ z => nomatch z) (fun _ z => nomatch z) fun _ _ z => nomatch z)]; exact h
theorem Fz.there (F : Fz H H' p u) {b : Addr} (h : H b ≠ none) : H' b ≠ none := by
  by_cases e : b = p
  · subst e; exact F.b.there
  · rw [F.eq b e]; exact h
theorem rd_inj {q : Addr} {w w' : HO} (h : Rd H q w) (g : Rd H q w') (k : ∀ od v, w ≠ .frz od v) (k' : ∀ od v, w' ≠ .frz od v) : w = w' := by
  rcases h with h | ⟨o, h⟩ <;> rcases g with g | ⟨o', g⟩ <;> rw [h] at g <;> cases g
  · rfl
  · exact absurd rfl (k _ _)
  · exact absurd rfl (k' _ _)
  · rfl
theorem Fz.rd (F : Fz H H' p u) {q : Addr} {w : HO} (h : Rd H q w) (k : ∀ od v, w ≠ .frz od v) : Rd H' q w := by
  by_cases e : q = p
  · subst e
    have := rd_inj h F.a k (by intro od v z; rcases F.k with ⟨_, y⟩ | ⟨_, y⟩ <;> rw [y] at z <;> cases z)
    rw [this]
    exact F.b
  · unfold Rd
    rw [F.eq q e]
    exact h
theorem Fz.symm (F : Fz H H' p u) : Fz H' H p u := ⟨fun b n => (F.eq b n).symm, F.b, F.a, F.k⟩
mutual
theorem Dat.fz (F : Fz H H' p u) : ∀ {v : V} {d : PyData}, Dat U H v d → Dat U H' v d
  | _, _, .non => .non
  | _, _, .bl b => .bl b
  | _, _, .int i => .int i
  | _, _, .str x => .str x
  | _, _, .tup h r => .tup (F.tup h) (Dats.fz F r)
  | _, _, .lst n h r => .lst n (F.lst h) (Dats.fz F r)
  | _, _, .dic n h r => .dic n (F.rd h fun _ _ z => nomatch z) (DatK.fz F r)
  | _, _, .dit n h r => .dit n (F.rd h fun _ _ z => nomatch z) (DatT.fz F r)
theorem Dats.fz (F : Fz H H' p u) : ∀ {v : List V} {d : List PyData}, Dats U H v d → Dats U H' v d
  | _, _, .nil => .nil
  | _, _, .cons h r => .cons (Dat.fz F h) (Dats.fz F r)
theorem DatK.fz (F : Fz H H' p u) : ∀ {v : List (Key × V)} {d : List (PyData × PyData)}, DatK U H v d → DatK U H' v d
  | _, _, .nil => .nil
  | _, _, .cons h r => .cons (Dat.fz F h) (DatK.fz F r)
theorem DatT.fz (F : Fz H H' p u) : ∀ {v : List (List Key × V)} {d : List (PyData × PyData)}, DatT U H v d → DatT U H' v d
  | _, _, .nil => .nil
  | _, _, .cons h r => .cons (Dat.fz F h) (DatT.fz F r)
end
theorem SlotAt.fz (F : Fz H H' p u) {o : Option Addr} {x : Option V} {s : Sl} (n : o ≠ some p) (h : SlotAt W pl H o x s) : SlotAt W pl H' o x s := by
  cases h with
  | un x => exact .un x
  | val d => exact .val (d.fz F)
  | lst a b => exact .lst (F.lst a) (b.fz F)
  | @dic q _ _ a b => exact .dic (by rw [F.eq q fun z => n (by rw [z])]; exact a) (b.fz F)
  | @dit q _ _ a b => exact .dit (by rw [F.eq q fun z => n (by rw [z])]; exact a) (b.fz F)
  | pool e => exact .pool e
  | gl a b => exact .gl (F.lst a) (b.fz F)
  | @gd _ q _ _ a b => exact .gd (by rw [F.eq q fun z => n (by rw [z])]; exact a) (b.fz F)
  | @gt _ q _ _ a b => exact .gt (by rw [F.eq q fun z => n (by rw [z])]; exact a) (b.fz F)
  | ptr j => exact .ptr j
theorem Slots.fz (F : Fz H H' p u) : ∀ {O : List (Option Addr)} {σ : St} {ρ : List Sl}, some p ∉ O → Slots W pl H O σ ρ → Slots W pl H' O σ ρ
  | _, _, _, _, .nil => .nil
  | _, _, _, n, .cons h r => .cons (h.fz F fun z => n (by rw [z]; exact List.mem_cons_self)) (Slots.fz F (fun m => n (List.mem_cons_of_mem _ m)) r)
theorem Fz.pool (F : Fz H H' p u) {a c : Addr} (h : Cf.PoolAt H a c) : Cf.PoolAt H' a c := by
  obtain ⟨ns, i, v, k, s, e1, e2, e3, e4⟩ := h
  exact ⟨ns, i, v, k, s, F.lst e1, F.lst e2, e3, e4⟩
theorem At.fz {fr : Fr} {O : List (Option Addr)} {σ : St} {ρ : Rho} (A : At fr O σ ρ H) (F : Fz H H' p u) (n : some p ∉ O) :
    At ⟨fr.U, fun b => some b ∈ O ∨ ∃ c, fr.pl = some (b, c), fr.pl, H', fr.gh⟩ O σ ρ H' := by
  refine ⟨A.sl.fz F n, fun _ _ _ h => h, fun a c e => ⟨F.pool (A.pool a c e).1, .inr ⟨c, e⟩, (A.pool a c e).2.2⟩, fun q m => ?_, A.nd, fun b h => F.there (A.wd (.inl h)), fun _ h => h, A.gh⟩
  obtain ⟨c1, c2, o, c3, c4⟩ := A.own q m
  exact ⟨⟨c1.1, .inl (.inl m)⟩, c2, o, by rw [F.eq q fun z => n (by rw [← z]; exact m)]; exact c3, c4⟩
theorem fz_lock {kvs : List (Key × V)} (h : H p = some (.dK kvs)) (od : Obj) : Fz H (upd H p (.frz od (.dK kvs))) p (.dK kvs) := ⟨fun b n => upd_ne n, .inl h, .inr ⟨od, upd_same⟩, .inl ⟨_, rfl⟩⟩
theorem fz_lockT {kvs : List (List Key × V)} (h : H p = some (.dT kvs)) (od : Obj) : Fz H (upd H p (.frz od (.dT kvs))) p (.dT kvs) := ⟨fun b n => upd_ne n, .inl h, .inr ⟨od, upd_same⟩, .inr ⟨_, rfl⟩⟩
theorem fz_open {od : Obj} (k : (∃ kvs, u = .dK kvs) ∨ ∃ kvs, u = .dT kvs) (h : H p = some (.frz od u)) : Fz H (upd H p u) p u := ⟨fun b n => upd_ne n, .inr ⟨od, h⟩, .inl upd_same, k⟩
end
/-! ### [.. for k in d], [.. for (k, v) in d.items()], [.. for v in d.values()], d data -/
def dictW : PyData → Wp (List (PyData × PyData))
  | .dict es => gd (marked es = false) es
  | _ => bad
theorem mono_dictW : ∀ d, Mono (dictW d)
  | .dict _ => mono_gd _
  | .none | .bool _ | .int _ | .str _ | .list _ | .tuple _ => mono_bad
theorem dictW_ok {d : PyData} {P : List (PyData × PyData) → Prop} (q : dictW d P) : ∃ es, d = .dict es ∧ marked es = false ∧ P es := by
  cases d with
  | dict es => exact ⟨es, rfl, q⟩
  | none => exact q.elim
  | bool _ => exact q.elim
  | int _ => exact q.elim
  | str _ => exact q.elim
  | list _ => exact q.elim
  | tuple _ => exact q.elim
def fLcD (i : Nat) (m : PyData × PyData → PyData) (k : PyData → Rho → Wp Rho) (t : Rho → Wp Bool) (f : Rho → Wp PyData) (vs : List Nat) : Rho → Wp (List PyData) :=
  fun ρ => bnd (eVar i ρ) fun d => bnd (dictW d) fun es Q => (es.length ≤ sizeLine ∧ noOwn ρ vs = true) ∧ wLc k t f (es.map m) (wipeR ρ vs) Q
theorem mono_fLcD {i : Nat} {m : PyData × PyData → PyData} {k : PyData → Rho → Wp Rho} {t : Rho → Wp Bool} {f : Rho → Wp PyData} {vs : List Nat} (mk : ∀ d ρ, Mono (k d ρ)) (mt : ∀ ρ, Mono (t ρ)) (mf : ∀ ρ, Mono (f ρ)) (ρ : Rho) : Mono (fLcD i m k t f vs ρ) :=
  mono_bnd (mono_slV _) fun _ => mono_bnd (mono_dictW _) fun _ _ _ h q => ⟨q.1, mono_wLc mk mt mf _ _ _ _ h q.2⟩
theorem pe_or {X : Cx} {e : Expr} {t t' : TE} (h : PE X e t) (h' : PE X e t') : PE X e (fun σ H Q => t σ H Q ∨ t' σ H Q) := ⟨fun pp s σ H Q J q => q.elim (h.run pp s σ H Q J) (h'.run pp s σ H Q J)⟩
theorem datK_get {W : Addr → Prop} {H : Hp} : ∀ {kvs : List (Key × V)} {es : List (PyData × PyData)} {i : Nat} {k : Key} {v : V}, DatK W H kvs es → kvs[i]? = some (k, v) → ∃ e, es[i]? = some (kD k, e) ∧ Dat W H v e
  | _, _, _, _, _, .nil, h => by simp at h
  | _, _, 0, _, _, .cons a _, h => by simp at h; obtain ⟨rfl, rfl⟩ := h; exact ⟨_, rfl, a⟩
  | _, _, i + 1, _, _, .cons _ r, h => datK_get (i := i) r (by simpa using h)
theorem dat_kV {W : Addr → Prop} {H : Hp} : ∀ k : Key, Dat W H (kV k) (kD k)
  | .inl i => .int i
  | .inr x => .str x
section
variable {X : Cx} {elt tg iter : Expr} {x : Str} {px : Pos} {ifs : List Expr} {scope : Scope} {own : List (Str × Nat)} {pos : Pos} {k : PyData → Rho → Wp Rho} {t : Rho → Wp Bool} {f : Rho → Wp PyData} {ws vs : List Nat}
/-- the dict of slot i is locked while the list is made, if it is not known already -/
theorem lcD_imp {IT : Addr → Obj → List (Key × V) → It} {m : PyData × PyData → PyData} {i : Nat} (mk : ∀ d ρ, Mono (k d ρ)) (mt : ∀ ρ, Mono (t ρ)) (mf : ∀ ρ, Mono (f ρ)) (hws : ∀ w ∈ ws, w ∈ vs) {ti : TI}
    (hti : ∀ {σ : St} {H : Hp} {p : Addr} {od : Obj} {kvs : List (Key × V)} {R : It → Hp → Prop}, σ[i]? = some (some (.ref p)) → H p = some (.frz od (.dK kvs)) → R (IT p od kvs) H → ti σ H R)
    (hit : ∀ {fr : Fr} {O : List (Option Addr)} {H : Hp} {p : Addr} {od : Obj} {kvs : List (Key × V)} {es : List (PyData × PyData)}, (∀ H2, Ex fr.pl H H2 → H2 p = some (.frz od (.dK kvs))) → DatK (Wd fr O) H kvs es →
      (∀ {H2 : Hp}, Ex fr.pl H H2 → (∀ p vs, H p = some (.tup vs) → H2 p = some (.tup vs)) ∧ ∀ p o, ¬ Wd fr O p → H p = some o → H2 p = some o) → Its false fr O H (IT p od kvs) (es.map m))
    {σ : St} {H : Hp} {Q : VK} (q : teF (fLcD i m k t f vs) σ H Q) :
    (tLockE (tLc ti (tgOf ws k) (ttOf t) (teOf true f) vs) σ H Q) ∨ tLc ti (tgOf ws k) (ttOf t) (teOf true f) vs σ H Q := by
  obtain ⟨fr, O, ρ, A, q⟩ := q
  have q : bnd (slV ρ[i]?) _ _ := q
  cases h : ρ[i]? with
  | none => rw [h] at q; exact False.elim q
  | some s =>
    rw [h] at q
    cases s with
    | un => exact False.elim q
    | lst _ => exact False.elim q
    | dic _ => exact False.elim q
    | dit _ => exact False.elim q
    | pool => exact False.elim q
    | gh _ _ => exact False.elim q
    | ptr _ => exact False.elim q
    | val d =>
      obtain ⟨es, rfl, hm, ⟨q1, q2⟩, q⟩ := dictW_ok (show dictW d _ from q)
      obtain ⟨v, s1, g⟩ := A.val h
      have g' : TopD fr.U (Wd fr O) H v (.dict es) := .of g
      obtain ⟨p, rfl, hh⟩ := g'.dict
      have np : ¬ Wd fr O p := by
        cases g with
        | dic n _ _ => exact n
        | dit n _ _ => exact n
      rcases hh with ⟨kvs, rd, dk⟩ | ⟨kvs, fs, e, _, _⟩
      case inr => rw [e] at hm; cases hm
      have pO : some p ∉ O := fun m => np (.inr m)
      have npl : ∀ a c, fr.pl = some (a, c) → p ≠ a := fun a c e z => np (.inl (by rw [z]; exact (A.pool a c e).2.2))
      rcases rd with hp | ⟨od, hp⟩
      · refine .inl ⟨p, .dK kvs, hp, trivial, fun od => ?_⟩
        have F := fz_lock hp od
        have B := A.fz F pO
        have npc : ∀ a c, fr.pl = some (a, c) → p ≠ c := fun a c e z => by
          obtain ⟨ns, _, _, _, _, _, e2, _⟩ := (A.pool a c e).1
          rw [← z, hp] at e2
          cases e2
        refine hti s1 upd_same (lc_body (Q := fun v H' => H' p = some (.frz od (.dK kvs)) ∧ Q v (upd H' p (.dK kvs))) mk mt mf hws B B.refl (hit (fun H2 e => e.keep p _ (fun a c z => npl a c z) upd_same) (dk.fz F) fun e => B.via (b := false) e) (by rw [List.length_map]; exact q1) q2
          (mono_wLc mk mt mf _ _ _ _ (fun zs h D us H' n e g1 g2 => ?_) q))
        have e : Ex fr.pl (upd H p (.frz od (.dK kvs))) H' := e
        have nD : D ≠ p := fun z => by rw [z, upd_same] at n; cases n
        have n0 : H D = none := by rw [upd_ne nD] at n; exact n
        have lk : H' p = some (.frz od (.dK kvs)) := e.keep p _ (fun a c z => npl a c z) upd_same
        have F2 := fz_open (.inl ⟨kvs, rfl⟩) lk
        refine ⟨lk, h D us _ n0 ⟨fun b o m g => ?_, fun a c z => pool_up (e.pool a c z) (npl a c z) (npc a c z), fun b m => F2.there (e.there b (F.there m))⟩ (by rw [upd_ne nD]; exact g1) (g2.fz F2)⟩
        by_cases z : b = p
        · rw [z] at g ⊢
          rw [hp] at g
          rw [upd_same]; exact g
        · rw [upd_ne z]
          exact e.keep b o m (by rw [upd_ne z]; exact g)
      · exact .inr (hti s1 hp (lc_body mk mt mf hws A A.refl (hit (fun H2 e => e.keep p _ (fun a c z => npl a c z) hp) dk fun e => A.via (b := false) e) (by rw [List.length_map]; exact q1) q2 q))
/-- the keys -/
theorem its_keys {fr : Fr} {O : List (Option Addr)} {H : Hp} {p : Addr} {od : Obj} {kvs : List (Key × V)} {es : List (PyData × PyData)} (h : ∀ H2, Ex fr.pl H H2 → H2 p = some (.frz od (.dK kvs))) (dk : DatK (Wd fr O) H kvs es)
    (via : ∀ {H2 : Hp}, Ex fr.pl H H2 → (∀ p vs, H p = some (.tup vs) → H2 p = some (.tup vs)) ∧ ∀ p o, ¬ Wd fr O p → H p = some o → H2 p = some o) : Its false fr O H (Itk p od kvs) (es.map (·.1)) := by
  refine ⟨_, _, by rw [List.length_map, ← datK_len dk]; exact walk_keys, fun H2 e => h H2 e, fun j Ha y Hb W hj eA hW yy => ?_⟩
  obtain ⟨rfl, kq, v, e1, rfl⟩ := yy
  obtain ⟨d, f1, _⟩ := datK_get dk e1
  exact ⟨Same.refl _, kD kq, by rw [List.getElem?_map, f1]; rfl, dat_kV kq⟩
theorem its_vals {fr : Fr} {O : List (Option Addr)} {H : Hp} {p : Addr} {od : Obj} {kvs : List (Key × V)} {es : List (PyData × PyData)} (h : ∀ H2, Ex fr.pl H H2 → H2 p = some (.frz od (.dK kvs))) (dk : DatK (Wd fr O) H kvs es)
    (via : ∀ {H2 : Hp}, Ex fr.pl H H2 → (∀ p vs, H p = some (.tup vs) → H2 p = some (.tup vs)) ∧ ∀ p o, ¬ Wd fr O p → H p = some o → H2 p = some o) : Its false fr O H (Itd p od kvs) (es.map (·.2)) := by
  refine ⟨_, _, by rw [List.length_map, ← datK_len dk]; exact walk_values, fun H2 e => h H2 e, fun j Ha y Hb W hj eA hW yy => ?_⟩
  obtain ⟨rfl, kq, e1⟩ := yy
  obtain ⟨d, f1, f2⟩ := datK_get dk e1
  obtain ⟨v1, v2⟩ := via eA
  exact ⟨Same.refl _, d, by rw [List.getElem?_map, f1]; rfl, f2.to hW v1 v2⟩
theorem its_items {fr : Fr} {O : List (Option Addr)} {H : Hp} {p : Addr} {od : Obj} {kvs : List (Key × V)} {es : List (PyData × PyData)} (h : ∀ H2, Ex fr.pl H H2 → H2 p = some (.frz od (.dK kvs))) (dk : DatK (Wd fr O) H kvs es)
    (via : ∀ {H2 : Hp}, Ex fr.pl H H2 → (∀ p vs, H p = some (.tup vs) → H2 p = some (.tup vs)) ∧ ∀ p o, ¬ Wd fr O p → H p = some o → H2 p = some o) : Its false fr O H (Iti p od kvs) (es.map pairD) := by
  refine ⟨_, _, by rw [List.length_map, ← datK_len dk]; exact walk_items, fun H2 e => h H2 e, fun j Ha y Hb W hj eA hW yy => ?_⟩
  obtain ⟨T, u, w, rfl, hT, rfl, e1, e2⟩ := yy
  simp only at e1 e2
  cases hk : kvs[j]? with
  | none => rw [hk] at e1; cases e1
  | some kv =>
    obtain ⟨kq, v⟩ := kv
    rw [hk] at e1 e2
    cases e1; cases e2
    obtain ⟨d, f1, f2⟩ := datK_get dk hk
    obtain ⟨v1, v2⟩ := via eA
    have sm := Cf.same_new hT (HO.tup [kV kq, v])
    exact ⟨sm, .tuple [kD kq, d], by rw [List.getElem?_map, f1]; rfl, .tup upd_same (.cons (dat_kV kq) (.cons ((f2.to hW v1 v2).same sm) .nil))⟩
theorem f_lcK (i : Nat) (hc : X.calm = true) (hN : X.N.Nodup) (ok : BlkOk X.N X.env.scope scope own) (hg : ∀ (s : Shared) (H : Hp) (C : Addr) (cl : List (Str × Addr)) (fp : List Addr), G (X.blk s H scope (compEnvC scope cl C X.env) fp) ws tg k)
    (ht : ∀ (s : Shared) (H : Hp) (C : Addr) (cl : List (Str × Addr)) (fp : List Addr), TTs (X.blk s H scope (compEnvC scope cl C X.env) fp) ifs t) (he : ∀ (s : Shared) (H : Hp) (C : Addr) (cl : List (Str × Addr)) (fp : List Addr), E (X.blk s H scope (compEnvC scope cl C X.env) fp) true elt f)
    (hx : X.N[i]? = some x := by rfl) (hv : Vis X.env.scope x := by first | exact Or.inl rfl | exact Or.inr (Or.inl rfl) | exact Or.inr (Or.inr rfl)) (hd : (x == ("__debug__" : Str)) = false := by decide) (hcd : (x == ("__classdict__" : Str)) = false := by decide)
    (hws : ∀ w ∈ ws, w ∈ own.map (·.2) := by decide) (hs : ∀ y, foldedSetIterable (.Name x px) X.env y = pure y := by intro _; rfl) :
    EF X (.ListComp elt [⟨tg, .Name x px, ifs, 0⟩] scope pos) (fLcD i (·.1) k t f (own.map (·.2))) := by
  have mk := (hg X.s_0 X.H_0 0 [] []).mo
  have mt := (ht X.s_0 X.H_0 0 [] []).mo
  have mf := (he X.s_0 X.H_0 0 [] []).mo
  have P := pe_lc (pos := pos) hc hN (pi_keys (pe_var hx hv hd hcd)) ok (fun s H C cl fp => (hg s H C cl fp).pg) (fun s H C cl fp => (ht s H C cl fp).pt) (fun s H C cl fp => (he s H C cl fp).pe) hs
  exact ⟨pe_imp (pe_or (pe_lock P) P) fun σ H Q q => lcD_imp mk mt mf hws (fun s1 hp r => ⟨_, s1, _, _, rfl, .inl ⟨_, hp, r⟩⟩) (fun h dk via => its_keys h dk via) q, mono_fLcD mk mt mf⟩
theorem f_lcV {apos cpos : Pos} (i : Nat) (hc : X.calm = true) (hN : X.N.Nodup) (ok : BlkOk X.N X.env.scope scope own) (hg : ∀ (s : Shared) (H : Hp) (C : Addr) (cl : List (Str × Addr)) (fp : List Addr), G (X.blk s H scope (compEnvC scope cl C X.env) fp) ws tg k)
    (ht : ∀ (s : Shared) (H : Hp) (C : Addr) (cl : List (Str × Addr)) (fp : List Addr), TTs (X.blk s H scope (compEnvC scope cl C X.env) fp) ifs t) (he : ∀ (s : Shared) (H : Hp) (C : Addr) (cl : List (Str × Addr)) (fp : List Addr), E (X.blk s H scope (compEnvC scope cl C X.env) fp) true elt f)
    (hx : X.N[i]? = some x := by rfl) (hv : Vis X.env.scope x := by first | exact Or.inl rfl | exact Or.inr (Or.inl rfl) | exact Or.inr (Or.inr rfl)) (hd : (x == ("__debug__" : Str)) = false := by decide) (hcd : (x == ("__classdict__" : Str)) = false := by decide)
    (hbase : attributeBase (.Name x px) "values" X.env (eval (.Name x px) X.env) = eval (.Name x px) X.env := by rfl) (hline : (apos.endLine == cpos.line) = true := by rfl)
    (hws : ∀ w ∈ ws, w ∈ own.map (·.2) := by decide) (hs : ∀ y, foldedSetIterable (.Call (.Attribute (.Name x px) "values" apos) [] [] cpos) X.env y = pure y := by intro _; rfl) :
    EF X (.ListComp elt [⟨tg, .Call (.Attribute (.Name x px) "values" apos) [] [] cpos, ifs, 0⟩] scope pos) (fLcD i (·.2) k t f (own.map (·.2))) := by
  have mk := (hg X.s_0 X.H_0 0 [] []).mo
  have mt := (ht X.s_0 X.H_0 0 [] []).mo
  have mf := (he X.s_0 X.H_0 0 [] []).mo
  have P := pe_lc (pos := pos) hc hN (pi_values (pe_var hx hv hd hcd) hbase hline) ok (fun s H C cl fp => (hg s H C cl fp).pg) (fun s H C cl fp => (ht s H C cl fp).pt) (fun s H C cl fp => (he s H C cl fp).pe) hs
  exact ⟨pe_imp (pe_or (pe_lock P) P) fun σ H Q q => lcD_imp mk mt mf hws (fun s1 hp r => ⟨_, s1, _, _, _, rfl, hp, r⟩) (fun h dk via => its_vals h dk via) q, mono_fLcD mk mt mf⟩
theorem f_lcI {elts : List Expr} {kk : Nat} {tpos apos cpos : Pos} (i : Nat) (hc : X.calm = true) (hN : X.N.Nodup) (ok : BlkOk X.N X.env.scope scope own) (hg : ∀ (s : Shared) (H : Hp) (C : Addr) (cl : List (Str × Addr)) (fp : List Addr), G (X.blk s H scope (compEnvC scope cl C X.env) fp) ws (.Tuple elts kk tpos) k)
    (ht : ∀ (s : Shared) (H : Hp) (C : Addr) (cl : List (Str × Addr)) (fp : List Addr), TTs (X.blk s H scope (compEnvC scope cl C X.env) fp) ifs t) (he : ∀ (s : Shared) (H : Hp) (C : Addr) (cl : List (Str × Addr)) (fp : List Addr), E (X.blk s H scope (compEnvC scope cl C X.env) fp) true elt f)
    (hx : X.N[i]? = some x := by rfl) (hv : Vis X.env.scope x := by first | exact Or.inl rfl | exact Or.inr (Or.inl rfl) | exact Or.inr (Or.inr rfl)) (hd : (x == ("__debug__" : Str)) = false := by decide) (hcd : (x == ("__classdict__" : Str)) = false := by decide)
    (hbase : attributeBase (.Name x px) "items" X.env (eval (.Name x px) X.env) = eval (.Name x px) X.env := by rfl) (hline : (apos.endLine == cpos.line) = true := by rfl)
    (hws : ∀ w ∈ ws, w ∈ own.map (·.2) := by decide) (hs : ∀ y, foldedSetIterable (.Call (.Attribute (.Name x px) "items" apos) [] [] cpos) X.env y = pure y := by intro _; rfl) :
    EF X (.ListComp elt [⟨.Tuple elts kk tpos, .Call (.Attribute (.Name x px) "items" apos) [] [] cpos, ifs, 0⟩] scope pos) (fLcD i pairD k t f (own.map (·.2))) := by
  have mk := (hg X.s_0 X.H_0 0 [] []).mo
  have mt := (ht X.s_0 X.H_0 0 [] []).mo
  have mf := (he X.s_0 X.H_0 0 [] []).mo
  have P := pe_lc (pos := pos) hc hN (pi_items (pe_var hx hv hd hcd) hbase hline) ok (fun s H C cl fp => (hg s H C cl fp).pg) (fun s H C cl fp => (ht s H C cl fp).pt) (fun s H C cl fp => (he s H C cl fp).pe) hs
  exact ⟨pe_imp (pe_or (pe_lock P) P) fun σ H Q q => lcD_imp mk mt mf hws (fun s1 hp r => ⟨_, s1, _, _, _, rfl, hp, r⟩) (fun h dk via => its_items h dk via) q, mono_fLcD mk mt mf⟩
end
end Lq
namespace Lq
open PySem PySem.W L2 PyProof.Rows
/-! ### sorted(a dict whose keys are whole numbers or texts) -/
section
variable {X : Cx}
theorem keys_vals : ∀ {ks : List Key} {us : List Value}, us.length = ks.length → (∀ (j : Nat) (v : Value), us[j]? = some v → ∃ k, ks[j]? = some k ∧ RelV (kV k) v) → Vals (ks.map kV) us
  | [], [], _, _ => .nil
  | k :: ks, u :: us, hl, h => by
    obtain ⟨k', e1, e2⟩ := h 0 u rfl
    cases e1
    exact .cons e2 (keys_vals (Nat.succ.inj hl) fun j v e => by simpa using h (j + 1) v (by simpa using e))
  | [], _ :: _, hl, _ => by simp at hl
  | _ :: _, [], hl, _ => by simp at hl
def rSDK (X : Cx) : List V → Hp → VK → Prop := fun xs H Q => ∃ d kvs ks, xs = [V.ref d] ∧ Rd H d (.dK kvs) ∧ kvs.map (·.1) = ks ∧ AllAlike (ks.map kD) ∧ Sortable (ks.map kD) ∧
  ∀ p, H p = none → Q (.ref p) (upd H p (.lst ((srt (ks.map kV) (ks.map kD)).map (·.1))))
theorem flatTs_k : ∀ ks : List Key, flatTs (ks.map kD) = true
  | [] => rfl
  | .inl _ :: ks => by simp [flatTs, flatT, kD, flatTs_k ks]
  | .inr _ :: ks => by simp [flatTs, flatT, kD, flatTs_k ks]
theorem depth_k {ks : List Key} : ∀ d ∈ ks.map kD, d.depth ≤ 50 := fun d m => by
  obtain ⟨k, _, rfl⟩ := List.mem_map.mp m
  cases k <;> simp [kD, PyData.depth]
theorem call_sortedK (hcalm : X.calm = true) (hu : X.A.units + 64 < cLine) : CallR X (.builtin "sorted") (rSDK X) := by
  intro pins s σ H xs us Q I r h
  obtain ⟨d, kvs, ks, rfl, hd, hks, ha, hk, q⟩ := h
  obtain ⟨u, rfl, rx⟩ := r.one
  cases rx
  obtain ⟨z, lo, vs, rel, dd⟩ := dk_rd I.hok hd
  obtain ⟨ep, hat⟩ := dd.dictAt
  have hkeys : vs.map (·.1) = ks := rel.keys.symm.trans hks
  have hl : vs.length = ks.length := by rw [← hkeys, List.length_map]
  have h16 : vs.length ≤ sizeLine := by rw [← rel.length]; exact z
  refine Calls.call_function_entry PyProof.Rows.kind_sorted PyProof.Rows.plain_sorted PyProof.Rows.entry_sorted (PyProof.Rows.args_sorted1 _) ?_
  unfold Builtin.«sorted»
  refine wpAny_bind (m := checkCount "sorted" 1 1 _) (wpAny_pure ?_)
  refine wpAny_bind (PySem.W.kdu_collect (A := X.A.in1) (PySem.W.kdl_dict (knd := mixKind X.prog X.w) (kvs := vs) (ep := ep) lo) (I.ok.hd hcalm) hat h16 fun h' tk acc hkp hacc => ?_)
  have hal : acc.toList.length = ks.length := by rw [Array.length_toList, hacc.1, hl]
  have rv : Vals (ks.map kV) acc.toList := keys_vals hal fun j v e => by
    obtain ⟨k, x, e1, e2⟩ := hacc.2 j v (by rw [← Array.getElem?_toList]; exact e)
    exact ⟨k, by rw [← hkeys, List.getElem?_map, e1]; rfl, relV_key (show keyIs k v = true from e2)⟩
  have hD : Dats (fun _ => False) H (ks.map kV) (ks.map kD) := dats_kV ks
  have ra := dats_reads0 I hD (flatTs_k ks) rv
  have hzl : ((ks.map kV).zip (ks.map kD)).length = ks.length := by rw [List.length_zip, List.length_map, List.length_map]; omega
  have hm : ((ks.map kV).zip (ks.map kD)).map (fun b => b.2) = ks.map kD := List.map_snd_zip (by rw [List.length_map, List.length_map]; omega)
  have I1 : Inv X pins σ H { s with heap := h', toks := tk } := I.kept hkp
  refine wpAny_bind (wpAny_newList ?_ (by rw [hal, ← hl]; exact h16))
  have hoL : (h'.push (seqObj "list" acc.toList.toArray 0)).get? h'.objs.size = some (seqObj "list" acc.toList.toArray 0) := Heap.get?_push_size _ rfl
  show wpAny _ _ _ _ _ { s with heap := h'.push (seqObj "list" acc.toList.toArray 0), toks := tk }
  have kp2 : ∀ b o, s.heap.get? b = some o → (h'.push (seqObj "list" acc.toList.toArray 0)).get? b = some o := fun b o e => Heap.get?_push_of_some _ (hkp b o e)
  have er := each_flat (bs := (ks.map kV).zip (ks.map kD)) (us := acc.toList) (h := s.heap) (by rw [hm]; exact ra)
  refine wpAny_bind (wpAny_holding (list_sort_data (s := { s with heap := h'.push (seqObj "list" acc.toList.toArray 0), toks := tk }) (bs := (ks.map kV).zip (ks.map kD)) (enc := fun b : V × PyData => b.2) (R := fun u (b : V × PyData) => RelV b.1 u) hoL (vals_each rv (by rw [List.length_map, List.length_map])) (er.mono fun v b r => ⟨[], PyProof.Rows.Reads.keeps kp2 r, List.not_mem_nil⟩) (by rw [hm]; exact ha) (by rw [hm]; exact hk) (by omega) (fun b hb => ?_) fun out ho' eo => ?_))
  · have := depth_k (ks := ks) b.2 (by rw [← hm]; exact List.mem_map_of_mem hb)
    have : X.A.in1.units = X.A.units + 1 := rfl
    omega
  obtain ⟨e', he'⟩ := PyProof.Rows.sortedHeap_at (vs := acc.toList) (out := out.toArray) hoL
  refine wpAny_pure ⟨_, rfl, .ref h'.objs.size, _, I1.laid (t' := tk) (fun b u e => ?_) (Nat.le_refl _) (show ObjOk X.prog X.w _ _ _ (.lst ((srt (ks.map kV) (ks.map kD)).map (·.1))) from ⟨by rw [List.length_map]; unfold srt; rw [List.length_mergeSort]; omega, out, e', each_vals eo, he'⟩), rfl, q _ (I1.hok.fresh (Nat.le_refl _))⟩
  have hb : b < h'.objs.size := Heap.lt_size e
  rw [PyProof.Rows.sortedHeap_old (Nat.ne_of_lt hb) (by rw [size_push']; exact Nat.lt_succ_of_lt hb)]
  exact Heap.get?_push_of_some _ e
/-- keys whole numbers or texts, or tuples -/
def sortedKQ : List PyData → Wp PyData
  | [.dict ((.none, a) :: es)] => sortedQ [.dict ((.none, a) :: es)]
  | [.dict es] => gd (AllAlike (es.map (·.1)) ∧ Sortable (es.map (·.1))) (.list (srtD (es.map (·.1))))
  | ds => sortedQ ds
theorem datK_kD {W : Addr → Prop} {H : Hp} : ∀ {kvs : List (Key × V)} {es : List (PyData × PyData)}, DatK W H kvs es → es.map (·.1) = (kvs.map (·.1)).map kD
  | _, _, .nil => rfl
  | _, _, .cons _ r => by simp [datK_kD r]
theorem q_sortedK (hc : X.calm = true) (hu65 : X.A.units + 65 < cLine) : CallQ X (.builtin "sorted") sortedKQ := by
  obtain ⟨⟨r, h1, h2⟩, mo⟩ := q_sorted hc hu65
  refine ⟨⟨_, h1.or (call_sortedK hc (by omega)), fun {fr O σ ρ H vs ds Q} A h q => ?_⟩, fun ds => ?_⟩
  · unfold sortedKQ at q
    split at q
    · exact .inl (h2 A h q)
    · rename_i es hes
      cases h with
      | cons h r =>
        cases r
        obtain ⟨p, rfl, hh⟩ := (topd_of h).dict
        rcases hh with ⟨kvs, a, b⟩ | ⟨kvs, fs, e, a, b⟩
        · obtain ⟨⟨c1, c2⟩, q⟩ := q
          rw [datK_kD b] at c1 c2 q
          exact .inr ⟨p, kvs, _, rfl, a, rfl, c1, c2, fun l n => q _ _ (dat_new n) (.lst (wd_new A n) upd_same (srt_dats (dats_kV _)))⟩
        · exact (hes _ _ (by rw [e])).elim
    · exact .inl (h2 A h q)
  · unfold sortedKQ
    split <;> first | exact mo _ | exact mono_gd _
end
end Lq
namespace Lq
open PySem L2
/-! ### a raise that is never reached; list(zip(a, b)) -/
section
variable {X : Cx} {pos : Pos}
theorem s_never {st : Stmt} : S X st (fun _ => bad) := ⟨fun _ _ => ⟨fun _ _ _ _ _ _ ⟨_, _, _, _, q⟩ => q.elim⟩, fun _ => mono_bad⟩
def zipT : List PyData → Wp (List PyData)
  | [.tuple a, .tuple b] => ret (zipD a b)
  | _ => bad
theorem mono_zipT (ds : List PyData) : Mono (zipT ds) := by
  unfold zipT
  split <;> first | exact mono_ret _ | exact mono_bad
def lZip (k : Rho → Wp (List PyData)) : Rho → Wp (List PyData) := fun ρ => bnd (k ρ) zipT
theorem pairs_dats {W W' : Addr → Prop} {H1 H2 : Hp} (sm : Same H1 H2) (hW : ∀ q, ¬ W q → H1 q ≠ none → ¬ W' q) : ∀ {Ts : List Addr} {xs ys : List V} {a b : List PyData}, Cr.PairsAt H2 Ts xs ys → Dats W H1 xs a → Dats W H1 ys b → Dats W' H2 (Ts.map V.ref) (zipD a b)
  | [], xs, ys, a, b, h, ha, hb => by
    have : zipD a b = [] := by
      have l : (zipD a b).length = 0 := by rw [zipD_len, ← ha.length, ← hb.length, ← h.1]; rfl
      exact List.length_eq_zero_iff.mp l
    rw [this]
    exact .nil
  | T :: Ts, [], ys, a, b, h, ha, hb => by have := h.1; simp at this
  | T :: Ts, x :: xs, [], a, b, h, ha, hb => by have := h.1; simp at this
  | T :: Ts, x :: xs, y :: ys, _, _, h, .cons h1 ha, .cons h2 hb => by
    refine .cons (.tup (h.2 0 T x y rfl rfl rfl) (.cons (h1.to hW (fun p vs => sm p _) fun p o _ => sm p o) (.cons (h2.to hW (fun p vs => sm p _) fun p o _ => sm p o) .nil))) (pairs_dats sm hW ⟨?_, fun j T' x' y' e1 e2 e3 => h.2 (j + 1) T' x' y' (by simpa using e1) (by simpa using e2) (by simpa using e3)⟩ ha hb)
    have := h.1
    simp only [List.length_cons] at this
    omega
theorem f_zip {e e2 : Expr} {p p2 q : Pos} {ka : Rho → Wp (List PyData)} (hc : X.calm = true) (ml : X.mg "list" = none) (mz : X.mg "zip" = none) (ha : A X true [e, e2] ka) (gl : Gl X "list" := by rfl) (gz : Gl X "zip" := by rfl)
    (hs : starEach [e, e2] X.env = (false, eval e X.env) :: starEach [e2] X.env := by rfl) (hpl : (backTo q (starEach [e2] X.env)).any (·.1) = false := by rfl) :
    EF X (.Call (.Name "list" p) [.Call (.Name "zip" p2) [e, e2] [] q] [] pos) (lZip ka) := by
  refine ⟨pe_imp (Cr.pe_listZip gl ml gz mz ha.pa hc hs hpl) fun σ H Q ⟨fr, O, ρ, A, q⟩ => ?_, fun ρ => mono_bnd (ha.mo ρ) mono_zipT⟩
  refine ⟨fr, O, ρ, A, ha.mo ρ _ _ (fun ds k vs H1 e1 g1 => ?_) q⟩
  have A1 := A.ex e1
  unfold zipT at k
  split at k
  · cases g1 with
    | cons h r => cases r with
      | cons h2 r =>
        cases r
        have h : Dat (Wd fr O) H1 _ _ := h
        have h2 : Dat (Wd fr O) H1 _ _ := h2
        cases h with
        | tup a1 d1 => cases h2 with
          | tup a2 d2 =>
            refine ⟨_, _, _, _, rfl, SqT.of a1, SqT.of a2, fun p Ts H2 n sm hp hpr => ?_⟩
            have n0 : H p = none := by
              cases z : H p with
              | none => rfl
              | some o => exact absurd n (e1.there p (by rw [z]; exact Option.some_ne_none _))
            exact k p _ H2 n0 (e1.trans (A1.same sm)) hp (pairs_dats sm (fun q m h z => z.elim m fun e => h (by rw [e]; exact n)) hpr d1 d2)
  · exact k.elim
end
end Lq
namespace Cr
open PySem PySem.Spec PyProof PyProof.Rows
open Sem (wp)
/-! ### enumerate(v) of a list or a tuple -/
set_option maxHeartbeats 1000000 in
theorem meets_enumB {v : Value} {o : Obj} {H : Heap → Prop} (B : Begins v o H) :
    Meets (Builtin.«enumerate.__new__» ⟨[.type "enumerate", v], []⟩) (fun _ R s => H s.heap ∧
      R (.ok (.ret (.ref (s.heap.push o).objs.size))) { s with heap := (s.heap.push o).push { cls := .type "enumerate", data := .fields #[.none, .bool false, .ref s.heap.objs.size, rawInt 0, .none, .none] } }) :=
  .of_wp fun prog w A R s z => by
    obtain ⟨hp, g, d, tk, os⟩ := s
    obtain ⟨z1, z2⟩ := z
    have sb := sub_enumerate
    have q1 : ∀ {A' : Around} {E : Value → Shared → Prop} {Q : Value → Shared → Prop}, Q (.ref hp.objs.size) ⟨hp.push o, g, d, tk, os⟩ → wpAny (model prog w) A' (pyIter v) Q E ⟨hp, g, d, tk, os⟩ := fun q => B.iter prog w _ _ ⟨hp, g, d, tk, os⟩ _ z1 q
    wp_walk using q1
    refine wpAny_stack_any fun st => wpAny_pure ?_
    split
    · rename_i c _ _ _ _ _
      cases (c == Value.type "enumerate") <;> wp_walk using q1 <;> exact ⟨_, rfl, z2⟩
    · wp_walk using q1
      exact ⟨_, rfl, z2⟩
theorem next_enum_endT {prog : Program} {w : World} {A : Around} {E : Value → Shared → Prop} {s : Shared} {e it a : Addr} {i : Nat} {k : Int} {items : Array Value} {old : Value} {Q : Option Value → Shared → Prop} (hh : A.handled = none) (he : IsEnum s.heap e it k old) (st : s.heap.IsTupleIter it a i) (ht : s.heap.IsTuple a items) (hx : items[i]? = none)
    (q : ∀ h', Heap.ExtBut it s.heap h' → Q none { s with heap := h' }) : wpAny (model prog w) A (pyNext (.ref e)) Q E s := by
  have T : s.TypeIs (.ref e) "enumerate" := ⟨_, he, rfl⟩
  unfold pyNext
  refine wpAny_bind (wpAny_attempt (wpAny_callSpecial?_slot (name := Str.ofString "__next__") T F.slot_enumerate_next (wpAny_call_entry F.slot_enumerate_next T F.entry_enumerate_next ?_ (F.args_enumerate_next_1 _))))
  show wpAny _ _ (field (.ref e) 2 >>= _) _ _ _
  refine wpAny_bind (wpAny_field he rfl (x := .ref it) rfl (wpAny_bind (wpAny_nextOf_tuple_end hh st ht hx fun h' x eb z => ?_)))
  obtain ⟨o, ho, hc⟩ := z
  exact wpAny_bind (wpAny_isInstance (T := "StopIteration") (b := true) ⟨o, ho, hc⟩ isSubtype_stop (wpAny_pure (q _ eb)))
theorem call_enumB {prog : Program} {w : World} {A : Around} {E : Value → Shared → Prop} {s : Shared} {v : Value} {o : Obj} {H : Heap → Prop} {Q : Value → Shared → Prop} (B : Begins v o H) (h1 : H s.heap)
    (h : ∀ h', IsEnum h' (s.heap.objs.size + 1) s.heap.objs.size 0 .none → h'.get? s.heap.objs.size = some o → h'.objs.size = s.heap.objs.size + 2 → (∀ b o, s.heap.get? b = some o → h'.get? b = some o) → Q (.ref (s.heap.objs.size + 1)) { s with heap := h' }) : wpAny (model prog w) A (call (.type "enumerate") [v]) Q E s := by
  refine callType_new F.called_enumerate (by decide) (F.typeCall_enumerate_1 _) (F.newCall_enumerate_1 _) (fun obj => F.args_object_init_2 obj _) F.entry_enumerate_new (meets_enumB B) ⟨h1, ?_⟩
  have sz : (s.heap.push o).objs.size = s.heap.objs.size + 1 := Heap.size_push ..
  show _ ∧ _
  rw [sz]
  have en : IsEnum ((s.heap.push o).push { cls := .type "enumerate", data := .fields #[.none, .bool false, .ref s.heap.objs.size, rawInt 0, .none, .none] }) (s.heap.objs.size + 1) s.heap.objs.size 0 .none := by
    have g := Heap.get?_push_size (s.heap.push o) (o := { cls := .type "enumerate", data := .fields #[.none, .bool false, .ref s.heap.objs.size, rawInt 0, .none, .none] }) rfl
    rw [sz] at g
    exact g
  exact ⟨⟨_, en, rfl⟩, h _ en (Heap.get?_push_of_some _ (Heap.get?_push_size _ B.free)) (by rw [Heap.size_push, sz]) fun b u x => Heap.get?_push_of_some _ (Heap.get?_push_of_some _ x)⟩
end Cr
namespace Cr
open PySem PySem.Spec PyProof.Rows L2
/-- the tuple at a, each item in a new pair -/
def IteT (K : PySem.W.Frag) (a : Addr) : It :=
  ⟨fun i H => ∃ (xs : List V) (x : V), SqT K H a xs ∧ xs[i]? = some x, fun i H v H' => ∃ T x, v = .ref T ∧ H T = none ∧ H' = upd H T (.tup [.int (i : Nat), x]) ∧ ∀ xs, SqT K H a xs → xs[i]? = some x, fun i H => ∃ xs : List V, SqT K H a xs ∧ xs.length ≤ i⟩
theorem turn_enumT {P : Program} {w : World} {K : PySem.W.Frag} {elts : List Expr} {kk : Nat} {tpos : Pos} (a e it : Addr) (ha : a ≠ it) :
    Turn P w K (.Tuple elts kk tpos) (IteT K a) [e, it] e (fun i h => (∃ old, IsEnum h e it ((i : Nat) : Int) old) ∧ h.IsTupleIter it a i ∧ e ≠ it ∧ a ≠ e) where
  mem := by simp
  obj := fun i h st b hb => by
    obtain ⟨⟨old, he⟩, ⟨o, ho, hc, hd⟩, _⟩ := st
    rcases (show b = e ∨ b = it by simpa using hb) with rfl | rfl
    · exact ⟨_, he, fun v q => nomatch q⟩
    · exact ⟨o, ho, fun v q => by rw [hd] at q; cases q⟩
  keep := fun i h h' st k => let ⟨⟨old, he⟩, hi, n1, n2⟩ := st; ⟨⟨old, k e (by simp) _ he⟩, hi.at fun o q => k it (by simp) o q, n1, n2⟩
  item := by
    intro X hP hw hK hc i pins s σ H E I hf st hg
    subst hP hw hK
    obtain ⟨⟨old, he⟩, hit, n1, n2⟩ := st
    obtain ⟨xs, x, hq, hx⟩ := hg
    obtain ⟨its, rv, p, _⟩ := I.tuple hq
    obtain ⟨u, hu, ru⟩ := rv.get hx
    have le : e < s.heap.objs.size := Heap.lt_size he
    have li : it < s.heap.objs.size := by obtain ⟨_, q, _⟩ := hit; exact Heap.lt_size q
    have D := Draws.tuple (prog := X.prog) (w := X.w) (A := X.A.in1) (I.ok.hd hc) it a ha its.toArray
    have lt : i < its.toArray.size := by have := (List.getElem?_eq_some_iff.mp hu).1; simpa using this
    refine wpAny_pyNext_enum_itemD D he ⟨hit, p⟩ lt n1 (by simp [n1, Ne.symm n2]) fun v h' tk hv ho hs hT hsz hk => ?_
    have ev : v = u := by
      have h1 : its[i]? = some v := by simpa using hv
      rw [hu] at h1
      exact (Option.some.inj h1).symm
    subst ev
    refine ⟨_, rfl, wpAny_letOwnedTupleGo_enum (s := { s with heap := h', toks := tk + 1 }) ho fun h'' he' sb => ?_⟩
    have hT2 : h''.get? s.heap.objs.size = some { cls := .type "tuple", data := .seq #[.int i tk, v] } := (sb.2 _ (Nat.ne_of_gt le)).trans hT
    have new : ObjOk X.prog X.w (upd H s.heap.objs.size (.tup [.int (i : Nat), x])) h'' s.heap.objs.size (.tup [.int (i : Nat), x]) :=
      ⟨by show 2 ≤ sizeLine; decide, [.int i tk, v], .cons ⟨_, rfl⟩ (.cons ru .nil), ⟨_, hT2, rfl, _, rfl⟩⟩
    have J : Inv X pins σ (upd H s.heap.objs.size (.tup [.int (i : Nat), x])) { s with heap := h'', toks := tk + 1 } :=
      I.turnedNew (ch := [e, it]) (fun b ob hb q => (sb.2 b (fun z => hb (by simp [z]))).trans (hk b ob (fun z => hb (by simp [z])) (fun z => hb (by simp [z])) q)) hf (Nat.le_refl _) new
    refine ⟨.ref s.heap.objs.size, _, J, rfl, ⟨_, x, rfl, I.hok.fresh (Nat.le_refl _), rfl, fun ys hy => by rw [I.tuple_inj hy hq]; exact hx⟩, ⟨⟨v, ?_⟩, hs.1.at fun o q => (sb.2 it (Ne.symm n1)).trans q, n1, n2⟩, fun b hb => ?_⟩
    · have z : ((i + 1 : Nat) : Int) = (i : Int) + 1 := by omega
      rw [z]; exact he'
    · have lb : b < s.heap.objs.size := by
        rcases (show b = e ∨ b = it by simpa using hb) with rfl | rfl
        · exact le
        · exact li
      rw [upd_ne (Nat.ne_of_lt lb)]
      exact (hf b hb).1
  done := by
    intro X hP hw hK hc i pins s σ H E I hf st hg
    subst hP hw hK
    obtain ⟨⟨old, he⟩, hit, n1, n2⟩ := st
    obtain ⟨xs, hq, hx⟩ := hg
    obtain ⟨its, rv, p, _⟩ := I.tuple hq
    obtain ⟨f0, f1, f2, f3, f4, f5⟩ := hf it (by simp)
    have hl := rv.length
    exact next_enum_endT (I.ok.hd hc) he hit p (by simp; omega) fun h' eb => ⟨rfl, I.turned (t' := s.toks) (fun b o hb q => eb b o hb q) f0 f1 f3 f4 f5⟩
  self := fun A i s Q E st h => let ⟨⟨_, he⟩, _⟩ := st; wpAny_pyIter_enum he h
def iEnumA (K : PySem.W.Frag) (ta : TA) : TI := fun σ H R => ta σ H fun vs H1 => ∃ a xs, vs = [.ref a] ∧ ((SqL K H1 a xs ∧ R (Ite K a) H1) ∨ (SqT K H1 a xs ∧ R (IteT K a) H1))
theorem pi_enumA {X : Cx} {e : Expr} {ta : TA} {p pos tpos : Pos} {elts : List Expr} {kk : Nat} (hg : Gl X "enumerate") (hm : X.mg "enumerate" = none) (ha : PA X [e] ta) (hs : starEach [e] X.env = [(false, eval e X.env)] := by rfl) :
    PI X (.Tuple elts kk tpos) (.Call (.Name "enumerate" p) [e] [] pos) (iEnumA X.K ta) := by
  refine ⟨fun pins s σ H R I z => ?_⟩
  refine Call_ (ld_blt I hg hm boot_enumerate (PyProof.Rows.callWith_type1 (thn (ha.run pos pins s σ H _ I z) fun us s1 ⟨vs, H1, J, r1, a, xs, ex, q⟩ => ?_) hs rfl))
  subst ex
  obtain ⟨u, rfl, rx⟩ := r1.one
  cases rx
  have fresh : ∀ b, b = s1.heap.objs.size + 1 ∨ b = s1.heap.objs.size → FpOk X pins H1 b := fun b hb => by
    have le : s1.heap.objs.size ≤ b := by
      rcases hb with z | z
      · rw [z]; exact Nat.le_add_right _ _
      · rw [z]; exact Nat.le_refl _
    exact J.fpOk le (J.hok.fresh le)
  rcases q with ⟨hq, q⟩ | ⟨hq, q⟩
  · obtain ⟨its, rv, pp, _⟩ := J.list hq
    refine call_enumerate_list pp.isList fun h' he st hsz hk => wpAny_pyIter_enum he ?_
    exact ⟨s1.heap.objs.size + 1, [s1.heap.objs.size + 1, s1.heap.objs.size], _, _, H1, rfl, J.kept (t' := s1.toks) hk, turn_enum a (s1.heap.objs.size + 1) s1.heap.objs.size, ⟨⟨.none, he⟩, st, Nat.succ_ne_self _⟩, fun b hb => fresh b (by simpa using hb), q⟩
  · obtain ⟨its, rv, pp, _⟩ := J.tuple hq
    have la : a < s1.heap.objs.size := by obtain ⟨o, ho, _⟩ := id (show s1.heap.IsTuple a its.toArray from pp); exact Heap.lt_size ho
    refine call_enumB (begins_tuple a its.toArray) pp fun h' he st hsz hk => wpAny_pyIter_enum he ?_
    exact ⟨s1.heap.objs.size + 1, [s1.heap.objs.size + 1, s1.heap.objs.size], _, _, H1, rfl, J.kept (t' := s1.toks) hk, turn_enumT a (s1.heap.objs.size + 1) s1.heap.objs.size (Nat.ne_of_lt la), ⟨⟨.none, he⟩, ⟨_, st, rfl, rfl⟩, Nat.succ_ne_self _, Nat.ne_of_lt (Nat.lt_succ_of_lt la)⟩, fun b hb => fresh b (by simpa using hb), q⟩
end Cr
namespace Lq
open PySem L2
def enumWA : List PyData → Wp (List PyData)
  | [.list a] => ret (enumD a)
  | [.tuple a] => ret (enumD a)
  | _ => bad
theorem mono_enumWA (ds : List PyData) : Mono (enumWA ds) := by
  unfold enumWA
  split <;> first | exact mono_ret _ | exact mono_bad
section
variable {X : Cx} {pos tpos p : Pos} {elts : List Expr} {kk : Nat}
theorem walk_enumT {K : PySem.W.Frag} {a : Addr} {xs : List V} : Walk (Cr.IteT K a) xs.length (fun H => SqT K H a xs) (YPair (fun i => some (.int (i : Nat))) (fun i => xs[i]?)) := by
  refine ⟨fun i _ hi q => ⟨xs, xs[i], q, List.getElem?_eq_getElem hi⟩, fun _ q => ⟨xs, q, Nat.le_refl _⟩, fun i H v H' _ q y => ?_⟩
  obtain ⟨T, x, h1, h2, h3, h4⟩ := y
  exact ⟨T, .int (i : Nat), x, h1, h2, h3, rfl, h4 xs q⟩
theorem i_enumA {b : Bool} {e1 : Expr} {ka : Rho → Wp (List PyData)} (hm : X.mg "enumerate" = none) (ha : A X true [e1] ka) (hg : Gl X "enumerate" := by rfl)
    (hs : starEach [e1] X.env = [(false, eval e1 X.env)] := by rfl) : I X b (.Tuple elts kk tpos) (.Call (.Name "enumerate" p) [e1] [] pos) (iCall enumWA ka) := by
  refine ⟨pi_imp (Cr.pi_enumA hg hm ha.pa hs) fun σ H R ⟨fr, O, ρ, A, q⟩ => ?_, fun ρ => mono_bnd (ha.mo ρ) mono_enumWA⟩
  refine ⟨fr, O, ρ, A, ha.mo ρ _ _ (fun ds k vs H1 e1 g1 => ?_) q⟩
  have A1 := A.ex e1
  unfold enumWA at k
  split at k
  · cases g1 with
    | cons h r =>
      cases r
      have h : Dat (Wd fr O) H1 _ _ := h
      cases h with
      | @lst pa va _ na ka1 da =>
        refine ⟨pa, va, rfl, .inl ⟨SqL.of ka1, k _ H1 e1 ?_⟩⟩
        have w := walk_enum (K := X.K) (a := pa) (xs := va)
        rw [da.length, ← enumD_len] at w
        refine its_pair A1 w (fun H2 kk => SqL.of ((A1.via kk).2 _ _ na ka1)) fun i x y hi hx hy => ?_
        cases hx
        obtain ⟨d2, y1, y2⟩ := da.getV hy
        exact ⟨.int (i : Nat), d2, by simp [enumD, y1], .int _, y2⟩
  · cases g1 with
    | cons h r =>
      cases r
      have h : Dat (Wd fr O) H1 _ _ := h
      cases h with
      | @tup pa va _ ka1 da =>
        refine ⟨pa, va, rfl, .inr ⟨SqT.of ka1, k _ H1 e1 ?_⟩⟩
        have w := walk_enumT (K := X.K) (a := pa) (xs := va)
        rw [da.length, ← enumD_len] at w
        refine its_pair A1 w (fun H2 kk => SqT.of ((A1.via kk).1 _ _ ka1)) fun i x y hi hx hy => ?_
        cases hx
        obtain ⟨d2, y1, y2⟩ := da.getV hy
        exact ⟨.int (i : Nat), d2, by simp [enumD, y1], .int _, y2⟩
  · exact False.elim k
end
end Lq
namespace Lq
open PySem L2
/-! ### isinstance(x, T), x a dict too -/
section
variable {X : Cx}
theorem ty_ofD {K : PySem.W.Frag} {U W : Addr → Prop} {H : Hp} {v : V} {d : PyData} (h : TopD U W H v d) (n : ∀ es, d = .dict es → marked es = false) : TyX K H v (.type (tyD d)) := by
  by_cases e : tyD d = "dict"
  · cases d with
    | dict es =>
      obtain ⟨p, rfl, hh⟩ := h.dict
      rcases hh with ⟨kvs, a, b⟩ | ⟨kvs, fs, rfl, a, b⟩
      · rcases a with a | ⟨od, a⟩
        · exact .base (.dK a)
        · exact .fDict a
      · cases n _ rfl
    | none => simp [tyD] at e
    | bool _ => simp [tyD] at e
    | int _ => simp [tyD] at e
    | str _ => simp [tyD] at e
    | list _ => simp [tyD] at e
    | tuple _ => simp [tyD] at e
  · exact Cf.tyx (ty_of h e)
def isi2 : PyData → String → Option Bool
  | .dict es, T => if marked es = true then none else kitB "dict" T
  | d, T => kitB (tyD d) T
theorem isi2_ok {d : PyData} {T : String} {b : Bool} (h : isi2 d T = some b) : kitB (tyD d) T = some b ∧ ∀ es, d = .dict es → marked es = false := by
  cases d with
  | dict es =>
    have h : (if marked es = true then none else kitB "dict" T) = some b := h
    by_cases n : marked es = true
    · rw [if_pos n] at h; cases h
    · rw [if_neg n] at h
      exact ⟨h, fun fs e => by cases e; simpa using n⟩
  | none => exact ⟨h, fun _ e => nomatch e⟩
  | bool _ => exact ⟨h, fun _ e => nomatch e⟩
  | int _ => exact ⟨h, fun _ e => nomatch e⟩
  | str _ => exact ⟨h, fun _ e => nomatch e⟩
  | list _ => exact ⟨h, fun _ e => nomatch e⟩
  | tuple _ => exact ⟨h, fun _ e => nomatch e⟩
def eIsi2 (T : String) (f : Rho → Wp PyData) : Rho → Wp PyData := fun ρ => bnd (f ρ) fun d => bnd (atW (isi2 d T)) fun b => ret (.bool b)
theorem e_isi2 {g : Bool} {T : Str} {T' : String} {e : Expr} {f : Rho → Wp PyData} {p p2 pos : Pos} (h : E X false e f) (h1 : X.mg "isinstance" = none) (h2 : X.mg T = none) (hT : bootBuiltins T = some (.type T') := by decide +kernel) (hg1 : Gl X "isinstance" := by rfl) (hg2 : Gl X T := by rfl) (hn : T ≠ "__name__" := by decide) (hd : (T == ("__debug__" : Str)) = false := by decide)
    (hs : starEach [e, .Name T p2] X.env = (false, eval e X.env) :: starEach [.Name T p2] X.env := by rfl) (hpl : (backTo pos (starEach [.Name T p2] X.env)).any (·.1) = false := by rfl) : E X g (.Call (.Name "isinstance" p) [e, .Name T p2] [] pos) (eIsi2 T' f) := by
  refine E.tr ⟨pe_imp (pe_callB call_isi hg1 h1 (by decide +kernel) (pa_cons h.pe (pa_cons (pe_bltn (v := .ty T') hg2 h2 hT rfl hn hd) pa_nil) hs) (by decide) (by decide) hs hpl) fun σ H Q ⟨fr, O, ρ, A, q⟩ => ?_, fun ρ => mono_bnd (h.mo ρ) fun _ => mono_bnd (mono_atW _) fun _ => mono_ret _⟩
  refine ⟨fr, O, ρ, A, h.mo ρ _ _ (fun d k v H1 e1 g1 => ?_) q⟩
  obtain ⟨b, hb, k⟩ := atW_ok k
  obtain ⟨hk, hm⟩ := isi2_ok hb
  exact ⟨_, _, _, _, b, rfl, .ty _, ty_ofD g1 hm, kit_ty hk, k _ H1 e1 (.bl b)⟩
end
theorem eIsi2_e (T : String) (f : Rho → Wp PyData) (ρ : Rho) (Q : PyData → Prop) : eIsi2 T f ρ Q = f ρ fun d => atW (isi2 d T) fun b => Q (.bool b) := propext Iff.rfl
theorem isi2_d {es : List (PyData × PyData)} (h : marked es = false) : isi2 (.dict es) "dict" = some true := by
  show (if marked es = true then none else kitB "dict" "dict") = some true
  rw [if_neg (by rw [h]; exact Bool.false_ne_true)]
  decide +kernel
end Lq
namespace Lq
open PySem L2
/-! ### exceptions: raise; defs that raise; try .. except -/
abbrev valErr : List Value := [.type "ValueError", .type "Exception", .type "BaseException", .type "object"]
/-- an exception of a class is one of it -/
theorem exm_me {K : PySem.W.Frag} {S : Addr} (a : PySem.W.subIn K (.ref S) (.type "BaseException") = some true) (b : PySem.W.isClsIn K S = true) (c : PySem.W.typeIn K (.ref S) = some (.type "type")) (d : PySem.W.subIn K (.ref S) (.ref S) = some true) : PySem.W.exmOne K (.ref S) (.ref S) = some true := by
  have b' : (PySem.W.clsIn K S).isSome = true := b
  simp [PySem.W.exmOne, PySem.W.kitCls, a, b', c, d]
/-- an exception class of the program's own, below ValueError -/
structure Xc (K : PySem.W.Frag) (mg : Str → Option Value) (n : Str) : Prop where
  ex : ∃ C, mg n = some (.ref C) ∧ PySem.W.excIn K C valErr "ValueError.__new__" = true ∧ PySem.W.keepIn K (.ref C) = true ∧
    PySem.W.subIn K (.ref C) (.type "BaseException") = some true ∧ PySem.W.typeIn K (.ref C) = some (.type "type") ∧ PySem.W.exmOne K (.ref C) (.ref C) = some true
theorem At.finE {fr : Fr} {O : List (Option Addr)} {σ : St} {ρ : Rho} {H : Hp} (A : At fr O σ ρ H) : FinE fr H := ⟨A.keep, fun a c e => (A.pool a c e).1, A.st⟩
section
variable {X : Cx} {pos : Pos}
theorem s_raise {n m : Str} {j} {p p2 q : Pos} (hc : X.calm = true) (Z : Xc X.K X.mg n) (hg : Gl X n := by rfl) (hdb : (n == ("__debug__" : Str)) = false := by decide) : S X (.Raise (some (.Call (.Name n p) [.Constant (.str m) j p2] [] q)) none pos) (fun _ => ret (.ex n)) := by
  refine ⟨fun W tk => ?_, fun _ => mono_ret _⟩
  obtain ⟨C, gC, xC, kC, bC, tC, _⟩ := Z.ex
  refine ps_imp (ps_raise hc tk (pmk_own PySem.F.excBase_ValueError xC gC kC (raises_own bC tC) hg hdb)) fun D σ H ⟨fr, O, ρ, A, q⟩ => ?_
  exact q C gC σ H A.finE
end
/-! a def that raises -/
/-- what a def that raises leaves -/
inductive Rx where
  | ok (d : PyData)
  | no (n : Str)
def endX (Q : Rx → Prop) : Out → Prop
  | .rt d => Q (.ok d)
  | .nx _ => Q (.ok .none)
  | .ex n => Q (.no n)
  | _ => False
def runX (N : Nat) (body : Rho → Wp Out) : List PyData → Wp Rx := fun ds Q => body (ds.map Sl.val ++ List.replicate (N - ds.length) .un) (endX Q)
theorem mono_runX {N : Nat} {body : Rho → Wp Out} (h : ∀ ρ, Mono (body ρ)) (ds : List PyData) : Mono (runX N body ds) := fun P P' i q => h _ _ _ (fun o k => match o, k with
  | .rt d, k => i _ k
  | .nx _, k => i _ k
  | .bk _, k => k
  | .ct _, k => k
  | .rs _ _, k => k
  | .ex _, k => i _ k) q
def endRx (mg : Str → Option Value) (U : Addr → Prop) (H : Hp) (Q : VK) (E : XK) : Rx → Prop
  | .ok d => ∀ v H', Same H H' → Dat U H' v d → Q v H'
  | .no x => ∀ C, mg x = some (.ref C) → ∀ H', Same H H' → E (.ref C) none H'
def spX (mg : Str → Option Value) (n : Nat) (m : List PyData → Wp Rx) : Sp := fun vs H Q E => ∃ ds U, ds.length = n ∧ (∀ b, U b → H b ≠ none) ∧ Dats U H vs ds ∧ up (m ds) (endRx mg U H Q E)
/-- a def that raises, at its name -/
structure AtX (P : Program) (w : World) (K : PySem.W.Frag) (mg : Str → Option Value) (base : Heap) (x : Str) (k : Nat) (ps : List Str) (sp : Sp) : Prop where
  ex : ∃ (f : Addr) (fd : FuncData), FnOk P w K mg base (L2.CX P w) k f fd ps sp ∧ Binds K fd ps [] ∧ PySem.W.keepIn K (.ref f) = true ∧ mg x = some (.ref f)
section
variable {P : Program} {w : World} {K : PySem.W.Frag} {mg : Str → Option Value} {base : Heap}
theorem fn_x {x qual : Str} {st : Stmt} {f : Addr} {fd : FuncData} {N ps : List Str} {k n : Nat} {body : Rho → Wp Out} (F : Fun K x qual st f fd) (Sc : FnScope N ps (defScope st)) (hn : ps.length = n)
    (hb : ∀ (cdv : Value) (A : Around) (outer : List Env) (s : Shared) (H : Hp) (E : XK), Room k (A.deeper (PyProof.Rows.envOfC qual (defScope st) s.heap.objs.size f cdv)) → SS (cxOf (L2.CX P w) P w K mg base N qual (defScope st) f cdv A outer s H E) (defBody st) body) :
    FnOk P w K mg base (L2.CX P w) (k + 1) f fd ps (spX mg n (runX N.length body)) := by
  refine F.okX Sc (fun vs H Q E h => ?_) (fun cdv A outer s H vs Q E hr h => ⟨_, (hb cdv A outer s H E hr).ps (fun cls d _ H => E cls d H) (takes_of rfl rfl rfl rfl), ?_⟩)
  · obtain ⟨ds, U, h1, _, h2, _⟩ := h
    rw [h2.length, h1, hn]
  obtain ⟨ds, U, h1, hU, h2, R, hm, hi⟩ := h
  have l := h2.length
  refine ⟨⟨U, fun _ => False, none, H, []⟩, List.replicate (ds.length + (N.length - ds.length)) none, ds.map Sl.val ++ List.replicate (N.length - ds.length) .un, ⟨?_, fun _ _ _ h => h, fun a c e => (by cases e), fun p m => absurd m noO, fun i j p h => absurd h noO2, hU, fun _ h => h, Tied.free plS_vals⟩, ?_⟩
  · have s := slots_val (W := Wd ⟨U, fun _ => False, none, H, []⟩ (List.replicate (ds.length + (N.length - ds.length)) none)) (pl := none) (N.length - ds.length) (h2.less fun p _ z => z.elim id fun m => absurd m noO)
    unfold L2.start
    rw [l]
    exact s
  · refine (hb cdv A outer s H E hr).mo _ _ _ (fun o k => ?_) hm
    match o, k with
    | .rt d, k => exact fun v H' F => hi _ k v H' (fun b o h => F.keep b o (fun z => z) h) F.dat
    | .nx _, k => exact fun σ' O' H' A => hi _ k _ H' (fun b o h => A.keep b o (fun z => z) h) .non
    | .ex n, k => exact fun C hC σ' H' F => hi _ k C hC H' (fun b o h => F.keep b o (fun z => z) h)
end
/-! try: return (c, f(..)) except X: .. -/
def noX : Out → Wp Out
  | .ex _ => bad
  | .nx ρ => ret (.nx ρ)
  | .rt d => ret (.rt d)
  | .bk ρ => ret (.bk ρ)
  | .ct ρ => ret (.ct ρ)
  | .rs d ρ => ret (.rs d ρ)
theorem mono_noX : ∀ o, Mono (noX o)
  | .ex _ => mono_bad
  | .nx _ | .rt _ | .bk _ | .ct _ | .rs _ _ => mono_ret _
def tryT (c : PyData) (n : Str) (g : Wp Out) : Rx → Wp Out
  | .ok d => ret (.rt (.tuple [c, d]))
  | .no y => if y = n then bnd g noX else bad
def sTryT (c : PyData) (m : List PyData → Wp Rx) (n : Str) (ka : Rho → Wp (List PyData)) (g : Rho → Wp Out) : Rho → Wp Out := fun ρ => bnd (ka ρ) fun ds => bnd (up (m ds)) (tryT c n (g ρ))
theorem mono_tryT {c : PyData} {n : Str} {g : Wp Out} (h : Mono g) : ∀ r, Mono (tryT c n g r)
  | .ok _ => mono_ret _
  | .no _ => ite_mono (mono_bnd h mono_noX) mono_bad
section
variable {X : Cx} {pos : Pos}
theorem s_tryT {n x c : Str} {j N : Nat} {ps : List Str} {m : List PyData → Wp Rx} {e : Expr} {es : List Expr} {ka : Rho → Wp (List PyData)} {b₀ : Stmt} {suite : List Stmt} {g : Rho → Wp Out} {j1} {p2 p q np pos2 pos' tp : Pos} {ct}
    (C : AtX X.prog X.w X.K X.mg X.base x j ps (spX X.mg N m)) (hr : Room j X.A) (Z : Xc X.K X.mg n) (hs : X.stack = X.env :: X.outer) (hf : X.env.frame = some X.env.locals)
    (ha : ∀ pn xe, A (X.tr pn xe) true (e :: es) ka) (hsu : ∀ a pn, SS (X.suite a pn) (b₀ :: suite) g) (hn : es.length + 1 = N := by rfl) (hg : Gl X x := by rfl) (hgn : Gl X n := by rfl) (hdb : (x == ("__debug__" : Str)) = false := by decide) (hdn : (n == ("__debug__" : Str)) = false := by decide)
    (he : starEach (e :: es) X.env = (false, eval e X.env) :: starEach es X.env := by rfl) (hpl : (backTo q (starEach es X.env)).any (·.1) = false := by rfl) :
    S X (.Try [.Return (some (.Tuple [.Constant (.str c) j1 p2, .Call (.Name x p) (e :: es) [] q] ct tp)) pos2] [.ExceptHandler (some (.Name n np)) none (b₀ :: suite) pos'] [] [] pos) (sTryT (.str c) m n ka g) := by
  have ha0 := ha X.pn X.xe
  refine ⟨fun Wx tkx => ?_, fun ρ => mono_bnd (ha0.mo ρ) fun _ => mono_bnd (mono_up _) fun r => mono_tryT ((hsu 0 []).mo ρ) r⟩
  obtain ⟨fa, fd, F, hb, hk, hm⟩ := C.ex
  obtain ⟨CC, gC, _, _, _, _, xC⟩ := Z.ex
  refine ps_imp (ps_try_only (ts := fun _ _ _ => tsOf (X.mg, fun _ _ _ _ => False) g) hs hf ⟨hgn, hdn, .inl gC⟩ tkx
    (fun W pn xe tk _ => pss_one (ps_ret (pe_tup (pa_cons pe_str (pa_cons (pe_callS (X := X.tr pn xe) F hr hg hm hk hb (fun σ => passAt tk σ) (ha pn xe).pa hdb he hpl) pa_nil)))))
    (fun a oe cls d pn _ _ => (hsu a ((a, oe) :: pn)).ps _ takes0)) fun D σ H ⟨fr, O, ρ, A, q⟩ => ?_
  refine ⟨fr, O, ρ, A, ha0.mo ρ _ _ (fun ds k1 vs H1 e1 g1 => ?_) (ha0.len ρ _ q)⟩
  have A1 := A.ex e1
  refine ⟨ds, Wd fr O, k1.1.trans hn, fun b w => A1.wd w, g1.dats, mono_up _ _ _ (fun r k3 => ?_) k1.2⟩
  cases r with
  | ok d =>
    intro v H3 e3 g3
    have A3 := A1.ex (A1.same e3)
    refine ⟨by show 2 ≤ sizeLine; decide, fun p hp => ?_⟩
    exact k3 _ _ ((A3.ex (Ex.new A3 hp)).fin (TopD.of (Dat.tup upd_same ((Dats.cons (.str _) (.cons g3 .nil)).same (Cf.same_new hp _)))))
  | no y =>
    intro C' hC' H3 e3
    have A3 := A1.ex (A1.same e3)
    by_cases z : y = n
    · subst z
      rw [gC] at hC'
      cases hC'
      refine ⟨true, xC, fun _ a _ => ?_, fun z => by cases z⟩
      have k3 : (if y = y then bnd (g ρ) noX else bad) (endOf (X.mg, Wx) fr D) := k3
      rw [if_pos rfl] at k3
      refine ⟨fr, O, ρ, A3, (hsu 0 []).mo ρ _ _ (fun o ko => ?_) k3⟩
      cases o with
      | ex _ => exact ko.elim
      | nx _ => exact ko
      | rt _ => exact ko
      | bk _ => exact ko
      | ct _ => exact ko
      | rs _ _ => exact ko
    · have k3 : (if y = n then bnd (g ρ) noX else bad) (endOf (X.mg, Wx) fr D) := k3
      rw [if_neg z] at k3
      exact k3.elim
end
end Lq
namespace Lq
open PySem L2
/-! ### things that stood before the def, names of them; expressions that change them -/
def ghD : Gh → PyData
  | .lst ds => .list ds
  | .dic es => .dict es
  | .dit es => .dict ((.none, .none) :: es)
inductive GhAt (W : Addr → Prop) (H : Hp) (p : Addr) : Gh → Prop
  | lst {vs : List V} {ds : List PyData} : H p = some (.lst vs) → Dats W H vs ds → GhAt W H p (.lst ds)
  | dic {kvs : List (Key × V)} {es : List (PyData × PyData)} : H p = some (.dK kvs) → DatK W H kvs es → GhAt W H p (.dic es)
  | dit {kvs : List (List Key × V)} {es : List (PyData × PyData)} : H p = some (.dT kvs) → DatT W H kvs es → GhAt W H p (.dit es)
section
variable {W W' : Addr → Prop} {H H' : Hp} {p : Addr} {g : Gh}
theorem GhAt.slot (h : GhAt W H p g) {pl : Pl} {b : Bool} : SlotAt W pl H (some p) none (.gh b g) := by
  cases h with
  | lst a r => exact .gl a r
  | dic a r => exact .gd a r
  | dit a r => exact .gt a r
theorem gh_slot {pl : Pl} {o : Option Addr} {x : Option V} {b : Bool} (h : SlotAt W pl H o x (.gh b g)) : ∃ p, o = some p ∧ x = none ∧ GhAt W H p g := by
  cases h with
  | gl a r => exact ⟨_, rfl, rfl, .lst a r⟩
  | gd a r => exact ⟨_, rfl, rfl, .dic a r⟩
  | gt a r => exact ⟨_, rfl, rfl, .dit a r⟩
theorem GhAt.top {U : Addr → Prop} (n : ¬ U p) (h : GhAt W H p g) : TopD U W H (.ref p) (ghD g) := by
  cases h with
  | lst a r => exact .lst n a r
  | dic a r => exact .dic n (.inl a) r
  | dit a r => exact .dit n (.inl a) r
theorem GhAt.obj (h : GhAt W H p g) : ∃ o, H p = some o ∧ ∀ vs, o ≠ .tup vs := by
  cases h with
  | lst a r => exact ⟨_, a, by intro vs z; cases z⟩
  | dic a r => exact ⟨_, a, by intro vs z; cases z⟩
  | dit a r => exact ⟨_, a, by intro vs z; cases z⟩
theorem GhAt.to (hU : ∀ q, ¬ W q → H q ≠ none → ¬ W' q) (ht : ∀ q vs, H q = some (.tup vs) → H' q = some (.tup vs)) (hl : ∀ q o, ¬ W q → H q = some o → H' q = some o) (hp : ∀ o, H p = some o → H' p = some o) (h : GhAt W H p g) : GhAt W' H' p g := by
  cases h with
  | lst a r => exact .lst (hp _ a) (r.to hU ht hl)
  | dic a r => exact .dic (hp _ a) (r.to hU ht hl)
  | dit a r => exact .dit (hp _ a) (r.to hU ht hl)
end
/-- the thing of slot j, which the name of slot i holds -/
def slG (j : Nat) : Option Sl → Option Sl → Wp Gh
  | some (.ptr k), some (.gh _ g) => gd (k = j) g
  | _, _ => bad
theorem mono_slG (j : Nat) (a b : Option Sl) : Mono (slG j a b) := by
  unfold slG
  split <;> first | exact mono_gd _ | exact mono_bad
theorem slG_ok {j : Nat} {a b : Option Sl} {P : Gh → Prop} (q : slG j a b P) : ∃ c g, a = some (.ptr j) ∧ b = some (.gh c g) ∧ P g := by
  unfold slG at q
  split at q
  · obtain ⟨rfl, q⟩ := q; exact ⟨_, _, rfl, rfl, q⟩
  · exact q.elim
def eGh (i j : Nat) : Rho → Wp PyData := fun ρ => bnd (slG j ρ[i]? ρ[j]?) fun g => ret (ghD g)
section
variable {fr : Fr} {O : List (Option Addr)} {σ : St} {ρ : Rho} {H H' : Hp}
theorem At.ghost (A : At fr O σ ρ H) {i j : Nat} {c : Bool} {g : Gh} (h1 : ρ[i]? = some (.ptr j)) (h2 : ρ[j]? = some (.gh c g)) : ∃ p, O[j]? = some (some p) ∧ σ[i]? = some (some (.ref p)) ∧ σ[j]? = some none ∧ GhAt (Wd fr O) H p g := by
  obtain ⟨p, a1, a2⟩ := A.gh.ptr i j h1 (by rw [h2]; rfl)
  obtain ⟨o, x, b1, b2, b3⟩ := A.sl.get h2
  obtain ⟨q, rfl, rfl, b4⟩ := gh_slot b3
  rw [a1] at b1
  cases b1
  exact ⟨p, a1, a2, b2, b4⟩
/-- what stands, but for the def's own things and the pool -/
structure Exs (fr : Fr) (O : List (Option Addr)) (H H' : Hp) : Prop where
  keep : Kept fr O H H'
  there : ∀ b, H b ≠ none → H' b ≠ none
theorem Exs.trans {H1 H2 : Hp} (x : Exs fr O H H1) (y : Exs fr O H1 H2) : Exs fr O H H2 := ⟨fun b o n h => y.keep b o n (x.keep b o n h), fun b h => y.there b (x.there b h)⟩
theorem Exs.refl : Exs fr O H H := ⟨fun _ _ _ h => h, fun _ h => h⟩
theorem Ex.exs (e : Ex fr.pl H H') : Exs fr O H H' := ⟨fun b o n h => e.keep b o (fun a c z y => n (.inr ⟨c, by rw [y]; exact z⟩)) h, e.there⟩
theorem Dat.exs (A : At fr O σ ρ H) (e : Exs fr O H H') {v : V} {d : PyData} (h : Dat (Wd fr O) H v d) : Dat (Wd fr O) H' v d :=
  h.to (fun _ n _ => n) (A.via (b := true) e.keep).1 (A.via (b := true) e.keep).2
theorem Dats.exs (A : At fr O σ ρ H) (e : Exs fr O H H') {v : List V} {d : List PyData} (h : Dats (Wd fr O) H v d) : Dats (Wd fr O) H' v d :=
  h.to (fun _ n _ => n) (A.via (b := true) e.keep).1 (A.via (b := true) e.keep).2
theorem Tied.gset {g : List (Nat × Addr)} (t : Tied g O σ ρ) {j : Nat} {c : Bool} {g0 g1 : Gh} (h : ρ[j]? = some (.gh c g0)) : Tied g O σ (ρ.set j (.gh c g1)) := by
  have hl : j < ρ.length := (List.getElem?_eq_some_iff.mp h).1
  have e : ∀ k, kiG (ρ.set j (.gh c g1))[k]? = kiG ρ[k]? ∧ kiP (ρ.set j (.gh c g1))[k]? = kiP ρ[k]? := fun k => by
    by_cases z : j = k
    · subst z
      rw [List.getElem?_set_self hl, h]
      cases c <;> exact ⟨rfl, rfl⟩
    · rw [List.getElem?_set_ne z]; exact ⟨rfl, rfl⟩
  refine ⟨fun i k h1 h2 => t.ptr i k ?_ (by rw [← (e k).1]; exact h2), fun k p m h2 => t.pin k p m (by rw [← (e k).2]; exact h2)⟩
  rw [List.getElem?_set] at h1
  split at h1
  · first | cases h1 | (split at h1 <;> cases h1)
  · exact h1
/-- the thing of slot j is written -/
theorem At.gwrite (A : At fr O σ ρ H) {j : Nat} {p : Addr} {c : Bool} {g0 g1 : Gh} {o' : HO} (h : ρ[j]? = some (.gh c g0)) (ho : O[j]? = some (some p)) (hx : σ[j]? = some none) (hn : ∀ vs, o' ≠ .tup vs) (hs : GhAt (Wd fr O) (upd H p o') p g1) : At fr O σ (ρ.set j (.gh c g1)) (upd H p o') :=
  A.writeT ho hx hn hs.slot (A.gh.gset h)
theorem exs_upd {j : Nat} {p : Addr} {o' : HO} (ho : O[j]? = some (some p)) : Exs fr O H (upd H p o') :=
  ⟨fun b o n h => by rw [upd_ne (fun z => n (.inl (by rw [z]; exact List.mem_of_getElem? ho)))]; exact h, fun b h => by
    by_cases z : b = p
    · rw [z, upd_same]; exact Option.some_ne_none _
    · rw [upd_ne z]; exact h⟩
/-- data stays where an own thing is written -/
theorem At.datUpd (A : At fr O σ ρ H) {j : Nat} {p : Addr} {o' : HO} (ho : O[j]? = some (some p)) {v : V} {d : PyData} (h : Dat (Wd fr O) H v d) : Dat (Wd fr O) (upd H p o') v d := Dat.exs A (exs_upd ho) h
theorem At.datsUpd (A : At fr O σ ρ H) {j : Nat} {p : Addr} {o' : HO} (ho : O[j]? = some (some p)) {v : List V} {d : List PyData} (h : Dats (Wd fr O) H v d) : Dats (Wd fr O) (upd H p o') v d := Dats.exs A (exs_upd ho) h
end
section
variable {X : Cx}
theorem e_gh (i j : Nat) {x : Str} {pos : Pos} (hN : X.N[i]? = some x := by rfl) (hv : Vis X.env.scope x := by first | exact Or.inl rfl | exact Or.inr (Or.inl rfl) | exact Or.inr (Or.inr rfl)) (hd : (x == ("__debug__" : Str)) = false := by decide)
    (hcd : (x == ("__classdict__" : Str)) = false := by decide) : E X false (.Name x pos) (eGh i j) := by
  refine ⟨pe_imp (pe_var hN hv hd hcd) fun σ H Q ⟨fr, O, ρ, A, q⟩ => ?_, fun _ => mono_bnd (mono_slG _ _ _) fun _ => mono_ret _⟩
  obtain ⟨c, g, h1, h2, q⟩ := slG_ok q
  obtain ⟨p, a1, a2, _, a4⟩ := A.ghost h1 h2
  exact ⟨_, a2, q _ H A.refl (a4.top (A.own p (List.mem_of_getElem? a1)).1.1)⟩
end
/-! expressions that change things -/
def tezOf (f : Rho → Wp (PyData × Rho)) : TE := fun σ H Q => ∃ fr O ρ, At fr O σ ρ H ∧ f ρ fun r => ∀ v H', Exs fr O H H' → At fr O σ r.2 H' → Dat (Wd fr O) H' v r.1 → Q v H'
def tazOf (k : Rho → Wp (List PyData × Rho)) : TA := fun σ H Q => ∃ fr O ρ, At fr O σ ρ H ∧ k ρ fun r => ∀ vs H', Exs fr O H H' → At fr O σ r.2 H' → Dats (Wd fr O) H' vs r.1 → Q vs H'
def ttzOf (f : Rho → Wp (Bool × Rho)) : TT := fun σ H Q => ∃ fr O ρ, At fr O σ ρ H ∧ f ρ fun r => ∀ H', At fr O σ r.2 H' → Q r.1 H'
structure EZ (X : Cx) (e : Expr) (f : Rho → Wp (PyData × Rho)) : Prop where
  pe : PE X e (tezOf f)
  mo : ∀ ρ, Mono (f ρ)
structure AZ (X : Cx) (es : List Expr) (k : Rho → Wp (List PyData × Rho)) : Prop where
  pa : PA X es (tazOf k)
  mo : ∀ ρ, Mono (k ρ)
  len : ∀ ρ P, k ρ P → k ρ fun r => r.1.length = es.length ∧ P r
structure TZ (X : Cx) (e : Expr) (f : Rho → Wp (Bool × Rho)) : Prop where
  pt : PT X e (ttzOf f)
  mo : ∀ ρ, Mono (f ρ)
def zPure (f : Rho → Wp PyData) : Rho → Wp (PyData × Rho) := fun ρ => bnd (f ρ) fun d => ret (d, ρ)
def zNil : Rho → Wp (List PyData × Rho) := fun ρ => ret ([], ρ)
def zCons (f : Rho → Wp (PyData × Rho)) (k : Rho → Wp (List PyData × Rho)) : Rho → Wp (List PyData × Rho) := fun ρ => bnd (f ρ) fun r => bnd (k r.2) fun s => ret (r.1 :: s.1, s.2)
def zOp (o : PyData → PyData → Wp PyData) (f k : Rho → Wp (PyData × Rho)) : Rho → Wp (PyData × Rho) := fun ρ => bnd (f ρ) fun r => bnd (k r.2) fun s => bnd (o r.1 s.1) fun d => ret (d, s.2)
def zTup (k : Rho → Wp (List PyData × Rho)) : Rho → Wp (PyData × Rho) := fun ρ => bnd (k ρ) fun r => gd (r.1.length ≤ sizeLine) (.tuple r.1, r.2)
def zCall (o : List PyData → Wp PyData) (k : Rho → Wp (List PyData × Rho)) : Rho → Wp (PyData × Rho) := fun ρ => bnd (k ρ) fun r => bnd (o r.1) fun d => ret (d, r.2)
section
variable {X : Cx} {e a b : Expr} {es : List Expr} {f k : Rho → Wp (PyData × Rho)} {ka : Rho → Wp (List PyData × Rho)} {pos p : Pos}
theorem ez_of {f : Rho → Wp PyData} (h : E X true e f) : EZ X e (zPure f) := by
  refine ⟨pe_imp h.pe fun σ H Q ⟨fr, O, ρ, A, q⟩ => ⟨fr, O, ρ, A, h.mo ρ _ _ (fun d k v H1 e1 g1 => k v H1 e1.exs (A.ex e1) g1) q⟩, fun ρ => mono_bnd (h.mo ρ) fun _ => mono_ret _⟩
theorem az_nil : AZ X [] zNil := ⟨pa_imp pa_nil fun σ H Q ⟨fr, O, ρ, A, q⟩ => q [] H .refl A .nil, fun _ => mono_ret _, fun _ _ h => ⟨rfl, h⟩⟩
theorem az_cons (h : EZ X e f) (r : AZ X es ka) (hs : starEach (e :: es) X.env = (false, eval e X.env) :: starEach es X.env := by rfl) : AZ X (e :: es) (zCons f ka) := by
  refine ⟨pa_imp (pa_cons h.pe r.pa hs) fun σ H Q ⟨fr, O, ρ, A, q⟩ => ?_, fun ρ => mono_bnd (h.mo ρ) fun _ => mono_bnd (r.mo _) fun _ => mono_ret _, fun ρ P q => h.mo ρ _ _ (fun d k1 => r.mo _ _ _ (fun ds k2 => ⟨congrArg (· + 1) k2.1, k2.2⟩) (r.len _ _ k1)) q⟩
  refine ⟨fr, O, ρ, A, h.mo ρ _ _ (fun d k1 v H1 e1 A1 g1 => ?_) q⟩
  exact ⟨fr, O, d.2, A1, r.mo _ _ _ (fun ds k2 vs H2 e2 A2 g2 => k2 (v :: vs) H2 (e1.trans e2) A2 (.cons (Dat.exs A1 e2 g1) g2)) k1⟩
theorem ez_op {op : Operator} {o : PyData → PyData → Wp PyData} (ho : OpQ X (binaryOp op) o) (ha : EZ X a f) (hb : EZ X b k) : EZ X (.BinOp a op b pos) (zOp o f k) := by
  obtain ⟨r, h1, h2⟩ := ho.ex
  refine ⟨pe_imp (pe_op h1 ha.pe hb.pe) fun σ H Q ⟨fr, O, ρ, A, q⟩ => ?_, fun ρ => mono_bnd (ha.mo ρ) fun _ => mono_bnd (hb.mo _) fun _ => mono_bnd (ho.mo _ _) fun _ => mono_ret _⟩
  refine ⟨fr, O, ρ, A, ha.mo ρ _ _ (fun d k1 x H1 e1 A1 g1 => ?_) q⟩
  refine ⟨fr, O, d.2, A1, hb.mo _ _ _ (fun e k2 y H2 e2 A2 g2 => ?_) k1⟩
  exact h2 A2 (.of (Dat.exs A1 e2 g1)) (.of g2) (ho.mo _ _ _ _ (fun c k3 v H3 e3 g3 => k3 v H3 ((e1.trans e2).trans (A2.same e3).exs) (A2.ex (A2.same e3)) g3) k2)
theorem ez_tup {c} (h : AZ X es ka) : EZ X (.Tuple es c pos) (zTup ka) := by
  refine ⟨pe_imp (pe_tup h.pa) fun σ H Q ⟨fr, O, ρ, A, q⟩ => ?_, fun ρ => mono_bnd (h.mo ρ) fun _ => mono_gd _⟩
  refine ⟨fr, O, ρ, A, h.mo ρ _ _ (fun ds k1 vs H1 e1 A1 g1 => ?_) q⟩
  have l := g1.length
  refine ⟨by rw [l]; exact k1.1, fun p hp => k1.2 _ _ (e1.trans (Ex.new A1 hp).exs) (A1.ex (Ex.new A1 hp)) (Dat.tup upd_same (g1.same (Cf.same_new hp _)))⟩
theorem gds_of {fr : Fr} {O : List (Option Addr)} {H : Hp} : ∀ {vs : List V} {ds : List PyData}, Dats (Wd fr O) H vs ds → Gds false fr O H vs ds
  | _, _, .nil => .nil
  | _, _, .cons a r => .cons (Gd.of a) (gds_of r)
theorem azs_ops {o : List PyData → Wp PyData} {r : List V → Hp → VK → Prop} (hr : ∀ {fr : Fr} {O : List (Option Addr)} {σ : St} {ρ : Rho} {H : Hp} {vs : List V} {ds : List PyData} {Q : VK}, At fr O σ ρ H → Gds false fr O H vs ds →
    (o ds fun c => ∀ v H', Same H H' → Dat (Wd fr O) H' v c → Q v H') → r vs H Q) (mo : ∀ ds, Mono (o ds)) (ha : ∀ ρ, Mono (ka ρ)) {σ : St} {H : Hp} {Q : VK} (q : tezOf (zCall o ka) σ H Q) : tCB r (tazOf ka) σ H Q := by
  obtain ⟨fr, O, ρ, A, q⟩ := q
  refine ⟨fr, O, ρ, A, ha ρ _ _ (fun d k1 x H1 e1 A1 g1 => ?_) q⟩
  exact hr A1 (gds_of g1) (mo _ _ _ (fun c k3 v H3 e3 g3 => k3 v H3 (e1.trans (A1.same e3).exs) (A1.ex (A1.same e3)) g3) k1)
theorem ez_callTy {x : Str} {id : String} {o : List PyData → Wp PyData} (hc : CallQ X (.type id) o) (hm : X.mg x = none) (ha : AZ X (e :: es) ka) (hg : Gl X x := by rfl) (hv : bootBuiltins x = some (.type id) := by decide +kernel) (hn : x ≠ "__name__" := by decide) (hdb : (x == ("__debug__" : Str)) = false := by decide)
    (he : starEach (e :: es) X.env = (false, eval e X.env) :: starEach es X.env := by rfl) (hpl : (backTo pos (starEach es X.env)).any (·.1) = false := by rfl) : EZ X (.Call (.Name x p) (e :: es) [] pos) (zCall o ka) := by
  obtain ⟨r, h1, h2⟩ := hc.ex
  exact ⟨pe_imp (pe_callTy h1 hg hm hv ha.pa hn hdb he hpl) fun σ H Q q => azs_ops h2 hc.mo ha.mo q, fun ρ => mono_bnd (ha.mo ρ) fun _ => mono_bnd (hc.mo _) fun _ => mono_ret _⟩
/-! tests -/
def zT (f : Rho → Wp (PyData × Rho)) : Rho → Wp (Bool × Rho) := fun ρ => bnd (f ρ) fun r => bnd (tru r.1) fun b => ret (b, r.2)
theorem tz_tru (ha : EZ X a f) (he : ∀ whole, isTrue a X.env whole = (do let v ← whole; standAt a.pos; holding [v] (truthy v)) := by intro _; rfl) : TZ X a (zT f) := by
  refine ⟨pt_imp (pt_truthR ha.pe truw_ok he) fun σ H Q ⟨fr, O, ρ, A, q⟩ => ?_, fun ρ => mono_bnd (ha.mo ρ) fun _ => mono_bnd (mono_tru _) fun _ => mono_ret _⟩
  refine ⟨fr, O, ρ, A, ha.mo ρ _ _ (fun d k v H1 e1 A1 g1 => ?_) q⟩
  obtain ⟨c, h1, h2⟩ := tru_ok (K := X.K) (U := fr.U) (W := Wd fr O) (.of g1) k
  exact ⟨c, h1, h2 H1 A1⟩
def zNo (f : Rho → Wp (Bool × Rho)) : Rho → Wp (Bool × Rho) := fun ρ => bnd (f ρ) fun r => ret (!r.1, r.2)
theorem tz_not {l : Rho → Wp (Bool × Rho)} (ha : TZ X a l) : TZ X (.UnaryOp .Not a pos) (zNo l) :=
  ⟨pt_imp (pt_not ha.pt) fun σ H Q ⟨fr, O, ρ, A, q⟩ => ⟨fr, O, ρ, A, q⟩, fun ρ => mono_bnd (ha.mo ρ) fun _ => mono_ret _⟩
theorem tz_of {l : Rho → Wp Bool} (h : T X a l) : TZ X a (fun ρ => bnd (l ρ) fun b => ret (b, ρ)) :=
  ⟨pt_imp h.pt fun σ H Q ⟨fr, O, ρ, A, q⟩ => ⟨fr, O, ρ, A, h.mo ρ _ _ (fun d k H1 e1 => k H1 (A.ex e1)) q⟩, fun ρ => mono_bnd (h.mo ρ) fun _ => mono_ret _⟩
/-! statements -/
def sRetZ (f : Rho → Wp (PyData × Rho)) : Rho → Wp Out := fun ρ => bnd (f ρ) fun r => ret (.rs r.1 r.2)
theorem s_retZ (h : EZ X e f) : S X (.Return (some e) pos) (sRetZ f) :=
  ⟨fun Wx tkx => ps_imp (ps_ret h.pe) fun D σ H ⟨fr, O, ρ, A, q⟩ => ⟨fr, O, ρ, A, h.mo ρ _ _ (fun d k v H1 e1 A1 g1 => k v σ O H1 A1 g1) q⟩, fun ρ => mono_bnd (h.mo ρ) fun _ => mono_ret _⟩
def sExprZ (f : Rho → Wp (PyData × Rho)) : Rho → Wp Out := fun ρ => bnd (f ρ) fun r => ret (.nx r.2)
theorem s_exprZ (h : EZ X e f) (hs : swapsWith e none pos.line X.env = pure false := by rfl) : S X (.Expr e pos) (sExprZ f) :=
  ⟨fun Wx tkx => ps_imp (ps_expr h.pe hs) fun D σ H ⟨fr, O, ρ, A, q⟩ => ⟨fr, O, ρ, A, h.mo ρ _ _ (fun d k v H1 e1 A1 g1 => k σ O H1 A1) q⟩, fun ρ => mono_bnd (h.mo ρ) fun _ => mono_ret _⟩
def sSetZ (k : PyData → Rho → Wp Rho) (f : Rho → Wp (PyData × Rho)) : Rho → Wp Out := fun ρ => bnd (f ρ) fun r => bnd (k r.1 r.2) fun ρ' => ret (.nx ρ')
theorem s_asgZ {ws : List Nat} {tg : Expr} {k : PyData → Rho → Wp Rho} (h : EZ X e f) (g : G X ws tg k) (hs : swapsWithSole [tg] e pos.line X.env = pure false := by rfl) (hw : swappedStores [tg] e X.env = pure none := by rfl) (h1 : (assignEach [tg] X.env).map (·.2) = [assign tg X.env] := by rfl) : S X (.Assign [tg] e pos) (sSetZ k f) := by
  refine ⟨fun Wx tkx => ps_imp (ps_asg h.pe g.pg hs hw h1) fun D σ H ⟨fr, O, ρ, A, q⟩ => ?_, fun ρ => mono_bnd (h.mo ρ) fun _ => mono_bnd (g.mo _ _) fun _ => mono_ret _⟩
  exact ⟨fr, O, ρ, A, h.mo ρ _ _ (fun d k1 v H1 e1 A1 g1 => ⟨fr, O, d.2, d.1, A1, g1, g.mo _ _ _ _ (fun ρ1 k2 σ1 O1 _ A2 => k2 σ1 O1 H1 A2) k1⟩) q⟩
def sIfZ (c : Rho → Wp (Bool × Rho)) (f k : Rho → Wp Out) : Rho → Wp Out := fun ρ => bnd (c ρ) fun r => if r.1 = true then f r.2 else k r.2
theorem s_ifZ {c : Expr} {sa sb : List Stmt} {t : Rho → Wp (Bool × Rho)} {l m : Rho → Wp Out} (hc : TZ X c t) (ha : SS X sa l) (hb : SS X sb m) : S X (.If c sa sb pos) (sIfZ t l m) := by
  refine ⟨fun Wx tkx => ps_imp (ps_if hc.pt (ha.ps Wx tkx) (hb.ps Wx tkx)) fun D σ H ⟨fr, O, ρ, A, q⟩ => ?_, fun ρ => mono_bnd (hc.mo ρ) fun _ => ite_mono (ha.mo _) (hb.mo _)⟩
  refine ⟨fr, O, ρ, A, hc.mo ρ _ _ (fun d k H1 A1 => ?_) q⟩
  obtain ⟨c, ρ1⟩ := d
  cases c with
  | true => exact iteT ⟨fr, O, ρ1, A1, k⟩
  | false => exact iteF ⟨fr, O, ρ1, A1, k⟩
end
end Lq
namespace Lq
open PySem L2
/-! ### defs that change what they are given -/
inductive GhsAt (U : Addr → Prop) (H : Hp) : List Addr → List Gh → Prop
  | nil : GhsAt U H [] []
  | cons {p : Addr} {g : Gh} {ps : List Addr} {gs : List Gh} : GhAt U H p g → GhsAt U H ps gs → GhsAt U H (p :: ps) (g :: gs)
theorem ghs_len {U : Addr → Prop} {H : Hp} : ∀ {ps : List Addr} {gs : List Gh}, GhsAt U H ps gs → ps.length = gs.length
  | _, _, .nil => rfl
  | _, _, .cons _ r => congrArg (· + 1) (ghs_len r)
theorem ghs_get {U : Addr → Prop} {H : Hp} : ∀ {ps : List Addr} {gs : List Gh} {k : Nat} {p : Addr} {g : Gh}, GhsAt U H ps gs → ps[k]? = some p → gs[k]? = some g → GhAt U H p g
  | _, _, _, _, _, .nil, h, _ => by simp at h
  | _, _, 0, _, _, .cons a _, h, h' => by simp at h h'; subst h; subst h'; exact a
  | _, _, k + 1, _, _, .cons _ r, h, h' => ghs_get (k := k) r (by simpa using h) (by simpa using h')
theorem ghs_of {U : Addr → Prop} {H : Hp} : ∀ {ps : List Addr} {gs : List Gh}, ps.length = gs.length → (∀ (k : Nat) (p : Addr) (g : Gh), ps[k]? = some p → gs[k]? = some g → GhAt U H p g) → GhsAt U H ps gs
  | [], [], _, _ => .nil
  | [], _ :: _, h, _ => by cases h
  | _ :: _, [], h, _ => by cases h
  | p :: ps, g :: gs, h, k => .cons (k 0 p g rfl rfl) (ghs_of (Nat.succ.inj h) fun i q r a b => k (i + 1) q r (by simpa using a) (by simpa using b))
/-- data in, things that are changed; data out and what they are then -/
def spZ (n m : Nat) (f : List PyData → List Gh → Wp (PyData × List Gh)) : Sp := fun vs H Q _ => ∃ (ds : List PyData) (U : Addr → Prop) (us : List V) (ps : List Addr) (gs : List Gh), vs = us ++ ps.map V.ref ∧ ds.length = n ∧ ps.length = m ∧ (∀ b, U b → H b ≠ none) ∧ Dats U H us ds ∧ GhsAt U H ps gs ∧ ps.Nodup ∧ (∀ p ∈ ps, U p) ∧
  up (f ds gs) fun r => ∀ v H', (∀ b o, b ∉ ps → H b = some o → H' b = some o) → (∀ b, H b ≠ none → H' b ≠ none) → GhsAt U H' ps r.2 → Dat U H' v r.1 → Q v H'
def ptrsFrom : Nat → List Gh → List Sl
  | _, [] => []
  | j, _ :: gs => .ptr j :: ptrsFrom (j + 1) gs
def pinsFrom : Nat → List Addr → List (Nat × Addr)
  | _, [] => []
  | j, p :: ps => (j, p) :: pinsFrom (j + 1) ps
def startZ (N : Nat) (ds : List PyData) (gs : List Gh) : Rho := ds.map Sl.val ++ (ptrsFrom (N - gs.length) gs ++ (List.replicate (N - (ds.length + gs.length + gs.length)) Sl.un ++ gs.map (Sl.gh true)))
def endZ (J m : Nat) (Q : PyData × List Gh → Prop) : Out → Prop
  | .rs d ρ => ∃ gs, ρ.drop J = gs.map (Sl.gh true) ∧ gs.length = m ∧ Q (d, gs)
  | .nx ρ => ∃ gs, ρ.drop J = gs.map (Sl.gh true) ∧ gs.length = m ∧ Q (.none, gs)
  | _ => False
def runZ (N : Nat) (body : Rho → Wp Out) : List PyData → List Gh → Wp (PyData × List Gh) := fun ds gs Q => body (startZ N ds gs) (endZ (N - gs.length) gs.length Q)
theorem ptrs_len : ∀ (J : Nat) (gs : List Gh), (ptrsFrom J gs).length = gs.length
  | _, [] => rfl
  | J, _ :: gs => congrArg (· + 1) (ptrs_len (J + 1) gs)
theorem ptrs_get : ∀ {J : Nat} {gs : List Gh} {k : Nat} {s : Sl}, (ptrsFrom J gs)[k]? = some s → s = .ptr (J + k) ∧ k < gs.length
  | _, [], _, _, h => by simp [ptrsFrom] at h
  | J, _ :: gs, 0, s, h => by simp [ptrsFrom] at h; subst h; exact ⟨rfl, by simp⟩
  | J, _ :: gs, k + 1, s, h => by
    obtain ⟨h1, h2⟩ := ptrs_get (J := J + 1) (gs := gs) (k := k) (by simpa [ptrsFrom] using h)
    exact ⟨by rw [h1]; congr 1; omega, by simp; omega⟩
theorem pins_mem : ∀ {J : Nat} {ps : List Addr} {j : Nat} {p : Addr}, (j, p) ∈ pinsFrom J ps → ∃ k, ps[k]? = some p ∧ j = J + k
  | _, [], _, _, h => by cases h
  | J, q :: ps, j, p, h => by
    rcases List.mem_cons.mp h with e | m
    · cases e; exact ⟨0, rfl, rfl⟩
    · obtain ⟨k, a, b⟩ := pins_mem m
      exact ⟨k + 1, by simpa using a, by omega⟩
theorem mem_pins : ∀ {J : Nat} {ps : List Addr} {k : Nat} {p : Addr}, ps[k]? = some p → (J + k, p) ∈ pinsFrom J ps
  | _, [], _, _, h => by simp at h
  | J, q :: ps, 0, p, h => by simp at h; subst h; exact List.mem_cons_self
  | J, q :: ps, k + 1, p, h => by
    have := mem_pins (J := J + 1) (ps := ps) (k := k) (p := p) (by simpa using h)
    refine List.mem_cons_of_mem _ ?_
    rw [show J + (k + 1) = J + 1 + k by omega]
    exact this
theorem Slots.append {W : Addr → Prop} {pl : Pl} {H : Hp} : ∀ {O O' : List (Option Addr)} {σ σ' : St} {ρ ρ' : List Sl}, Slots W pl H O σ ρ → Slots W pl H O' σ' ρ' → Slots W pl H (O ++ O') (σ ++ σ') (ρ ++ ρ')
  | _, _, _, _, _, _, .nil, r => r
  | _, _, _, _, _, _, .cons h k, r => .cons h (k.append r)
theorem slots_vals {W : Addr → Prop} {pl : Pl} {H : Hp} : ∀ {vs : List V} {ds : List PyData}, Dats W H vs ds → Slots W pl H (List.replicate ds.length none) (vs.map some) (ds.map Sl.val)
  | _, _, .nil => .nil
  | _, _, .cons h r => .cons (.val h) (slots_vals r)
theorem slots_ptrs {W : Addr → Prop} {pl : Pl} {H : Hp} : ∀ (J : Nat) {gs : List Gh} {ps : List Addr}, ps.length = gs.length → Slots W pl H (List.replicate gs.length none) (ps.map fun p => some (V.ref p)) (ptrsFrom J gs)
  | _, [], [], _ => .nil
  | J, g :: gs, p :: ps, h => .cons (.ptr J) (slots_ptrs (J + 1) (Nat.succ.inj h))
  | _, [], _ :: _, h => by cases h
  | _, _ :: _, [], h => by cases h
theorem slots_ghs {W : Addr → Prop} {pl : Pl} {H : Hp} : ∀ {ps : List Addr} {gs : List Gh}, GhsAt W H ps gs → Slots W pl H (ps.map some) (List.replicate gs.length none) (gs.map (Sl.gh true))
  | _, _, .nil => .nil
  | _, _, .cons h r => .cons h.slot (slots_ghs r)
theorem Slots.of {W : Addr → Prop} {pl : Pl} {H : Hp} : ∀ {O : List (Option Addr)} {σ : St} {ρ : List Sl}, O.length = ρ.length → σ.length = ρ.length → (∀ (i : Nat) (s : Sl), ρ[i]? = some s → ∃ o x, O[i]? = some o ∧ σ[i]? = some x ∧ SlotAt W pl H o x s) → Slots W pl H O σ ρ
  | [], [], [], _, _, _ => .nil
  | o :: O, x :: σ, s :: ρ, h1, h2, h => by
    obtain ⟨o', x', e1, e2, e3⟩ := h 0 s rfl
    cases e1; cases e2
    exact .cons e3 (Slots.of (Nat.succ.inj h1) (Nat.succ.inj h2) fun i t e => by
      obtain ⟨o, x, a, b, c⟩ := h (i + 1) t (by simpa using e)
      exact ⟨o, x, by simpa using a, by simpa using b, c⟩)
  | [], _ :: _, [], _, h, _ => by cases h
  | _ :: _, _, [], h, _, _ => by cases h
  | [], _, _ :: _, h, _, _ => by cases h
  | _ :: _, [], _ :: _, _, h, _ => by cases h
section
variable {P : Program} {w : World} {K : PySem.W.Frag} {mg : Str → Option Value} {base : Heap}
/-- at the start of such a def -/
theorem at_startZ {N : List Str} {U : Addr → Prop} {H : Hp} {ds : List PyData} {us : List V} {ps : List Addr} {gs : List Gh} (hN : ds.length + gs.length + gs.length ≤ N.length) (hU : ∀ b, U b → H b ≠ none) (h2 : Dats U H us ds) (h3 : GhsAt U H ps gs) (nd : ps.Nodup) (hp : ∀ p ∈ ps, U p) :
    At ⟨fun b => U b ∧ b ∉ ps, fun b => b ∈ ps, none, H, pinsFrom (N.length - gs.length) ps⟩ (List.replicate ds.length none ++ (List.replicate gs.length none ++ (List.replicate (N.length - (ds.length + gs.length + gs.length)) none ++ ps.map some))) (L2.start N (us ++ ps.map V.ref)) (startZ N.length ds gs) H := by
  have lg := ghs_len h3
  have lu := h2.length
  have hw : ∀ b, (U b ∧ b ∉ ps) ∨ some b ∈ List.replicate ds.length (none : Option Addr) ++ (List.replicate gs.length none ++ (List.replicate (N.length - (ds.length + gs.length + gs.length)) none ++ ps.map some)) → U b := fun b z => by
    rcases z with z | z
    · exact z.1
    · rcases List.mem_append.mp z with z | z
      · exact absurd z noO
      · rcases List.mem_append.mp z with z | z
        · exact absurd z noO
        · rcases List.mem_append.mp z with z | z
          · exact absurd z noO
          · obtain ⟨p, m, e⟩ := List.mem_map.mp z; cases e; exact hp _ m
  have eσ : L2.start N (us ++ ps.map V.ref) = us.map some ++ ((ps.map fun p => some (V.ref p)) ++ (List.replicate (N.length - (ds.length + gs.length + gs.length)) none ++ List.replicate gs.length none)) := by
    unfold L2.start
    rw [List.map_append, List.map_map, List.append_assoc]
    congr 1
    rw [List.replicate_append_replicate]
    congr 2
    rw [List.length_append, List.length_map]
    omega
  have mo : ∀ {b}, some b ∈ List.replicate ds.length (none : Option Addr) ++ (List.replicate gs.length none ++ (List.replicate (N.length - (ds.length + gs.length + gs.length)) none ++ ps.map some)) → b ∈ ps := fun {b} z => by
    rcases List.mem_append.mp z with z | z
    · exact absurd z noO
    · rcases List.mem_append.mp z with z | z
      · exact absurd z noO
      · rcases List.mem_append.mp z with z | z
        · exact absurd z noO
        · obtain ⟨p, m, e⟩ := List.mem_map.mp z; cases e; exact m
  have hget : ∀ {j : Nat} {b : Addr}, (List.replicate ds.length (none : Option Addr) ++ (List.replicate gs.length none ++ (List.replicate (N.length - (ds.length + gs.length + gs.length)) none ++ ps.map some)))[j]? = some (some b) → N.length - gs.length ≤ j ∧ ps[j - (N.length - gs.length)]? = some b := fun {j b} e => by
    rw [List.getElem?_append] at e
    split at e
    · exact (noO2 e).elim
    · rw [List.getElem?_append] at e
      split at e
      · exact (noO2 e).elim
      · rw [List.getElem?_append] at e
        split at e
        · exact (noO2 e).elim
        · simp only [List.length_replicate] at *
          rw [List.getElem?_map] at e
          have e' : j - ds.length - gs.length - (N.length - (ds.length + gs.length + gs.length)) = j - (N.length - gs.length) := by omega
          rw [e'] at e
          refine ⟨by omega, ?_⟩
          cases z : ps[j - (N.length - gs.length)]? with
          | none => rw [z] at e; cases e
          | some c => rw [z] at e; cases e; rfl
  have hat : ∀ {k : Nat} {p : Addr}, ps[k]? = some p → (List.replicate ds.length (none : Option Addr) ++ (List.replicate gs.length none ++ (List.replicate (N.length - (ds.length + gs.length + gs.length)) none ++ ps.map some)))[N.length - gs.length + k]? = some (some p) := fun {k p} e => by
    have hk := (List.getElem?_eq_some_iff.mp e).1
    rw [List.getElem?_append_right (by simp; omega), List.getElem?_append_right (by simp; omega), List.getElem?_append_right (by simp; omega), List.getElem?_map]
    simp only [List.length_replicate]
    rw [show N.length - gs.length + k - ds.length - gs.length - (N.length - (ds.length + gs.length + gs.length)) = k by omega, e]
    rfl
  refine ⟨?_, fun _ _ _ h => h, fun a c e => (by cases e), fun p m => ?_, fun i j p h1 h2 => ?_, fun b h => hU b h.1, fun _ h => h, ⟨fun i j h1 _ => ?_, fun j p m _ => ?_⟩⟩
  · rw [eσ]
    refine (slots_vals ?_).append ((slots_ptrs _ lg).append ((slots_un _).append (slots_ghs ?_)))
    · exact h2.less fun p _ z => hw p z
    · exact ghs_of lg fun k p g a b => (ghs_get h3 a b).to (fun q n _ z => n (hw q z)) (fun _ _ => id) (fun _ _ _ => id) fun _ => id
  · have m' := mo m
    obtain ⟨k, hk⟩ := List.mem_iff_getElem?.mp m'
    obtain ⟨g, hg⟩ : ∃ g, gs[k]? = some g := ⟨_, List.getElem?_eq_getElem (by have := (List.getElem?_eq_some_iff.mp hk).1; omega)⟩
    exact ⟨⟨fun u => u.2 m', .inl m'⟩, fun a c e => (by cases e), (ghs_get h3 hk hg).obj⟩
  · obtain ⟨a1, a2⟩ := hget h1
    obtain ⟨b1, b2⟩ := hget h2
    have l1 := (List.getElem?_eq_some_iff.mp a2).1
    have := (List.getElem?_inj l1 nd).mp (a2.trans b2.symm)
    omega
  · unfold startZ at h1
    rw [List.getElem?_append] at h1
    split at h1
    · rw [List.getElem?_map] at h1
      cases z : ds[i]? with
      | none => rw [z] at h1; cases h1
      | some d => rw [z] at h1; cases h1
    · rename_i hi
      rw [List.length_map] at hi h1
      rw [List.getElem?_append] at h1
      split at h1
      · obtain ⟨e, hk⟩ := ptrs_get h1
        cases e
        obtain ⟨p, ep⟩ : ∃ p, ps[i - ds.length]? = some p := ⟨_, List.getElem?_eq_getElem (by omega)⟩
        refine ⟨p, hat ep, ?_⟩
        rw [eσ, List.getElem?_append_right (by rw [List.length_map]; omega), List.length_map, lu, List.getElem?_append_left (by rw [List.length_map]; omega), List.getElem?_map, ep]
        rfl
      · rw [ptrs_len, List.getElem?_append] at h1
        split at h1
        · have := List.eq_of_mem_replicate (List.mem_of_getElem? h1); cases this
        · rw [List.getElem?_map] at h1
          cases z : gs[i - ds.length - gs.length - (List.replicate (N.length - (ds.length + gs.length + gs.length)) Sl.un).length]? with
          | none => rw [z] at h1; cases h1
          | some d => rw [z] at h1; cases h1
  · obtain ⟨k, e1, rfl⟩ := pins_mem m
    exact hat e1
theorem ghs_end {fr : Fr} {O : List (Option Addr)} {σ : St} {ρ : Rho} {H : Hp} {J : Nat} {ps : List Addr} {gs : List Gh} (A : At fr O σ ρ H) (hg : fr.gh = pinsFrom J ps) (e : ρ.drop J = gs.map (Sl.gh true)) (hl : gs.length = ps.length) : GhsAt (Wd fr O) H ps gs ∧ ∀ p ∈ ps, some p ∈ O := by
  have key : ∀ (k : Nat) (p : Addr) (g : Gh), ps[k]? = some p → gs[k]? = some g → O[J + k]? = some (some p) ∧ GhAt (Wd fr O) H p g := fun k p g h1 h2 => by
    have h3 : ρ[J + k]? = some (.gh true g) := by
      rw [← List.getElem?_drop, e, List.getElem?_map, h2]; rfl
    have h4 := A.gh.pin (J + k) p (by rw [hg]; exact mem_pins h1) (by rw [h3]; rfl)
    obtain ⟨o, x, a1, a2, a3⟩ := A.sl.get h3
    obtain ⟨q, rfl, _, a4⟩ := gh_slot a3
    rw [h4] at a1
    cases a1
    exact ⟨h4, a4⟩
  refine ⟨ghs_of hl.symm fun k p g h1 h2 => (key k p g h1 h2).2, fun p m => ?_⟩
  obtain ⟨k, hk⟩ := List.mem_iff_getElem?.mp m
  obtain ⟨g, hg⟩ : ∃ g, gs[k]? = some g := ⟨_, List.getElem?_eq_getElem (by have := (List.getElem?_eq_some_iff.mp hk).1; omega)⟩
  exact List.mem_of_getElem? (key k p g hk hg).1
theorem GhsAt.less {U U' : Addr → Prop} {H : Hp} (hU : ∀ p, H p ≠ none → U' p → U p) : ∀ {ps : List Addr} {gs : List Gh}, GhsAt U H ps gs → GhsAt U' H ps gs
  | _, _, .nil => .nil
  | _, _, .cons h r => .cons (h.to (fun p n z y => n (hU p z y)) (fun _ _ => id) (fun _ _ _ => id) fun _ => id) (r.less hU)
theorem fn_z {x qual : Str} {st : Stmt} {f : Addr} {fd : FuncData} {N ps : List Str} {k n m : Nat} {body : Rho → Wp Out} (F : Fun K x qual st f fd) (Sc : FnScope N ps (defScope st)) (hn : ps.length = n + m) (hN : n + m + m ≤ N.length)
    (hb : ∀ (cdv : Value) (A : Around) (outer : List Env) (s : Shared) (H : Hp) (E : XK), Room k (A.deeper (PyProof.Rows.envOfC qual (defScope st) s.heap.objs.size f cdv)) → SS (cxOf CX0 P w K mg base N qual (defScope st) f cdv A outer s H E).nox (defBody st) body) :
    FnOk P w K mg base CX0 (k + 1) f fd ps (spZ n m (runZ N.length body)) := by
  refine F.ok Sc (fun vs H Q E h => ?_) (fun cdv A outer s H vs Q E hr h => ⟨_, (hb cdv A outer s H E hr).ps _ takes0, ?_⟩)
  · obtain ⟨ds, U, us, qs, gs, rfl, h1, h2, _, h3, h4, _⟩ := h
    rw [List.length_append, List.length_map, h3.length, h1, h2, hn]
  obtain ⟨ds, U, us, qs, gs, rfl, h1, h2, hU, h3, h4, nd, hp, R, hm, hi⟩ := h
  have lg := ghs_len h4
  refine ⟨_, _, _, at_startZ (by omega) hU h3 h4 nd hp, (hb cdv A outer s H E hr).mo _ _ _ (fun o k => ?_) hm⟩
  have fin : ∀ {d : PyData} {ρ : Rho} {σ' O' H'} {v : V} {gs' : List Gh}, At ⟨fun b => U b ∧ b ∉ qs, fun b => b ∈ qs, none, H, pinsFrom (N.length - gs.length) qs⟩ O' σ' ρ H' → Dat (Wd ⟨fun b => U b ∧ b ∉ qs, fun b => b ∈ qs, none, H, pinsFrom (N.length - gs.length) qs⟩ O') H' v d → ρ.drop (N.length - gs.length) = gs'.map (Sl.gh true) → gs'.length = gs.length → R (d, gs') → Q v H' := by
    intro d ρ σ' O' H' v gs' A g e l r
    obtain ⟨b1, b2⟩ := ghs_end A rfl e (l.trans lg.symm)
    have w : ∀ p, H' p ≠ none → U p → Wd ⟨fun b => U b ∧ b ∉ qs, fun b => b ∈ qs, none, H, pinsFrom (N.length - gs.length) qs⟩ O' p := fun p _ u => by
      by_cases z : p ∈ qs
      · exact .inr (b2 p z)
      · exact .inl ⟨u, z⟩
    exact hi _ r v H' A.keep A.st (b1.less w) (g.less w)
  match o, k with
  | .rs d ρ, ⟨gs', e, l, r⟩ => exact fun v σ' O' H' A g => fin A g e l r
  | .nx ρ, ⟨gs', e, l, r⟩ => exact fun σ' O' H' A => fin A .non e l r
end
end Lq
namespace Lq
open PySem L2
/-! ### calls of defs that change what they are given -/
inductive PtrsAt (O : List (Option Addr)) (ρ : Rho) : List Nat → List Addr → Prop
  | nil : PtrsAt O ρ [] []
  | cons {j : Nat} {p : Addr} {js : List Nat} {ps : List Addr} : O[j]? = some (some p) → kiG ρ[j]? = true → PtrsAt O ρ js ps → PtrsAt O ρ (j :: js) (p :: ps)
theorem ptrs_at_len {O : List (Option Addr)} {ρ : Rho} : ∀ {js : List Nat} {ps : List Addr}, PtrsAt O ρ js ps → ps.length = js.length
  | _, _, .nil => rfl
  | _, _, .cons _ _ r => congrArg (· + 1) (ptrs_at_len r)
theorem ptrs_at_get {O : List (Option Addr)} {ρ : Rho} : ∀ {js : List Nat} {ps : List Addr} {k : Nat} {p : Addr}, PtrsAt O ρ js ps → ps[k]? = some p → ∃ j, js[k]? = some j ∧ O[j]? = some (some p)
  | _, _, _, _, .nil, h => by simp at h
  | _, _, 0, _, .cons a _ _, h => by simp at h; subst h; exact ⟨_, rfl, a⟩
  | _, _, k + 1, _, .cons _ _ r, h => by
    obtain ⟨j, a, b⟩ := ptrs_at_get (k := k) r (by simpa using h)
    exact ⟨j, by simpa using a, b⟩
theorem ptrs_at_nd {O : List (Option Addr)} {ρ : Rho} (nd : ∀ (i j : Nat) (p : Addr), O[i]? = some (some p) → O[j]? = some (some p) → i = j) : ∀ {js : List Nat} {ps : List Addr}, PtrsAt O ρ js ps → js.Nodup → ps.Nodup
  | _, _, .nil, _ => List.nodup_nil
  | _, _, .cons a _ r, h => by
    obtain ⟨h1, h2⟩ := List.nodup_cons.mp h
    refine List.nodup_cons.mpr ⟨fun m => h1 ?_, ptrs_at_nd nd r h2⟩
    obtain ⟨k, hk⟩ := List.mem_iff_getElem?.mp m
    obtain ⟨j', b1, b2⟩ := ptrs_at_get r hk
    rw [nd _ _ _ a b2]
    exact List.mem_of_getElem? b1
def slGh : Option Sl → Wp Gh
  | some (.gh _ g) => ret g
  | _ => bad
theorem mono_slGh (o : Option Sl) : Mono (slGh o) := by
  unfold slGh
  split <;> first | exact mono_ret _ | exact mono_bad
theorem slGh_ok {o : Option Sl} {P : Gh → Prop} (q : slGh o P) : ∃ c g, o = some (.gh c g) ∧ P g := by
  unfold slGh at q
  split at q
  · exact ⟨_, _, rfl, q⟩
  · exact q.elim
def getG (ρ : Rho) : List Nat → Wp (List Gh)
  | [] => ret []
  | j :: js => bnd (slGh ρ[j]?) fun g => bnd (getG ρ js) fun gs => ret (g :: gs)
theorem mono_getG (ρ : Rho) : ∀ js, Mono (getG ρ js)
  | [] => mono_ret _
  | _ :: js => mono_bnd (mono_slGh _) fun _ => mono_bnd (mono_getG ρ js) fun _ => mono_ret _
def regh (g : Gh) : Option Sl → Wp Sl
  | some (.gh b _) => ret (.gh b g)
  | _ => bad
theorem mono_regh (g : Gh) (o : Option Sl) : Mono (regh g o) := by
  unfold regh
  split <;> first | exact mono_ret _ | exact mono_bad
theorem regh_ok {g : Gh} {o : Option Sl} {P : Sl → Prop} (q : regh g o P) : ∃ c g0, o = some (.gh c g0) ∧ P (.gh c g) := by
  unfold regh at q
  split at q
  · exact ⟨_, _, rfl, q⟩
  · exact q.elim
def putG : Rho → List Nat → List Gh → Wp Rho
  | ρ, [], [] => ret ρ
  | ρ, j :: js, g :: gs => bnd (regh g ρ[j]?) fun s => putG (ρ.set j s) js gs
  | _, _, _ => bad
theorem mono_putG : ∀ (js : List Nat) (ρ : Rho) (gs : List Gh), Mono (putG ρ js gs)
  | [], _, [] => mono_ret _
  | [], _, _ :: _ => mono_bad
  | _ :: _, _, [] => mono_bad
  | _ :: js, ρ, _ :: gs => mono_bnd (mono_regh _ _) fun _ => mono_putG js _ gs
theorem getG_ok {ρ : Rho} : ∀ {js : List Nat} {P : List Gh → Prop}, getG ρ js P → ∃ gs, (∀ (k j : Nat), js[k]? = some j → ∃ c g, ρ[j]? = some (.gh c g) ∧ gs[k]? = some g) ∧ gs.length = js.length ∧ P gs
  | [], P, q => ⟨[], fun k j h => by simp at h, rfl, q⟩
  | j :: js, P, q => by
    have q : slGh ρ[j]? (fun g => getG ρ js fun gs => P (g :: gs)) := q
    obtain ⟨c, g, e, q⟩ := slGh_ok q
    obtain ⟨gs, h1, h2, h3⟩ := getG_ok q
    refine ⟨g :: gs, fun k i h => ?_, congrArg (· + 1) h2, h3⟩
    cases k with
    | zero => simp at h; subst h; exact ⟨c, g, e, rfl⟩
    | succ k =>
      obtain ⟨c', g', a, b⟩ := h1 k i (by simpa using h)
      exact ⟨c', g', a, by simpa using b⟩
theorem putG_ok : ∀ {js : List Nat} {ρ : Rho} {gs : List Gh} {P : Rho → Prop}, putG ρ js gs P → js.Nodup → ∃ ρ', P ρ' ∧ ρ'.length = ρ.length ∧ (∀ i, i ∉ js → ρ'[i]? = ρ[i]?) ∧ gs.length = js.length ∧
    ∀ (k j : Nat), js[k]? = some j → ∃ c g0 g, ρ[j]? = some (.gh c g0) ∧ gs[k]? = some g ∧ ρ'[j]? = some (.gh c g)
  | [], ρ, [], P, q, _ => ⟨ρ, q, rfl, fun _ _ => rfl, rfl, fun k j h => by simp at h⟩
  | [], _, _ :: _, _, q, _ => (show False from q).elim
  | _ :: _, _, [], _, q, _ => (show False from q).elim
  | j :: js, ρ, g :: gs, P, q, nd => by
    obtain ⟨n1, n2⟩ := List.nodup_cons.mp nd
    have q : regh g ρ[j]? (fun s => putG (ρ.set j s) js gs P) := q
    obtain ⟨c, g0, e, q⟩ := regh_ok q
    have hl : j < ρ.length := (List.getElem?_eq_some_iff.mp e).1
    obtain ⟨ρ', h1, h2, h3, h4, h5⟩ := putG_ok q n2
    refine ⟨ρ', h1, by rw [h2, List.length_set], fun i hi => ?_, congrArg (· + 1) h4, fun k i h => ?_⟩
    · rw [h3 i fun m => hi (List.mem_cons_of_mem _ m), List.getElem?_set_ne fun z => hi (by rw [z]; exact List.mem_cons_self)]
    · cases k with
      | zero =>
        simp at h
        subst h
        exact ⟨c, g0, g, e, rfl, by rw [h3 _ n1, List.getElem?_set_self hl]⟩
      | succ k =>
        have h' : js[k]? = some i := by simpa using h
        obtain ⟨c', g', g'', a1, a2, a3⟩ := h5 k i h'
        have ne : j ≠ i := fun z => n1 (by rw [z]; exact List.mem_of_getElem? h')
        rw [List.getElem?_set_ne ne] at a1
        exact ⟨c', g', g'', a1, by simpa using a2, a3⟩
section
variable {fr : Fr} {O : List (Option Addr)} {σ : St} {ρ : Rho} {H H' : Hp}
theorem At.ghs (A : At fr O σ ρ H) {js : List Nat} {ps : List Addr} {gs : List Gh} (pt : PtrsAt O ρ js ps) (hl : gs.length = js.length) (h : ∀ (k j : Nat), js[k]? = some j → ∃ c g, ρ[j]? = some (.gh c g) ∧ gs[k]? = some g) : GhsAt (Wd fr O) H ps gs := by
  refine ghs_of ((ptrs_at_len pt).trans hl.symm) fun k p g h1 h2 => ?_
  obtain ⟨j, a1, a2⟩ := ptrs_at_get pt h1
  obtain ⟨c, g', b1, b2⟩ := h k j a1
  rw [h2] at b2
  cases b2
  obtain ⟨o, x, c1, c2, c3⟩ := A.sl.get b1
  obtain ⟨q, rfl, _, c4⟩ := gh_slot c3
  rw [a2] at c1
  cases c1
  exact c4
theorem At.exsOf (A : At fr O σ ρ H) {ps : List Addr} (hp : ∀ p ∈ ps, some p ∈ O) (keep : ∀ b o, b ∉ ps → H b = some o → H' b = some o) (there : ∀ b, H b ≠ none → H' b ≠ none) : Exs fr O H H' :=
  ⟨fun b o n h => keep b o (fun m => n (.inl (hp b m))) h, there⟩
/-- the things of some slots were changed by another -/
theorem At.called (A : At fr O σ ρ H) {js : List Nat} {ps : List Addr} {gs : List Gh} {P : Rho → Prop} (pt : PtrsAt O ρ js ps) (nd : js.Nodup) (keep : ∀ b o, b ∉ ps → H b = some o → H' b = some o) (there : ∀ b, H b ≠ none → H' b ≠ none) (G : GhsAt (Wd fr O) H' ps gs) (q : putG ρ js gs P) :
    ∃ ρ', At fr O σ ρ' H' ∧ P ρ' := by
  obtain ⟨ρ', h1, h2, h3, h4, h5⟩ := putG_ok q nd
  have hp : ∀ p ∈ ps, some p ∈ O := fun p m => by
    obtain ⟨k, hk⟩ := List.mem_iff_getElem?.mp m
    obtain ⟨j, _, b⟩ := ptrs_at_get pt hk
    exact List.mem_of_getElem? b
  have pin : ∀ (j : Nat) (p : Addr), O[j]? = some (some p) → p ∈ ps → j ∈ js := fun j p e m => by
    obtain ⟨k, hk⟩ := List.mem_iff_getElem?.mp m
    obtain ⟨j', a, b⟩ := ptrs_at_get pt hk
    rw [A.nd j j' p e b]
    exact List.mem_of_getElem? a
  have tup : ∀ b (vs : List V), H b = some (.tup vs) → b ∉ ps := fun b vs e m => by
    obtain ⟨_, _, o, c1, c2⟩ := A.own b (hp b m)
    exact c2 vs (Option.some.inj (c1.symm.trans e))
  have ht : ∀ q vs, H q = some (.tup vs) → H' q = some (.tup vs) := fun q vs e => keep q _ (tup q vs e) e
  have hl : ∀ q o, ¬ Wd fr O q → H q = some o → H' q = some o := fun q o n e => keep q o (fun m => n (.inr (hp q m))) e
  have kind : ∀ j, kiG ρ'[j]? = kiG ρ[j]? ∧ kiP ρ'[j]? = kiP ρ[j]? := fun j => by
    by_cases m : j ∈ js
    · obtain ⟨k, hk⟩ := List.mem_iff_getElem?.mp m
      obtain ⟨c, g0, g, a1, _, a3⟩ := h5 k j hk
      rw [a1, a3]
      cases c <;> exact ⟨rfl, rfl⟩
    · rw [h3 j m]; exact ⟨rfl, rfl⟩
  refine ⟨ρ', ⟨?_, fun b o n e => ?_, fun a c z => ?_, fun p m => ?_, A.nd, A.up, fun b h => there b (A.st b h), ⟨fun i j e1 e2 => ?_, fun j p m e => A.gh.pin j p m (by rw [← (kind j).2]; exact e)⟩⟩, h1⟩
  · refine Slots.of (by rw [h2]; exact A.sl.len.1) (by rw [h2]; exact A.sl.len.2) fun i s e => ?_
    by_cases m : i ∈ js
    · obtain ⟨k, hk⟩ := List.mem_iff_getElem?.mp m
      obtain ⟨c, g0, g, a1, a2, a3⟩ := h5 k i hk
      rw [e] at a3
      cases a3
      obtain ⟨o, x, c1, c2, c3⟩ := A.sl.get a1
      obtain ⟨p, rfl, rfl, _⟩ := gh_slot c3
      refine ⟨_, _, c1, c2, ?_⟩
      obtain ⟨p', hp'⟩ : ∃ p', ps[k]? = some p' := ⟨_, List.getElem?_eq_getElem (by have := (List.getElem?_eq_some_iff.mp hk).1; rw [ptrs_at_len pt]; exact this)⟩
      obtain ⟨j', b1, b2⟩ := ptrs_at_get pt hp'
      rw [hk] at b1
      cases b1
      rw [c1] at b2
      cases b2
      exact (ghs_get G hp' a2).slot
    · rw [h3 i m] at e
      obtain ⟨o, x, c1, c2, c3⟩ := A.sl.get e
      refine ⟨o, x, c1, c2, ?_⟩
      have no : ∀ p, o = some p → ∀ u, H p = some u → H' p = some u := fun p z u e' => keep p u (fun mm => m (pin i p (by rw [c1, z]) mm)) e'
      cases c3 with
      | un => exact .un _
      | val h => exact .val (h.to (fun _ n _ => n) ht hl)
      | lst h k => exact .lst (no _ rfl _ h) (k.to (fun _ n _ => n) ht hl)
      | dic h k => exact .dic (no _ rfl _ h) (k.to (fun _ n _ => n) ht hl)
      | dit h k => exact .dit (no _ rfl _ h) (k.to (fun _ n _ => n) ht hl)
      | pool h => exact .pool h
      | gl h k => exact .gl (no _ rfl _ h) (k.to (fun _ n _ => n) ht hl)
      | gd h k => exact .gd (no _ rfl _ h) (k.to (fun _ n _ => n) ht hl)
      | gt h k => exact .gt (no _ rfl _ h) (k.to (fun _ n _ => n) ht hl)
      | ptr j => exact .ptr j
  · refine keep b o (fun m => ?_) (A.keep b o n e)
    rcases (A.own b (hp b m)).1.2 with z | z
    · exact n z
    · rw [z] at e; cases e
  · obtain ⟨h, r⟩ := A.pool a c z
    obtain ⟨ns, i, v, k, s, e1, e2, e3, e4⟩ := h
    have np : ∀ p ∈ ps, p ≠ a ∧ p ≠ c := fun p m => (A.own p (hp p m)).2.1 a c z
    exact ⟨⟨ns, i, v, k, s, keep _ _ (fun m => (np _ m).1 rfl) e1, keep _ _ (fun m => (np _ m).2 rfl) e2, e3, e4⟩, r⟩
  · obtain ⟨a1, a2, o, a3, a4⟩ := A.own p m
    refine ⟨a1, a2, ?_⟩
    by_cases mm : p ∈ ps
    · obtain ⟨k, hk⟩ := List.mem_iff_getElem?.mp mm
      obtain ⟨g, hg⟩ : ∃ g, gs[k]? = some g := ⟨_, List.getElem?_eq_getElem (by have := (List.getElem?_eq_some_iff.mp hk).1; rw [← ghs_len G]; exact this)⟩
      exact (ghs_get G hk hg).obj
    · exact ⟨o, keep p o mm a3, a4⟩
  · by_cases m : i ∈ js
    · obtain ⟨k, hk⟩ := List.mem_iff_getElem?.mp m
      obtain ⟨c, g0, g, _, _, a3⟩ := h5 k i hk
      rw [a3] at e1
      cases e1
    · rw [h3 i m] at e1
      exact A.gh.ptr i j e1 (by rw [← (kind j).1]; exact e2)
end
/-! arguments: data, then names of things -/
def cPtr : List (Nat × Nat) → Rho → Wp Unit
  | [], _ => ret ()
  | (i, j) :: r, ρ => bnd (slG j ρ[i]? ρ[j]?) fun _ => cPtr r ρ
theorem mono_cPtr : ∀ ij ρ, Mono (cPtr ij ρ)
  | [], _ => mono_ret _
  | _ :: r, ρ => mono_bnd (mono_slG _ _ _) fun _ => mono_cPtr r ρ
structure AP (X : Cx) (es : List Expr) (ij : List (Nat × Nat)) : Prop where
  pa : PA X es (fun σ H Q => ∃ fr O ρ, At fr O σ ρ H ∧ cPtr ij ρ fun _ => ∀ ps, PtrsAt O ρ (ij.map (·.2)) ps → Q (ps.map V.ref) H)
  len : es.length = ij.length
def tagOf (js : List Nat) (k : Rho → Wp (List PyData × Rho)) : TA := fun σ H Q => ∃ fr O ρ, At fr O σ ρ H ∧ k ρ fun r => ∀ us ps H', Exs fr O H H' → At fr O σ r.2 H' → Dats (Wd fr O) H' us r.1 → PtrsAt O r.2 js ps → Q (us ++ ps.map V.ref) H'
structure AG (X : Cx) (js : List Nat) (es : List Expr) (k : Rho → Wp (List PyData × Rho)) : Prop where
  pa : PA X es (tagOf js k)
  mo : ∀ ρ, Mono (k ρ)
  len : ∀ ρ P, k ρ P → k ρ fun r => r.1.length + js.length = es.length ∧ P r
def zPtrs (ij : List (Nat × Nat)) : Rho → Wp (List PyData × Rho) := fun ρ => bnd (cPtr ij ρ) fun _ => ret ([], ρ)
def zFn (m : List PyData → List Gh → Wp (PyData × List Gh)) (js : List Nat) (k : Rho → Wp (List PyData × Rho)) : Rho → Wp (PyData × Rho) := fun ρ => bnd (k ρ) fun r => bnd (getG r.2 js) fun gs => bnd (up (m r.1 gs)) fun a => bnd (putG r.2 js a.2) fun ρ' => ret (a.1, ρ')
section
variable {X : Cx} {e : Expr} {es : List Expr} {f : Rho → Wp (PyData × Rho)} {ka : Rho → Wp (List PyData × Rho)} {pos p : Pos} {x : Str}
theorem ap_nil : AP X [] [] := ⟨pa_imp pa_nil fun σ H Q ⟨fr, O, ρ, A, q⟩ => q [] .nil, rfl⟩
theorem ap_cons (i j : Nat) {ij : List (Nat × Nat)} (r : AP X es ij) (hN : X.N[i]? = some x := by rfl) (hv : Vis X.env.scope x := by first | exact Or.inl rfl | exact Or.inr (Or.inl rfl) | exact Or.inr (Or.inr rfl)) (hd : (x == ("__debug__" : Str)) = false := by decide)
    (hcd : (x == ("__classdict__" : Str)) = false := by decide) (hs : starEach (.Name x pos :: es) X.env = (false, eval (.Name x pos) X.env) :: starEach es X.env := by rfl) : AP X (.Name x pos :: es) ((i, j) :: ij) := by
  refine ⟨pa_imp (pa_cons (pe_var hN hv hd hcd) r.pa hs) fun σ H Q ⟨fr, O, ρ, A, q⟩ => ?_, congrArg (· + 1) r.len⟩
  obtain ⟨c, g, h1, h2, q⟩ := slG_ok q
  obtain ⟨a, a1, a2, _, a4⟩ := A.ghost h1 h2
  exact ⟨_, a2, fr, O, ρ, A, mono_cPtr _ _ _ _ (fun _ k ps pt => k (a :: ps) (.cons a1 (by rw [h2]; rfl) pt)) q⟩
theorem ag_of {ij : List (Nat × Nat)} {js : List Nat} (h : AP X es ij) (hj : ij.map (·.2) = js := by rfl) : AG X js es (zPtrs ij) := by
  subst hj
  refine ⟨pa_imp h.pa fun σ H Q ⟨fr, O, ρ, A, q⟩ => ⟨fr, O, ρ, A, mono_cPtr _ _ _ _ (fun _ k ps pt => k [] ps H .refl A .nil pt) q⟩, fun ρ => mono_bnd (mono_cPtr _ _) fun _ => mono_ret _, fun ρ P q => mono_cPtr _ _ _ _ (fun _ k => ⟨?_, k⟩) q⟩
  show 0 + _ = _
  rw [List.length_map, h.len, Nat.zero_add]
theorem ag_cons {js : List Nat} (h : EZ X e f) (r : AG X js es ka) (hs : starEach (e :: es) X.env = (false, eval e X.env) :: starEach es X.env := by rfl) : AG X js (e :: es) (zCons f ka) := by
  refine ⟨pa_imp (pa_cons h.pe r.pa hs) fun σ H Q ⟨fr, O, ρ, A, q⟩ => ?_, fun ρ => mono_bnd (h.mo ρ) fun _ => mono_bnd (r.mo _) fun _ => mono_ret _, fun ρ P q => h.mo ρ _ _ (fun d k1 => r.mo _ _ _ (fun ds k2 => ⟨?_, k2.2⟩) (r.len _ _ k1)) q⟩
  · refine ⟨fr, O, ρ, A, h.mo ρ _ _ (fun d k1 v H1 e1 A1 g1 => ?_) q⟩
    exact ⟨fr, O, d.2, A1, r.mo _ _ _ (fun ds k2 us ps H2 e2 A2 g2 pt => k2 (v :: us) ps H2 (e1.trans e2) A2 (.cons (Dat.exs A1 e2 g1) g2) pt) k1⟩
  · have := k2.1
    show ds.1.length + 1 + js.length = es.length + 1
    omega
theorem ez_call {n m j : Nat} {js : List Nat} {ps : List Str} {mm : List PyData → List Gh → Wp (PyData × List Gh)} (C : Cf.At X.prog X.w X.K X.mg X.base x j ps (spZ n m mm)) (hr : Room j X.A) (ha : AG X js (e :: es) ka) (hn : es.length + 1 = n + m := by rfl) (hm : js.length = m := by rfl) (hnd : js.Nodup := by decide) (hg : Gl X x := by rfl) (hdb : (x == ("__debug__" : Str)) = false := by decide)
    (he : starEach (e :: es) X.env = (false, eval e X.env) :: starEach es X.env := by rfl) (hpl : (backTo pos (starEach es X.env)).any (·.1) = false := by rfl) : EZ X (.Call (.Name x p) (e :: es) [] pos) (zFn mm js ka) := by
  obtain ⟨fa, fd, F, hb, hk, hmg⟩ := C.ex
  refine ⟨pe_imp (pe_call (dvs := []) (E := E0) F hr hg hmg hk hb .nil pass0 ha.pa hdb he hpl) fun σ H Q ⟨fr, O, ρ, A, q⟩ => ?_, fun ρ => mono_bnd (ha.mo ρ) fun _ => mono_bnd (mono_getG _ _) fun _ => mono_bnd (mono_up _) fun _ => mono_bnd (mono_putG _ _ _) fun _ => mono_ret _⟩
  refine ⟨fr, O, ρ, A, ha.mo ρ _ _ (fun r k1 us ps H1 e1 A1 g1 pt => ?_) (ha.len ρ _ q)⟩
  obtain ⟨k0, k1⟩ := k1
  obtain ⟨gs, b1, b2, k2⟩ := getG_ok k1
  have hp : ∀ p ∈ ps, some p ∈ O := fun p m => by
    obtain ⟨k, hk⟩ := List.mem_iff_getElem?.mp m
    obtain ⟨j, _, b⟩ := ptrs_at_get pt hk
    exact List.mem_of_getElem? b
  refine ⟨r.1, Wd fr O, us, ps, gs, by rw [List.append_nil], ?_, (ptrs_at_len pt).trans hm, fun b w => A1.wd w, g1, A1.ghs pt b2 b1, ptrs_at_nd A1.nd pt hnd, fun p m => .inr (hp p m), mono_up _ _ _ (fun a k3 v H3 keep there G g3 => ?_) k2⟩
  · have : (e :: es).length = es.length + 1 := rfl
    omega
  · obtain ⟨ρ', A3, k4⟩ := A1.called pt hnd keep there G k3
    exact k4 v H3 (e1.trans (A1.exsOf hp keep there)) A3 g3
end
/-! a call that is given a new thing -/
def hoG : Gh → HO
  | .lst _ => .lst []
  | .dic _ => .dK []
  | .dit _ => .dT []
def tanOf (g : Gh) (k : Rho → Wp (List PyData)) : TA := fun σ H Q => ∃ fr O ρ, At fr O σ ρ H ∧ k ρ fun ds => ∀ us p H', Ex fr.pl H H' → Gds true fr O H' us ds → H' p = none → Q (us ++ [V.ref p]) (upd H' p (hoG g))
structure AN (X : Cx) (g : Gh) (es : List Expr) (k : Rho → Wp (List PyData)) : Prop where
  pa : PA X es (tanOf g k)
  mo : ∀ ρ, Mono (k ρ)
  len : ∀ ρ P, k ρ P → k ρ fun ds => ds.length + 1 = es.length ∧ P ds
/-- nothing in it -/
def emptyG : Gh → Bool
  | .lst [] => true
  | .dic [] => true
  | .dit [] => true
  | _ => false
def eFnN (m : List PyData → List Gh → Wp (PyData × List Gh)) (g : Gh) (k : Rho → Wp (List PyData)) : Rho → Wp PyData := fun ρ => bnd (k ρ) fun ds => bnd (up (m ds [g])) fun a => ret a.1
section
variable {X : Cx} {e : Expr} {es : List Expr} {f : Rho → Wp PyData} {ka : Rho → Wp (List PyData)} {pos p : Pos} {x : Str} {g : Gh}
theorem an_dic (hs : starEach [.Dict [] [] pos] X.env = (false, eval (.Dict [] [] pos) X.env) :: starEach [] X.env := by rfl) : AN X (.dic []) [.Dict [] [] pos] aNil :=
  ⟨pa_imp (pa_cons pe_dnewK pa_nil hs) fun σ H Q ⟨fr, O, ρ, A, q⟩ => fun p hp => q [] p H A.refl .nil hp, fun _ => mono_ret _, fun _ _ h => ⟨rfl, h⟩⟩
theorem an_dit (hs : starEach [.Dict [] [] pos] X.env = (false, eval (.Dict [] [] pos) X.env) :: starEach [] X.env := by rfl) : AN X (.dit []) [.Dict [] [] pos] aNil :=
  ⟨pa_imp (pa_cons pe_dnewT pa_nil hs) fun σ H Q ⟨fr, O, ρ, A, q⟩ => fun p hp => q [] p H A.refl .nil hp, fun _ => mono_ret _, fun _ _ h => ⟨rfl, h⟩⟩
theorem an_lst (hs : starEach [.List [] pos] X.env = (false, eval (.List [] pos) X.env) :: starEach [] X.env := by rfl) : AN X (.lst []) [.List [] pos] aNil :=
  ⟨pa_imp (pa_cons (pe_lst pa_nil) pa_nil hs) fun σ H Q ⟨fr, O, ρ, A, q⟩ => ⟨Nat.zero_le _, fun p hp => q [] p H A.refl .nil hp⟩, fun _ => mono_ret _, fun _ _ h => ⟨rfl, h⟩⟩
theorem an_cons (h : E X true e f) (r : AN X g es ka) (hs : starEach (e :: es) X.env = (false, eval e X.env) :: starEach es X.env := by rfl) : AN X g (e :: es) (aCons f ka) := by
  refine ⟨pa_imp (pa_cons h.pe r.pa hs) fun σ H Q ⟨fr, O, ρ, A, q⟩ => ?_, fun ρ => mono_bnd (h.mo ρ) fun _ => mono_bnd (r.mo ρ) fun _ => mono_ret _, fun ρ P q => h.mo ρ _ _ (fun d k1 => r.mo ρ _ _ (fun ds k2 => ⟨congrArg (· + 1) k2.1, k2.2⟩) (r.len ρ _ k1)) q⟩
  refine ⟨fr, O, ρ, A, h.mo ρ _ _ (fun d k1 v H1 e1 g1 => ?_) q⟩
  have A1 := A.ex e1
  exact ⟨fr, O, ρ, A1, r.mo ρ _ _ (fun ds k2 us p H2 e2 g2 hp => k2 (v :: us) p H2 (e1.trans e2) (.cons (A1.gd e2 g1) g2) hp) k1⟩
theorem e_callN {gg : Bool} {n j : Nat} {ps : List Str} {mm : List PyData → List Gh → Wp (PyData × List Gh)} (C : Cf.At X.prog X.w X.K X.mg X.base x j ps (spZ n 1 mm)) (hr : Room j X.A) (ha : AN X g (e :: es) ka) (hn : es.length = n := by rfl) (h0 : emptyG g = true := by rfl) (hg : Gl X x := by rfl) (hdb : (x == ("__debug__" : Str)) = false := by decide)
    (he : starEach (e :: es) X.env = (false, eval e X.env) :: starEach es X.env := by rfl) (hpl : (backTo pos (starEach es X.env)).any (·.1) = false := by rfl) : E X gg (.Call (.Name x p) (e :: es) [] pos) (eFnN mm g ka) := by
  obtain ⟨fa, fd, F, hb, hk, hmg⟩ := C.ex
  refine E.tr ⟨pe_imp (pe_call (dvs := []) (E := E0) F hr hg hmg hk hb .nil pass0 ha.pa hdb he hpl) fun σ H Q ⟨fr, O, ρ, A, q⟩ => ?_, fun ρ => mono_bnd (ha.mo ρ) fun _ => mono_bnd (mono_up _) fun _ => mono_ret _⟩
  refine ⟨fr, O, ρ, A, ha.mo ρ _ _ (fun ds k1 us p H1 e1 g1 np => ?_) (ha.len ρ _ q)⟩
  obtain ⟨k0, k1⟩ := k1
  have A1 := A.ex e1
  have hU : ∀ q, ¬ Wd fr O q → H1 q ≠ none → ¬ (Wd fr O q ∨ q = p) := fun q n h z => z.elim n fun z => h (by rw [z]; exact np)
  have st : ∀ b o, H1 b = some o → upd H1 p (hoG g) b = some o := fun b o h => by rw [upd_ne (ne_of_none h np)]; exact h
  refine ⟨ds, fun b => Wd fr O b ∨ b = p, us, [p], [g], by simp, ?_, rfl, fun b w => ?_, g1.dats.to hU (fun q vs h => st q _ h) (fun q o _ h => st q o h), .cons ?_ .nil, by simp, fun q m => .inr (List.mem_singleton.mp m), mono_up _ _ _ (fun a k3 v H3 keep there G g3 => ?_) k1⟩
  · have : (e :: es).length = es.length + 1 := rfl
    omega
  · rcases w with w | w
    · by_cases z : b = p
      · rw [z, upd_same]; exact Option.some_ne_none _
      · rw [upd_ne z]; exact A1.wd w
    · rw [w, upd_same]; exact Option.some_ne_none _
  · unfold emptyG at h0
    split at h0
    · exact .lst upd_same .nil
    · exact .dic upd_same .nil
    · exact .dit upd_same .nil
    · cases h0
  · have kp : ∀ b o, H1 b = some o → H3 b = some o := fun b o h => keep b o (fun m => ne_of_none h np (List.mem_singleton.mp m)) (st b o h)
    refine k3 v H3 (e1.trans ⟨fun b o _ h => kp b o h, fun a c z => ?_, fun b h => ?_⟩) (Dat.less (fun q _ w => .inl w) g3)
    · obtain ⟨ns, i, v, k, s, f1, f2, f3, f4⟩ := (A1.pool a c z).1
      exact ⟨ns, i, v, k, s, kp _ _ f1, kp _ _ f2, f3, f4⟩
    · cases y : H1 b with
      | none => exact absurd y h
      | some o => rw [kp b o y]; exact Option.some_ne_none _
end
end Lq
namespace Lq
open PySem L2 PySem.Spec PyProof.Rows
/-! ### writes of things that stood before -/
def gLst : Gh → Wp (List PyData)
  | .lst ds => ret ds
  | _ => bad
def gDic : Gh → Wp (List (PyData × PyData))
  | .dic es => ret es
  | _ => bad
def gDit : Gh → Wp (List (PyData × PyData))
  | .dit es => ret es
  | _ => bad
theorem mono_gLst (g : Gh) : Mono (gLst g) := by cases g <;> first | exact mono_ret _ | exact mono_bad
theorem mono_gDic (g : Gh) : Mono (gDic g) := by cases g <;> first | exact mono_ret _ | exact mono_bad
theorem mono_gDit (g : Gh) : Mono (gDit g) := by cases g <;> first | exact mono_ret _ | exact mono_bad
theorem gLst_ok {g : Gh} {P : List PyData → Prop} (q : gLst g P) : ∃ ds, g = .lst ds ∧ P ds := by
  cases g with
  | lst ds => exact ⟨ds, rfl, q⟩
  | dic _ => exact q.elim
  | dit _ => exact q.elim
theorem gDic_ok {g : Gh} {P : List (PyData × PyData) → Prop} (q : gDic g P) : ∃ es, g = .dic es ∧ P es := by
  cases g with
  | dic es => exact ⟨es, rfl, q⟩
  | lst _ => exact q.elim
  | dit _ => exact q.elim
theorem gDit_ok {g : Gh} {P : List (PyData × PyData) → Prop} (q : gDit g P) : ∃ es, g = .dit es ∧ P es := by
  cases g with
  | dit es => exact ⟨es, rfl, q⟩
  | lst _ => exact q.elim
  | dic _ => exact q.elim
section
variable {X : Cx} {x : Str} {px pos spos apos : Pos} {e k : Expr} {fe fk : Rho → Wp PyData}
/-- given[k] = e -/
def sGPut (i j : Nat) (fk fe : Rho → Wp PyData) : Rho → Wp Out := fun ρ => bnd (fe ρ) fun z => bnd (slG j ρ[i]? ρ[j]?) fun g => bnd (gDic g) fun es => bnd (fk ρ) fun y => bnd (gd (es.length < sizeLine ∧ keyP y ≠ none) ()) fun _ => bnd (regh (.dic (putP es y z)) ρ[j]?) fun s => ret (.nx (ρ.set j s))
theorem mono_sGPut {i j : Nat} (he : ∀ ρ, Mono (fe ρ)) (hk : ∀ ρ, Mono (fk ρ)) (ρ : Rho) : Mono (sGPut i j fk fe ρ) := mono_bnd (he ρ) fun _ => mono_bnd (mono_slG _ _ _) fun g => mono_bnd (mono_gDic _) fun _ => mono_bnd (hk ρ) fun _ => mono_bnd (mono_gd _) fun _ => mono_bnd (mono_regh _ _) fun _ => mono_ret _
theorem s_gput (i j : Nat) (hu : X.A.units + 1 < cLine) (he : E X true e fe) (hk : E X true k fk) (hN : X.N[i]? = some x := by rfl) (hv : Vis X.env.scope x := by first | exact Or.inl rfl | exact Or.inr (Or.inl rfl) | exact Or.inr (Or.inr rfl)) (hd : (x == ("__debug__" : Str)) = false := by decide) (hcd : (x == ("__classdict__" : Str)) = false := by decide)
    (hs : swapsWith e (some (.Subscript (.Name x px) k apos)) pos.line X.env = pure false := by rfl) : S X (.Assign [.Subscript (.Name x px) k apos] e pos) (sGPut i j fk fe) := by
  refine ⟨fun Wx tkx => ps_imp (ps_dput hu (pe_var hN hv hd hcd) hk.pe he.pe hs) fun D σ H ⟨fr, O, ρ, A, q⟩ => ?_, mono_sGPut he.mo hk.mo⟩
  refine ⟨fr, O, ρ, A, he.mo ρ _ _ (fun z k1 v H1 e1 g1 => ?_) q⟩
  have A1 := A.ex e1
  obtain ⟨c, g, h1, h2, k1⟩ := slG_ok k1
  obtain ⟨es, rfl, k1⟩ := gDic_ok k1
  obtain ⟨p, a1, a2, a3, a4⟩ := A1.ghost h1 h2
  refine ⟨_, a2, fr, O, ρ, A1, hk.mo ρ _ _ (fun y k2 u H2 e2 g2 => ?_) k1⟩
  have A2 := A1.ex e2
  obtain ⟨p', b1, b2, b3, b4⟩ := A2.ghost h1 h2
  rw [a1] at b1
  cases b1
  obtain ⟨⟨k3, k4⟩, k5⟩ := k2
  rw [h2] at k5
  cases b4 with
  | dic f4 f5 =>
    cases zz : keyP y with
    | none => exact absurd zz k4
    | some kk =>
      have ey := keyP_ok zz
      subst ey
      rw [key_at (U := fun _ => False) (W := Wd fr O) (.of (show Dat (Wd fr O) H2 u (kD kk) from g2))]
      have gv : Dat (Wd fr O) H2 v z := A1.gd (g := true) e2 g1
      refine ⟨p, _, rfl, DPut.k f4 (by rw [datK_len f5]; exact k3), k5 _ _ _ (A2.gwrite h2 a1 a3 (by intro vs z; cases z) (.dic upd_same ?_))⟩
      exact (put_k f5 gv).to (fun _ n _ => n) (A2.via (b := true) (exs_upd a1).keep).1 (A2.via (b := true) (exs_upd a1).keep).2
/-- known.append(e) -/
def sGApp (i j : Nat) (f : Rho → Wp PyData) : Rho → Wp Out := fun ρ => bnd (slG j ρ[i]? ρ[j]?) fun g => bnd (gLst g) fun ds => bnd (f ρ) fun d => bnd (gd (ds.length < sizeLine) ()) fun _ => bnd (regh (.lst (ds ++ [d])) ρ[j]?) fun s => ret (.nx (ρ.set j s))
theorem s_gapp (i j : Nat) (h : E X true e fe) (hN : X.N[i]? = some x := by rfl) (hv : Vis X.env.scope x := by first | exact Or.inl rfl | exact Or.inr (Or.inl rfl) | exact Or.inr (Or.inr rfl)) (hd : (x == ("__debug__" : Str)) = false := by decide) (hcd : (x == ("__classdict__" : Str)) = false := by decide)
    (hbase : attributeBase (.Name x px) "append" X.env (eval (.Name x px) X.env) = eval (.Name x px) X.env := by rfl)
    (hfew : ((backTo pos (starEach [e] X.env)).all (fun x => !x.1) && (backToKw pos (keywordEach [] X.env)).all (fun x => x.1.isSome) && decide (([e] : List Expr).length + ([] : List Keyword).length + (if ([] : List Keyword).isEmpty then 0 else 1) < 30)) = true := by rfl)
    (hline : (apos.endLine == pos.line) = true := by rfl) (hs : starEach [e] X.env = (false, eval e X.env) :: starEach [] X.env := by rfl) (hpl : (backTo pos (starEach [] X.env)).any (·.1) = false := by rfl)
    (hsw : swapsWith (.Call (.Attribute (.Name x px) "append" apos) [e] [] pos) none spos.line X.env = pure false := by rfl) : S X (.Expr (.Call (.Attribute (.Name x px) "append" apos) [e] [] pos) spos) (sGApp i j fe) := by
  refine ⟨fun Wx tkx => ps_imp (ps_expr (pe_bm PySem.F.plainAttrs_list PySem.F.slot_list_append PySem.F.type_list_append mt_append (pe_var hN hv hd hcd) (pa_cons h.pe pa_nil hs) hbase hfew hline hs hpl) hsw) fun D σ H ⟨fr, O, ρ, A, q⟩ => ?_, fun ρ => mono_bnd (mono_slG _ _ _) fun _ => mono_bnd (mono_gLst _) fun _ => mono_bnd (h.mo ρ) fun _ => mono_bnd (mono_gd _) fun _ => mono_bnd (mono_regh _ _) fun _ => mono_ret _⟩
  obtain ⟨c, g, h1, h2, q⟩ := slG_ok q
  obtain ⟨ds, rfl, q⟩ := gLst_ok q
  obtain ⟨p, a1, a2, a3, a4⟩ := A.ghost h1 h2
  cases a4 with
  | lst f4 f5 =>
    refine ⟨_, a2, .inl ⟨rfl, _, SqL.of f4⟩, fr, O, ρ, A, h.mo ρ _ _ (fun d k v H1 e1 g1 => ?_) q⟩
    have A1 := A.ex e1
    obtain ⟨p', b1, b2, b3, b4⟩ := A1.ghost h1 h2
    rw [a1] at b1
    cases b1
    cases b4 with
    | lst f4 f5 =>
      obtain ⟨k1, k2⟩ := k
      rw [h2] at k2
      refine ⟨p, _, v, rfl, rfl, f4, by rw [f5.length]; exact k1, k2 _ _ _ (A1.gwrite h2 a1 a3 (by intro vs z; cases z) (.lst upd_same (A1.datsUpd a1 (f5.snoc (show Dat (Wd fr O) H1 v d from g1)))))⟩
/-! d.setdefault(k, v), d's keys tuples of ints and texts -/
def tDSetdT (td ty tx : TE) : TE := fun σ H Q => td σ H fun x H1 => ∃ a, x = .ref a ∧ IsD H1 a ∧ ty σ H1 fun y H2 => tx σ H2 fun z H3 => ∃ (kvs : List (List Key × V)) (k : List Key) (b : Addr), H3 a = some (.dT kvs) ∧ y = .ref b ∧ H3 b = some (.tup (k.map kV)) ∧ kvs.length < sizeLine ∧
  (∀ v, valV kvs k = some v → Q v H3) ∧ (valV kvs k = none → Q z (upd H3 a (.dT (putK kvs k z))))
theorem kt_stored {H : Hp} {kvs : List (List Key × V)} {xs : List (List Key × Addr × Value)} (r : KT H kvs xs) (k : List Key) : RelO (valV kvs k) ((atKey xs k).map (·.2)) := r.val k
theorem pe_dsetdT {o e f : Expr} {td ty tx : TE} {apos cpos : Pos} (hu : X.A.units + 1 < cLine) (ho : PE X o td) (he : PE X e ty) (hf : PE X f tx) (m : M2 X o "setdefault" apos e f cpos) : PE X (.Call (.Attribute o "setdefault" apos) [e, f] [] cpos) (tDSetdT td ty tx) := by
  refine ⟨fun pins s σ H Q I h => ?_⟩
  refine wpAny_Call_method m.base m.few m.line PySem.F.plainAttrs_dict PySem.F.slot_dict_setdefault PySem.F.type_dict_setdefault (thn (ho.run pins s σ H _ I h) fun u s1 ⟨x, H1, I1, rx, a, ex, d, q1⟩ => ?_)
  subst ex
  obtain rfl : u = Value.ref a := rx
  obtain ⟨t1, t2, _⟩ := isD_at I1 d
  refine ⟨t1, t2, ?_⟩
  rw [m.trees]
  refine Calls.callWith_builtin rfl (Calls.evalArgs_plain (Calls.spliced_cons (thn (he.run pins s1 σ H1 _ I1 q1) fun iv s2 ⟨y, H2, I2, ry, q2⟩ =>
    Calls.spliced_cons (thn (hf.run pins s2 σ H2 _ I2 q2) fun fv s3 ⟨z, H3, I3, rz, kvs, k, b, ea, ey, eb, hl, q3, q4⟩ => Calls.spliced_nil ?_))))
  subst ey
  obtain rfl : iv = Value.ref b := ry
  obtain ⟨zl, hd, xs, rel, dd⟩ := dt_of I3.hok ea
  have hz : xs.length ≤ sizeLine := by rw [← Paired.length rel]; exact zl
  have hlp : (putK kvs k z).length ≤ sizeLine := by have := length_putK kvs k z; omega
  refine PySem.call_setdefault_heap (tupleKind_room_in1 hu) (key_of I3.hok eb) hd dd (fun p hp => ?_) (fun hn h' dd' hs => ?_) hz
  · have rr := rel.val k
    rw [hp] at rr
    cases hv : valV kvs k with
    | none => rw [hv] at rr; exact False.elim rr
    | some v => rw [hv] at rr; exact ⟨v, H3, I3.tok _, rr, q3 v hv⟩
  · have rr := rel.val k
    rw [hn] at rr
    cases hv : valV kvs k with
    | some v => rw [hv] at rr; exact False.elim rr
    | none =>
      obtain ⟨q, es, ep, hq, h2, h3, h4, _, h5⟩ := dd'
      have I4 := d_write (t' := s3.toks + (tupleKind (mixKind X.prog X.w)).draws k) (ob := .dT (putK kvs k z)) I3 (by rw [ea]; exact True.intro) hs ⟨q, hq⟩ (show ObjOk X.prog X.w (upd H3 a (.dT (putK kvs k z))) h' a (.dT (putK kvs k z)) from ⟨hlp, hd, _, (rel.put k eb rz).keeps fun c ys ec => by
        rw [upd_ne (ne_of ec ea (fun z => nomatch z))]
        exact ec, q, es, ep, hq, h2, h3, h4, h5⟩)
      exact ⟨z, _, I4, rz, q4 hv⟩
/-- names.setdefault(k, v), names given from outside -/
def zSetd (i j : Nat) (fk fe : Rho → Wp PyData) : Rho → Wp (PyData × Rho) := fun ρ => bnd (slG j ρ[i]? ρ[j]?) fun g => bnd (gDit g) fun es => bnd (fk ρ) fun y => bnd (fe ρ) fun z => bnd (gd (es.length < sizeLine) ()) fun _ => bnd (dgT es y) fun r => match r with
  | some d => ret (d, ρ)
  | none => bnd (regh (.dit (putP es y z)) ρ[j]?) fun s => ret (z, ρ.set j s)
theorem ez_setd (i j : Nat) {cpos : Pos} (hu : X.A.units + 1 < cLine) (hk : E X true k fk) (he : E X true e fe) (m : M2 X (.Name x px) "setdefault" apos k e cpos := by exact ⟨rfl, rfl, rfl, rfl⟩) (hN : X.N[i]? = some x := by rfl) (hv : Vis X.env.scope x := by first | exact Or.inl rfl | exact Or.inr (Or.inl rfl) | exact Or.inr (Or.inr rfl)) (hd : (x == ("__debug__" : Str)) = false := by decide) (hcd : (x == ("__classdict__" : Str)) = false := by decide) :
    EZ X (.Call (.Attribute (.Name x px) "setdefault" apos) [k, e] [] cpos) (zSetd i j fk fe) := by
  refine ⟨pe_imp (pe_dsetdT hu (pe_var hN hv hd hcd) hk.pe he.pe m) fun σ H Q ⟨fr, O, ρ, A, q⟩ => ?_, fun ρ => mono_bnd (mono_slG _ _ _) fun _ => mono_bnd (mono_gDit _) fun _ => mono_bnd (hk.mo ρ) fun _ => mono_bnd (he.mo ρ) fun _ => mono_bnd (mono_gd _) fun _ => mono_bnd (mono_dgT _ _) fun r => by
    cases r with
    | some d => exact mono_ret _
    | none => exact mono_bnd (mono_regh _ _) fun _ => mono_ret _⟩
  obtain ⟨c, g, h1, h2, q⟩ := slG_ok q
  obtain ⟨es, rfl, q⟩ := gDit_ok q
  obtain ⟨p, a1, a2, a3, a4⟩ := A.ghost h1 h2
  cases a4 with
  | dit f4 f5 =>
    refine ⟨_, a2, p, rfl, .inr ⟨_, .inl f4⟩, fr, O, ρ, A, hk.mo ρ _ _ (fun y k1 u H1 e1 g1 => ?_) q⟩
    have A1 := A.ex e1
    refine ⟨fr, O, ρ, A1, he.mo ρ _ _ (fun z k2 v H2 e2 g2 => ?_) k1⟩
    have A2 := A1.ex e2
    obtain ⟨p', b1, b2, b3, b4⟩ := A2.ghost h1 h2
    rw [a1] at b1
    cases b1
    obtain ⟨k3, k4⟩ := k2
    obtain ⟨ks, rfl, k5, k6⟩ := dgT_ok k4
    cases b4 with
    | @dit kvs _ f4 f5 =>
      cases zz : keysP ks with
      | none => exact absurd zz k5
      | some kk =>
        have ey := keysP_ok zz
        subst ey
        have g1' : Dat (Wd fr O) H2 u (.tuple (kk.map kD)) := A1.gd (g := true) e2 g1
        cases g1' with
        | @tup b vs _ t1 t2 =>
          rw [keys_at t2] at t1
          refine ⟨kvs, kk, b, f4, rfl, t1, by rw [datT_len f5]; exact k3, fun w hw => ?_, fun hn => ?_⟩
          · rcases look_t f5 kk with ⟨l1, l2⟩ | ⟨w', d, l1, l2, l3⟩
            · rw [l1] at hw; cases hw
            · rw [l1] at hw
              cases hw
              rw [l2] at k6
              exact k6 _ H2 ((e1.trans e2).exs) A2 l3
          · rcases look_t f5 kk with ⟨l1, l2⟩ | ⟨w', d, l1, l2, l3⟩
            · rw [l2] at k6
              rw [h2] at k6
              have gv : Dat (Wd fr O) H2 v z := g2
              refine k6 _ _ ((e1.trans e2).exs.trans (exs_upd a1)) (A2.gwrite h2 a1 a3 (by intro vs z; cases z) (.dit upd_same ?_)) (A2.datUpd a1 gv)
              exact (put_t f5 gv).to (fun _ n _ => n) (A2.via (b := true) (exs_upd a1).keep).1 (A2.via (b := true) (exs_upd a1).keep).2
            · rw [l1] at hn; cases hn
end
end Lq
namespace Lq
open PySem L2
/-! ### comprehensions whose element changes things -/
def plV (ρ : Rho) (vs : List Nat) : Bool := vs.all fun i => match ρ[i]? with
  | some .un => true
  | some (.val _) => true
  | _ => false
def restR (ρ ρe : Rho) : List Nat → Rho
  | [] => ρe
  | v :: vs => (restR ρ ρe vs).set v (ρ[v]?.getD .un)
theorem plV_no {ρ : Rho} {vs : List Nat} (h : plV ρ vs = true) : noOwn ρ vs = true := by
  refine List.all_eq_true.mpr fun i m => ?_
  have := List.all_eq_true.mp h i m
  split at this
  · rename_i e; rw [e]; rfl
  · rename_i e; rw [e]; rfl
  · cases this
theorem rest_len (ρ ρe : Rho) : ∀ vs, (restR ρ ρe vs).length = ρe.length
  | [] => rfl
  | v :: vs => by show (List.set _ _ _).length = _; rw [List.length_set, rest_len ρ ρe vs]
theorem rest_get (ρ ρe : Rho) (i : Nat) : ∀ vs : List Nat, (restR ρ ρe vs)[i]? = if i ∈ vs then (if i < ρe.length then some (ρ[i]?.getD .un) else none) else ρe[i]?
  | [] => by simp [restR]
  | v :: vs => by
    show (List.set _ _ _)[i]? = _
    rw [List.getElem?_set]
    by_cases e : v = i
    · subst e
      rw [if_pos rfl, if_pos List.mem_cons_self, rest_len]
    · rw [if_neg e, rest_get ρ ρe i vs]
      have h : (i ∈ v :: vs) ↔ i ∈ vs := by simp [Ne.symm e]
      simp only [h]
section
variable {fr : Fr} {O : List (Option Addr)} {σ : St} {ρ : Rho} {H H' : Hp}
theorem At.wipe (A : At fr O σ ρ H) {vs : List Nat} (h : noOwn ρ vs = true) : At fr O (L2.wipe σ vs) (wipeR ρ vs) H := ⟨A.sl.wipe vs h, A.keep, A.pool, A.own, A.nd, A.up, A.st, A.gh.wipe vs⟩
theorem noOwn_of (A : At fr O σ ρ H) {vs : List Nat} (h : ∀ v ∈ vs, ∀ p, O[v]? ≠ some (some p)) : noOwn ρ vs = true := by
  refine List.all_eq_true.mpr fun i m => ?_
  cases e : ρ[i]? with
  | none => rfl
  | some s =>
    obtain ⟨o, x, h1, h2, h3⟩ := A.sl.get e
    cases h3 <;> first | rfl | exact absurd h1 (h i m _)
/-- an object where no data's list stands is changed -/
theorem At.updU (A : At fr O σ ρ H) {D : Addr} {o : HO} (hU : fr.U D) (hW : fr.Wr D) (hp : ∀ a c, fr.pl = some (a, c) → D ≠ a ∧ D ≠ c) (ht : ∀ vs, H D ≠ some (.tup vs)) : At fr O σ ρ (upd H D o) := by
  have t1 : ∀ q vs, H q = some (.tup vs) → upd H D o q = some (.tup vs) := fun q vs h => by rw [upd_ne (fun z => ht vs (by rw [← z]; exact h))]; exact h
  have ne : ∀ p, some p ∈ O → p ≠ D := fun p m z => (A.own p m).1.1 (by rw [z]; exact hU)
  refine ⟨A.sl.to (fun _ n _ => n) t1 (fun q o n h => by rw [upd_ne (fun z => n (.inl (by rw [z]; exact hU)))]; exact h) fun p o m h => by rw [upd_ne (ne p m)]; exact h, fun b u n h => ?_, fun a c z => ⟨pool_up (A.pool a c z).1 (hp a c z).1 (hp a c z).2, (A.pool a c z).2⟩, fun p m => ?_, A.nd, A.up, fun b h => ?_, A.gh⟩
  · rw [upd_ne (fun z => n (by rw [z]; exact hW))]
    exact A.keep b u n h
  · obtain ⟨a1, a2, u, a3, a4⟩ := A.own p m
    exact ⟨a1, a2, u, by rw [upd_ne (ne p m)]; exact a3, a4⟩
  · by_cases z : b = D
    · rw [z, upd_same]; exact Option.some_ne_none _
    · rw [upd_ne z]; exact A.st b h
theorem agree_same {ws vs : List Nat} {fr' : Fr} {O1 : List (Option Addr)} {σ1 : St} {ρ1 ρ0 : Rho} {H1 : Hp} (A0 : At fr O σ ρ0 H) (hno : ∀ v ∈ vs, ∀ p, O[v]? ≠ some (some p)) (hws : ∀ w ∈ ws, w ∈ vs) (ag : Agree ws O O1 σ σ1) (B : At fr' O1 σ1 ρ1 H1) : O1 = O := by
  have l1 := B.sl.len
  have l0 := A0.sl.len
  have la := ag.len
  refine List.ext_getElem? fun j => ?_
  by_cases m : j ∈ ws
  · cases e : O1[j]? with
    | none =>
      have := List.getElem?_eq_none_iff.mp e
      rw [List.getElem?_eq_none (by omega)]
    | some o =>
      have hj := (List.getElem?_eq_some_iff.mp e).1
      cases o with
      | none =>
        cases f : O[j]? with
        | none => have := List.getElem?_eq_none_iff.mp f; omega
        | some u =>
          cases u with
          | none => rfl
          | some p => exact absurd f (hno j (hws j m) p)
      | some b =>
        obtain ⟨j', hj'⟩ := List.mem_iff_getElem?.mp (ag.own b (List.mem_of_getElem? e))
        have n' : j' ∉ ws := fun z => hno j' (hws j' z) b hj'
        have e' : O1[j']? = some (some b) := (ag.oeq j' n').trans hj'
        have := B.nd j j' b e e'
        subst this
        exact absurd m n'
  · exact ag.oeq j m
end
def frD (fr : Fr) (O : List (Option Addr)) (D : Addr) (H0 : Hp) : Fr := ⟨fun b => fr.U b ∨ b = D, fun b => (some b ∈ O ∨ ∃ c, fr.pl = some (b, c)) ∨ b = D, fr.pl, H0, fr.gh⟩
section
variable {fr : Fr} {O : List (Option Addr)} {σ : St} {ρ ρe : Rho} {H1 H' : Hp} {D : Addr}
theorem At.toD (A1 : At fr O σ ρ H1) (nD : H1 D = none) {vs : List Nat} (hno : noOwn ρ vs = true) {o : HO} : At (frD fr O D (upd H1 D o)) O (L2.wipe σ vs) (wipeR ρ vs) (upd H1 D o) := by
  have e14 : Ex fr.pl H1 (upd H1 D o) := Ex.new A1 nD
  have hW : ∀ q, ¬ Wd fr O q → H1 q ≠ none → ¬ Wd (frD fr O D (upd H1 D o)) O q := fun q n h z => by
    rcases z with (z | z) | z
    · exact n (.inl z)
    · exact h (by rw [z]; exact nD)
    · exact n (.inr z)
  obtain ⟨v1, v2⟩ := A1.via (b := false) (H' := upd H1 D o) e14
  refine ⟨Slots.wipe (A1.sl.to hW v1 v2 fun p o m h => e14.keep p o (fun a c z => ((A1.own p m).2.1 a c z).1) h) vs hno, fun _ _ _ h => h, fun a c e => ⟨e14.pool a c e, .inl (.inr ⟨c, e⟩), .inl (A1.pool a c e).2.2⟩, fun p m => ?_, A1.nd, fun b u => ?_, fun _ h => h, A1.gh.wipe vs⟩
  · refine ⟨⟨fun u => u.elim (A1.own p m).1.1 fun e => ?_, .inl (.inl (.inl m))⟩, ((A1.ex e14).own p m).2⟩
    exact A1.wd (.inr m) (by rw [e]; exact nD)
  · rcases u with u | u
    · exact e14.there b (A1.wd (.inl u))
    · show upd H1 D o b ≠ none
      rw [u, upd_same]; exact Option.some_ne_none _
theorem At.rest (A1 : At fr O σ ρ H1) (nD : H1 D = none) {H0 : Hp} {vs : List Nat} (B : At (frD fr O D H0) O (L2.wipe σ vs) ρe H') (p4 : Exs fr O H1 H') (hp : plV ρ vs = true) : At fr O σ (restR ρ ρe vs) H' := by
  have lσ : (L2.wipe σ vs).length = σ.length := wipe_length σ vs
  have lB := B.sl.len
  have lA := A1.sl.len
  have sub : ∀ q, Wd fr O q → Wd (frD fr O D H0) O q := fun q w => w.elim (fun w => .inl (.inl w)) .inr
  have plain : ∀ i ∈ vs, (ρ[i]? = some .un ∨ ∃ d, ρ[i]? = some (.val d)) := fun i m => by
    have := List.all_eq_true.mp hp i m
    split at this
    · rename_i e; exact .inl e
    · rename_i d e; exact .inr ⟨d, e⟩
    · cases this
  have pls : ∀ i ∈ vs, ∀ s, (restR ρ ρe vs)[i]? = some s → plS s = true ∧ ρ[i]? = some s := fun i m s e => by
    rw [rest_get, if_pos m] at e
    split at e
    · rcases plain i m with h | ⟨d, h⟩ <;> (rw [h] at e; cases e; exact ⟨rfl, h⟩)
    · cases e
  refine ⟨Slots.of (by rw [rest_len]; omega) (by rw [rest_len]; omega) fun i s e => ?_, fun b o n h => ?_, fun a c z => ⟨(B.pool a c z).1, (A1.pool a c z).2⟩, fun p m => ⟨(A1.own p m).1, (B.own p m).2⟩, A1.nd, A1.up, fun b h => p4.there b (A1.st b h), ⟨fun i j e1 e2 => ?_, fun j p m e => ?_⟩⟩
  · by_cases m : i ∈ vs
    · obtain ⟨hs, e0⟩ := pls i m s e
      obtain ⟨o, x, a1, a2, a3⟩ := A1.sl.get e0
      refine ⟨o, x, a1, a2, ?_⟩
      rcases plain i m with h | ⟨d, h⟩
      · rw [h] at e0; cases e0
        cases a3
        exact .un _
      · rw [h] at e0; cases e0
        cases a3 with
        | val a3 => exact .val (Dat.exs A1 p4 a3)
    · rw [rest_get, if_neg m] at e
      obtain ⟨o, x, a1, a2, a3⟩ := B.sl.get e
      refine ⟨o, x, a1, by rw [wipe_get, if_neg m] at a2; exact a2, ?_⟩
      have lw : ∀ p, ¬ Wd (frD fr O D H0) O p → H' p ≠ none → ¬ Wd fr O p := fun p n _ w => n (sub p w)
      cases a3 with
      | un => exact .un _
      | val h => exact .val (h.to lw (fun _ _ => id) fun _ _ _ => id)
      | lst h k => exact .lst h (k.to lw (fun _ _ => id) fun _ _ _ => id)
      | dic h k => exact .dic h (k.to lw (fun _ _ => id) fun _ _ _ => id)
      | dit h k => exact .dit h (k.to lw (fun _ _ => id) fun _ _ _ => id)
      | pool h => exact .pool h
      | gl h k => exact .gl h (k.to lw (fun _ _ => id) fun _ _ _ => id)
      | gd h k => exact .gd h (k.to lw (fun _ _ => id) fun _ _ _ => id)
      | gt h k => exact .gt h (k.to lw (fun _ _ => id) fun _ _ _ => id)
      | ptr j => exact .ptr j
  · have h1 := A1.keep b o n h
    refine p4.keep b o (fun z => ?_) h1
    rcases z with z | ⟨c, z⟩
    · rcases (A1.own b z).1.2 with y | y
      · exact n y
      · rw [y] at h; cases h
    · exact n (A1.pool b c z).2.1
  · have mi : i ∉ vs := fun m => by have := (pls i m _ e1).1; cases this
    rw [rest_get, if_neg mi] at e1
    have mj : j ∉ vs := fun m => by
      cases y : (restR ρ ρe vs)[j]? with
      | none => rw [y] at e2; cases e2
      | some s =>
        have := (pls j m s y).1
        rw [y] at e2
        unfold plS at this
        rw [e2] at this
        cases this
    rw [rest_get, if_neg mj] at e2
    obtain ⟨p, b1, b2⟩ := B.gh.ptr i j e1 e2
    exact ⟨p, b1, by rw [wipe_get, if_neg mi] at b2; exact b2⟩
  · have mj : j ∉ vs := fun mm => by
      have e2 := isG_of e
      cases y : (restR ρ ρe vs)[j]? with
      | none => rw [y] at e2; cases e2
      | some s =>
        have := (pls j mm s y).1
        rw [y] at e2
        unfold plS at this
        rw [e2] at this
        cases this
    rw [rest_get, if_neg mj] at e
    exact B.gh.pin j p m e
end
def wLcZ (k : PyData → Rho → Wp Rho) (t : Rho → Wp Bool) (f : Rho → Wp (PyData × Rho)) (vs : List Nat) : List PyData → Rho → Wp (List PyData × Rho)
  | [], ρ => ret ([], ρ)
  | d :: ds, ρ => bnd (k d ρ) fun ρ1 => bnd (t ρ1) fun b => if b = true then bnd (f ρ1) fun y => bnd (wLcZ k t f vs ds (wipeR y.2 vs)) fun ys => ret (y.1 :: ys.1, ys.2) else wLcZ k t f vs ds ρ
theorem mono_wLcZ {k : PyData → Rho → Wp Rho} {t : Rho → Wp Bool} {f : Rho → Wp (PyData × Rho)} {vs : List Nat} (hk : ∀ d ρ, Mono (k d ρ)) (ht : ∀ ρ, Mono (t ρ)) (hf : ∀ ρ, Mono (f ρ)) : ∀ ds ρ, Mono (wLcZ k t f vs ds ρ)
  | [], _ => mono_ret _
  | _ :: ds, _ => mono_bnd (hk _ _) fun _ => mono_bnd (ht _) fun _ => ite_mono (mono_bnd (hf _) fun _ => mono_bnd (mono_wLcZ hk ht hf ds _) fun _ => mono_ret _) (mono_wLcZ hk ht hf ds _)
def zLc (fi : Rho → Wp (List PyData)) (k : PyData → Rho → Wp Rho) (t : Rho → Wp Bool) (f : Rho → Wp (PyData × Rho)) (vs : List Nat) : Rho → Wp (PyData × Rho) :=
  fun ρ => bnd (fi ρ) fun ds Q => (ds.length ≤ sizeLine ∧ plV ρ vs = true) ∧ wLcZ k t f vs ds (wipeR ρ vs) fun r => Q (.list r.1, restR ρ r.2 vs)
theorem zlc_imp {fi : Rho → Wp (List PyData)} {k : PyData → Rho → Wp Rho} {t : Rho → Wp Bool} {f : Rho → Wp (PyData × Rho)} {vs ws : List Nat} (mi : ∀ ρ, Mono (fi ρ)) (mk : ∀ d ρ, Mono (k d ρ)) (mt : ∀ ρ, Mono (t ρ)) (mf : ∀ ρ, Mono (f ρ)) (hws : ∀ w ∈ ws, w ∈ vs) {σ : St} {H : Hp} {Q : VK}
    (q : tezOf (zLc fi k t f vs) σ H Q) : tLc (tiOf true fi) (tgOf ws k) (ttOf t) (tezOf f) vs σ H Q := by
  obtain ⟨fr, O, ρ, A, q⟩ := q
  refine ⟨fr, O, ρ, A, mi ρ _ _ (fun ds q J H1 e1 it => ?_) q⟩
  have A1 := A.ex e1
  obtain ⟨⟨hz, hpl⟩, q⟩ := q
  have hno := plV_no hpl
  intro D nD
  obtain ⟨Gd, Y, w, hG, hY⟩ := it.ex
  simp only [if_true] at hG hY
  have nO : ∀ v ∈ vs, ∀ p, O[v]? ≠ some (some p) := fun v m p e => own_out A1.sl hno e m
  have Dpool : ∀ a c, fr.pl = some (a, c) → D ≠ a ∧ D ≠ c := fun a c e => by
    obtain ⟨h1, h2⟩ := pool_two (A1.pool a c e).1
    exact ⟨fun z => h1 (by rw [← z]; exact nD), fun z => h2 (by rw [← z]; exact nD)⟩
  have B0 := A1.toD nD hno (o := .lst [])
  generalize hF : frD fr O D (upd H1 D (.lst [])) = F at B0
  have FU : F.U D := by rw [← hF]; exact .inr rfl
  have FW : F.Wr D := by rw [← hF]; exact .inr rfl
  have Fpl : F.pl = fr.pl := by rw [← hF]; rfl
  have Fw : ∀ q, ¬ Wd fr O q → H1 q ≠ none → ¬ Wd F O q := fun q n h z => by
    rw [← hF] at z
    rcases z with (z | z) | z
    · exact n (.inl z)
    · exact h (by rw [z]; exact nD)
    · exact n (.inr z)
  have Fsub : ∀ q, Wd fr O q → Wd F O q := fun q z => by
    rw [← hF]
    exact z.elim (fun z => .inl (.inl z)) .inr
  have Fpool : ∀ a c, F.pl = some (a, c) → D ≠ a ∧ D ≠ c := by rw [Fpl]; exact Dpool
  have eD1 : Exs fr O H1 (upd H1 D (.lst [])) := (Ex.new A1 nD).exs
  refine lc_it w (fun i H' => ∃ acc ys ρi, H' D = some (.lst acc) ∧ acc.length ≤ i ∧ Dats (Wd F O) H' acc ys ∧ Exs fr O H1 H' ∧ At F O (L2.wipe σ vs) ρi H' ∧
      wLcZ k t f vs (ds.drop i) ρi fun r => ∀ v H', Exs fr O H H' → At fr O σ (restR ρ r.2 vs) H' → Dat (Wd fr O) H' v (.list (ys ++ r.1)) → Q v H')
    ⟨[], [], _, upd_same, Nat.le_refl _, .nil, eD1, B0, q⟩ (fun i H' _ p => ?_) (fun i x H' Hb hi p y => ?_) (fun H' p => ?_)
  · obtain ⟨acc, ys, ρi, p1, p2, p3, p4, p5, p6⟩ := p
    exact hG H' p4.keep
  · obtain ⟨acc, ys, ρi, p1, p2, p3, p4, p5, p6⟩ := p
    obtain ⟨sm, d, hd, hx⟩ := hY i H' x Hb (Wd F O) hi p4.keep Fw y
    have B := p5.ex (p5.same sm)
    have pb : Hb D = some (.lst acc) := sm _ _ p1
    have e : ds.drop i = d :: ds.drop (i + 1) := by
      obtain ⟨h1, h2⟩ := List.getElem?_eq_some_iff.mp hd
      rw [List.drop_eq_getElem_cons hi, h2]
    rw [e] at p6
    refine ⟨F, O, ρi, d, B, hx, mk _ _ _ _ (fun ρ1 k1 σ1 O1 ag B1 => ?_) p6⟩
    have eO := agree_same p5 nO hws ag B1
    subst eO
    refine ⟨wipe_agree ag hws, F, O1, ρ1, B1, mt _ _ _ (fun b k2 H3 e3 => ?_) k1⟩
    have B2 := B1.ex e3
    have kD : ∀ {Ha Hb' : Hp}, Ex F.pl Ha Hb' → Ha D = some (.lst acc) → Hb' D = some (.lst acc) := fun ex h => ex.keep D _ (fun a c z => (Fpool a c z).1) h
    have q3 : H3 D = some (.lst acc) := kD e3 pb
    have d3 : Dats (Wd F O1) H3 acc ys := Dats.ex e3 B1.hp (p3.same sm)
    have eH3 : ∀ b o, H' b = some o → (¬ ∃ c, fr.pl = some (b, c)) → H3 b = some o := fun b o h n => e3.keep b o (fun a c z y => n ⟨c, by rw [y, ← Fpl]; exact z⟩) (sm b o h)
    have e13 : Exs fr O1 H1 H3 := p4.trans ⟨fun b o n h => eH3 b o h fun z => n (.inr z), fun b h => e3.there b (same_there sm b h)⟩
    have hlt : acc.length < sizeLine := by omega
    cases b with
    | true =>
      have k2 : bnd (f ρ1) _ _ := k2
      refine iteT ⟨F, O1, ρ1, B2, mf _ _ _ (fun yd k3 v H4 e4 B4 g4 => ?_) k2⟩
      have nDO : ¬ (some D ∈ O1 ∨ ∃ c, F.pl = some (D, c)) := fun z => z.elim (fun m => (B4.own D m).1.1 FU) fun ⟨c, z⟩ => (Fpool D c z).1 rfl
      have q4 : H4 D = some (.lst acc) := e4.keep D _ nDO q3
      have d4 : Dats (Wd F O1) H4 acc ys := Dats.exs B2 e4 d3
      have e14 : Exs fr O1 H1 H4 := e13.trans ⟨fun b o n h => e4.keep b o (by rw [Fpl]; exact n) h, e4.there⟩
      have nt : ∀ vs, H4 D ≠ some (.tup vs) := fun vs z => by rw [q4] at z; cases z
      have B5 := ((B4.wipe (noOwn_of B4 nO)).updU (o := .lst (acc ++ [v])) FU FW Fpool nt)
      rw [wipe_agree ag hws] at B5
      have mv : ∀ {us : List V} {zs : List PyData}, Dats (Wd F O1) H4 us zs → Dats (Wd F O1) (upd H4 D (.lst (acc ++ [v]))) us zs := fun h =>
        h.to (fun _ n _ => n) (fun q vs h => by rw [upd_ne (fun z => nt vs (by rw [← z]; exact h))]; exact h) fun q o n h => by rw [upd_ne fun z => n (.inl (by rw [z]; exact FU))]; exact h
      refine ⟨acc, q4, hlt, acc ++ [v], ys ++ [yd.1], _, upd_same, by rw [List.length_append]; exact Nat.succ_le_succ p2, mv (d4.snoc g4), ⟨fun b o n h => ?_, fun b h => ?_⟩, B5, ?_⟩
      · rw [upd_ne (ne_of_none h nD)]; exact e14.keep b o n h
      · by_cases z : b = D
        · rw [z, upd_same]; exact Option.some_ne_none _
        · rw [upd_ne z]; exact e14.there b h
      · refine mono_wLcZ mk mt mf _ _ _ _ (fun r h => ?_) k3
        rw [List.append_assoc]
        exact h
    | false =>
      have k2 : wLcZ k t f vs (ds.drop (i + 1)) ρi _ := k2
      have B6 := p5.ex ((p5.same sm).trans e3)
      exact iteF ⟨acc, ys, ρi, q3, by omega, d3, e13, B6, k2⟩
  · obtain ⟨acc, ys, ρi, p1, p2, p3, p4, p5, p6⟩ := p
    rw [List.drop_length] at p6
    have p6 := (show ∀ v H', _ from p6) (.ref D) H' (e1.exs.trans p4) (by rw [← hF] at p5; exact A1.rest nD p5 p4 hpl)
    rw [List.append_nil] at p6
    exact p6 (.lst (fun w => A1.wd w nD) p1 (p3.less fun q _ w => Fsub q w))
section
variable {X : Cx} {elt tg iter : Expr} {ifs : List Expr} {scope : Scope} {own : List (Str × Nat)} {pos : Pos} {fi : Rho → Wp (List PyData)} {k : PyData → Rho → Wp Rho} {t : Rho → Wp Bool} {f : Rho → Wp (PyData × Rho)} {ws : List Nat}
theorem mono_zLc {vs : List Nat} (mi : ∀ ρ, Mono (fi ρ)) (mk : ∀ d ρ, Mono (k d ρ)) (mt : ∀ ρ, Mono (t ρ)) (mf : ∀ ρ, Mono (f ρ)) (ρ : Rho) : Mono (zLc fi k t f vs ρ) := mono_bnd (mi ρ) fun _ _ _ h q => ⟨q.1, mono_wLcZ mk mt mf _ _ _ _ (fun _ z => h _ z) q.2⟩
theorem ez_lc (hc : X.calm = true) (hN : X.N.Nodup) (hi : I X true tg iter fi) (ok : BlkOk X.N X.env.scope scope own) (hg : ∀ (s : Shared) (H : Hp) (C : Addr) (cl : List (Str × Addr)) (fp : List Addr), G (X.blk s H scope (compEnvC scope cl C X.env) fp) ws tg k)
    (ht : ∀ (s : Shared) (H : Hp) (C : Addr) (cl : List (Str × Addr)) (fp : List Addr), TTs (X.blk s H scope (compEnvC scope cl C X.env) fp) ifs t) (he : ∀ (s : Shared) (H : Hp) (C : Addr) (cl : List (Str × Addr)) (fp : List Addr), EZ (X.blk s H scope (compEnvC scope cl C X.env) fp) elt f)
    (hws : ∀ w ∈ ws, w ∈ own.map (·.2) := by decide) (hs : ∀ x, foldedSetIterable iter X.env x = pure x := by intro _; rfl) : EZ X (.ListComp elt [⟨tg, iter, ifs, 0⟩] scope pos) (zLc fi k t f (own.map (·.2))) := by
  have mk := (hg X.s_0 X.H_0 0 [] []).mo
  have mt := (ht X.s_0 X.H_0 0 [] []).mo
  have mf := (he X.s_0 X.H_0 0 [] []).mo
  exact ⟨pe_imp (pe_lc hc hN hi.pi ok (fun s H C cl fp => (hg s H C cl fp).pg) (fun s H C cl fp => (ht s H C cl fp).pt) (fun s H C cl fp => (he s H C cl fp).pe) hs) fun σ H Q q => zlc_imp hi.mo mk mt mf hws q, mono_zLc hi.mo mk mt mf⟩
end
end Lq
namespace Lq
open PySem L2
/-! ### f-strings, sep.join(xs), xs.index(y) -/
def fmtW : PyData → Wp Str
  | .str y => gd (y.length ≤ sizeLine) y
  | .int i => gd (i.natAbs.log2 < 1920) (toString i)
  | _ => bad
theorem mono_fmtW : ∀ d, Mono (fmtW d)
  | .str _ | .int _ => mono_gd _
  | .none | .bool _ | .list _ | .tuple _ | .dict _ => mono_bad
structure J (X : Cx) (es : List Expr) (k : Str → Rho → Wp Str) : Prop where
  ex : ∃ ts, PJ X es ts ∧ ∀ (acc : Str) (σ : St) (H : Hp) (Q : Str → Hp → Prop), (∃ fr O ρ, At fr O σ ρ H ∧ k acc ρ fun out => ∀ H', Ex fr.pl H H' → Q out H') → tJs ts acc σ H Q
  mo : ∀ acc ρ, Mono (k acc ρ)
def jNil : Str → Rho → Wp Str := fun acc _ => ret acc
def jStr (x : Str) (k : Str → Rho → Wp Str) : Str → Rho → Wp Str := fun acc ρ => bnd (gd ((acc ++ x).length ≤ sizeLine) ()) fun _ => k (acc ++ x) ρ
def jVal (f : Rho → Wp PyData) (k : Str → Rho → Wp Str) : Str → Rho → Wp Str := fun acc ρ => bnd (f ρ) fun d => bnd (fmtW d) fun y => bnd (gd ((acc ++ y).length ≤ sizeLine) ()) fun _ => k (acc ++ y) ρ
def eJoined (k : Str → Rho → Wp Str) : Rho → Wp PyData := fun ρ => bnd (k Str.empty ρ) fun y => ret (.str y)
section
variable {X : Cx} {es : List Expr} {k : Str → Rho → Wp Str}
theorem j_nil : J X [] jNil := ⟨⟨[], .nil, fun acc σ H Q ⟨fr, O, ρ, A, q⟩ => q H A.refl⟩, fun _ _ => mono_ret _⟩
theorem j_str {x : Str} {j} {pos : Pos} (r : J X es k) : J X (.Constant (.str x) j pos :: es) (jStr x k) := by
  obtain ⟨ts, h1, h2⟩ := r.ex
  refine ⟨⟨_, .cons pe_str h1, fun acc σ H Q ⟨fr, O, ρ, A, q⟩ => ?_⟩, fun acc ρ => mono_bnd (mono_gd _) fun _ => r.mo _ _⟩
  exact ⟨x, rfl, q.1, h2 _ σ H Q ⟨fr, O, ρ, A, q.2⟩⟩
theorem j_val {e : Expr} {f : Rho → Wp PyData} {pos : Pos} (h : E X false e f) (r : J X es k) : J X (.FormattedValue e (-1) none pos :: es) (jVal f k) := by
  obtain ⟨ts, h1, h2⟩ := r.ex
  refine ⟨⟨_, .cons (pe_fmt h.pe) h1, fun acc σ H Q ⟨fr, O, ρ, A, q⟩ => ?_⟩, fun acc ρ => mono_bnd (h.mo ρ) fun _ => mono_bnd (mono_fmtW _) fun _ => mono_bnd (mono_gd _) fun _ => r.mo _ _⟩
  refine ⟨fr, O, ρ, A, h.mo ρ _ _ (fun d k1 v H1 e1 g1 => ?_) q⟩
  have A1 := A.ex e1
  have go : ∀ y : Str, (acc ++ y).length ≤ sizeLine ∧ k (acc ++ y) ρ (fun out => ∀ H', Ex fr.pl H H' → Q out H') → ∃ z : Str, V.str y = V.str z ∧ (acc ++ z).length ≤ sizeLine ∧ tJs ts (acc ++ z) σ H1 Q := fun y ⟨c, k2⟩ =>
    ⟨y, rfl, c, h2 _ σ H1 Q ⟨fr, O, ρ, A1, r.mo _ _ _ _ (fun out k3 H2 e2 => k3 H2 (e1.trans e2)) k2⟩⟩
  cases d with
  | str y => cases (topd_of g1).str; exact .inl ⟨y, rfl, k1.1, go y k1.2⟩
  | int i => cases (topd_of g1).int; exact .inr ⟨i, rfl, k1.1, go _ k1.2⟩
  | none => exact k1.elim
  | bool _ => exact k1.elim
  | list _ => exact k1.elim
  | tuple _ => exact k1.elim
  | dict _ => exact k1.elim
theorem e_joined {g : Bool} {v1 v2 : Expr} {rest : List Expr} {pos : Pos} (h : J X (v1 :: v2 :: rest) k) : E X g (.JoinedStr (v1 :: v2 :: rest) pos) (eJoined k) := by
  obtain ⟨ts, h1, h2⟩ := h.ex
  refine E.tr ⟨pe_imp (pe_joined h1) fun σ H Q ⟨fr, O, ρ, A, q⟩ => ?_, fun ρ => mono_bnd (h.mo _ _) fun _ => mono_ret _⟩
  exact h2 _ σ H _ ⟨fr, O, ρ, A, h.mo _ _ _ _ (fun y k1 H1 e1 => k1 (.str y) H1 e1 (.str y)) q⟩
end
def strW : PyData → Wp Str
  | .str y => ret y
  | _ => bad
def strsW : List PyData → Wp (List Str)
  | [] => ret []
  | d :: ds => bnd (strW d) fun y => bnd (strsW ds) fun ys => ret (y :: ys)
theorem mono_strW : ∀ d, Mono (strW d)
  | .str _ => mono_ret _
  | .none | .bool _ | .int _ | .list _ | .tuple _ | .dict _ => mono_bad
theorem mono_strsW : ∀ ds, Mono (strsW ds)
  | [] => mono_ret _
  | _ :: ds => mono_bnd (mono_strW _) fun _ => mono_bnd (mono_strsW ds) fun _ => mono_ret _
theorem strW_ok {d : PyData} {P : Str → Prop} (q : strW d P) : ∃ y, d = .str y ∧ P y := by
  cases d <;> first | exact ⟨_, rfl, q⟩ | exact q.elim
theorem strsW_ok {U : Addr → Prop} {H : Hp} : ∀ {vs : List V} {ds : List PyData} {P : List Str → Prop}, Dats U H vs ds → strsW ds P → ∃ ys : List Str, vs = ys.map V.str ∧ P ys
  | _, _, _, .nil, q => ⟨[], rfl, q⟩
  | _, _, _, .cons a r, q => by
    obtain ⟨y, rfl, q⟩ := strW_ok q
    obtain ⟨ys, e, q⟩ := strsW_ok r (show strsW _ _ from q)
    cases a
    exact ⟨y :: ys, by rw [e]; rfl, q⟩
def eJoin (f k : Rho → Wp PyData) : Rho → Wp PyData := fun ρ => bnd (f ρ) fun d => bnd (strW d) fun a => bnd (k ρ) fun e => bnd (items e) fun ds => bnd (strsW ds) fun ys => gd ((ys.map (·.length)).sum + ys.length * a.length ≤ 16777216) (.str (Txt.join a ys))
section
variable {X : Cx} {o e : Expr} {f k : Rho → Wp PyData} {apos pos : Pos}
theorem e_join {g : Bool} (ho : E X false o f) (he : E X true e k) (hs : starEach [e] X.env = [(false, eval e X.env)] := by rfl) (hbase : attributeBase o "join" X.env (eval o X.env) = eval o X.env := by rfl) (hline : (apos.endLine == pos.line) = true := by rfl) : E X g (.Call (.Attribute o "join" apos) [e] [] pos) (eJoin f k) := by
  refine E.tr ⟨pe_imp (pe_join ho.pe he.pe hs hbase hline) fun σ H Q ⟨fr, O, ρ, A, q⟩ => ?_, fun ρ => mono_bnd (ho.mo ρ) fun _ => mono_bnd (mono_strW _) fun _ => mono_bnd (he.mo ρ) fun _ => mono_bnd (mono_items _) fun _ => mono_bnd (mono_strsW _) fun _ => mono_gd _⟩
  refine ⟨fr, O, ρ, A, ho.mo ρ _ _ (fun d k1 v H1 e1 g1 => ?_) q⟩
  obtain ⟨a, rfl, k1⟩ := strW_ok k1
  cases (topd_of g1).str
  have A1 := A.ex e1
  refine ⟨⟨a, rfl⟩, fr, O, ρ, A1, he.mo ρ _ _ (fun c k2 u H2 e2 g2 => ?_) k1⟩
  have g2 : Dat (Wd fr O) H2 u c := g2
  cases g2 with
  | tup t1 t2 =>
    obtain ⟨ys, e, k3⟩ := strsW_ok t2 (show strsW _ _ from k2)
    subst e
    exact ⟨a, _, ys, rfl, rfl, .inr (SqT.of t1), k3.1, k3.2 _ H2 (e1.trans e2) (.str _)⟩
  | lst n t1 t2 =>
    obtain ⟨ys, e, k3⟩ := strsW_ok t2 (show strsW _ _ from k2)
    subst e
    exact ⟨a, _, ys, rfl, rfl, .inl (SqL.of t1), k3.1, k3.2 _ H2 (e1.trans e2) (.str _)⟩
  | non => exact k2.elim
  | bl _ => exact k2.elim
  | int _ => exact k2.elim
  | str _ => exact k2.elim
  | dic _ _ _ => exact k2.elim
  | dit _ _ _ => exact k2.elim
/-- xs.index(y) of a list -/
def indexW : PyData → PyData → Wp PyData
  | .list ds, d => fun Q => ∃ (j : Nat) (z : PyData), (SeqAt.shaped (.list ds) = true ∧ SeqAt.shaped d = true ∧ ds[j]? = some z ∧ PyData.eqv z d = true ∧ ∀ (m : Nat) (z' : PyData), m < j → ds[m]? = some z' → PyData.eqv z' d = false) ∧ Q (.int (j : Nat))
  | _, _ => bad
theorem mono_indexW (d e : PyData) : Mono (indexW d e) := by
  unfold indexW
  split
  · exact fun P P' h ⟨j, z, c, q⟩ => ⟨j, z, c, h _ q⟩
  · exact mono_bad
def isLst : PyData → Wp Unit
  | .list _ => ret ()
  | _ => bad
theorem mono_isLst (d : PyData) : Mono (isLst d) := by cases d <;> first | exact mono_ret _ | exact mono_bad
def eIndex (f k : Rho → Wp PyData) : Rho → Wp PyData := fun ρ => bnd (f ρ) fun d => bnd (isLst d) fun _ => bnd (k ρ) fun e => indexW d e
theorem e_index {g : Bool} (hu : X.A.units + 65 < cLine) (ho : E X false o f) (he : E X true e k) (hbase : attributeBase o "index" X.env (eval o X.env) = eval o X.env := by rfl)
    (hfew : ((backTo pos (starEach [e] X.env)).all (fun x => !x.1) && (backToKw pos (keywordEach [] X.env)).all (fun x => x.1.isSome) && decide (([e] : List Expr).length + ([] : List Keyword).length + (if ([] : List Keyword).isEmpty then 0 else 1) < 30)) = true := by rfl)
    (hline : (apos.endLine == pos.line) = true := by rfl) (hs : starEach [e] X.env = (false, eval e X.env) :: starEach [] X.env := by rfl) (hpl : (backTo pos (starEach [] X.env)).any (·.1) = false := by rfl) : E X g (.Call (.Attribute o "index" apos) [e] [] pos) (eIndex f k) := by
  refine E.tr ⟨pe_imp (pe_bm PySem.F.plainAttrs_list PySem.F.slot_list_index PySem.F.type_list_index (mt_indexD hu) ho.pe (pa_cons he.pe pa_nil hs) hbase hfew hline hs hpl) fun σ H Q ⟨fr, O, ρ, A, q⟩ => ?_, fun ρ => mono_bnd (ho.mo ρ) fun _ => mono_bnd (mono_isLst _) fun _ => mono_bnd (he.mo ρ) fun _ => mono_indexW _ _⟩
  refine ⟨fr, O, ρ, A, ho.mo ρ _ _ (fun d k1 v H1 e1 g1 => ?_) q⟩
  have A1 := A.ex e1
  cases d with
  | list ds =>
    obtain ⟨p, vs, rfl, a, b⟩ := (topd_of g1).list
    refine ⟨.inl ⟨rfl, _, SqL.of a⟩, fr, O, ρ, A1, he.mo ρ _ _ (fun c k2 u H2 e2 g2 => ?_) k1⟩
    obtain ⟨j, z, ⟨c1, c2, c3, c4, c5⟩, k3⟩ := k2
    have t : TopD fr.U (Wd fr O) H2 (.ref p) (.list ds) := A1.gd (g := false) e2 g1
    have t2 : TopD fr.U (Wd fr O) H2 u c := .of g2
    exact ⟨p, u, c, ds, j, z, rfl, rfl, t.dp (SeqAt.canLay_of_shaped c1), t2.dp (SeqAt.canLay_of_shaped c2), c1, c2, c3, c4, c5, k3 _ H2 (e1.trans e2) (.int _)⟩
  | none => exact k1.elim
  | bool _ => exact k1.elim
  | int _ => exact k1.elim
  | str _ => exact k1.elim
  | tuple _ => exact k1.elim
  | dict _ => exact k1.elim
end
end Lq
namespace Lq
open PySem L2
abbrev s_p_write_term : Stmt := Cf.top 1
theorem sc_p_write_term : FnScope ["term", "part"] ["term"] (defScope s_p_write_term) := ⟨rfl, rfl, rfl, by decide +kernel, rfl, by decide +kernel, by decide +kernel⟩
def b_p_write_term (c_p_write_term : List PyData → Wp PyData) : Rho → Wp Out :=
  (sSeq (sIf (tT (eTy false "int" (eVar 0))) (sRet (eJoined (jStr (Str.ofString "x") (jVal (eVar 0) jNil)))) sNil)
  (sSeq (sIf (tT (eOp eqQ (eCall lenQ (aCons (eVar 0) aNil)) (eC (.int 1)))) (sRet (eOp ixQ (eVar 0) (eC (.int 0)))) sNil)
  (sRet (eOp addQ (eOp addQ (eOp addQ (eOp ixQ (eVar 0) (eC (.int 0))) (eC (.str (Str.ofString "(")))) (eJoin (eC (.str (Str.ofString ","))) (eL (fLc (iSeq (eSl (eVar 0) (aPart (eC (.int 1))) noPart)) (gN 1) tAll (eFn c_p_write_term (aCons (eVar 1) aNil)) [1])))) (eC (.str (Str.ofString ")")))))))
section
variable {P : Program} {w : World} {K : PySem.W.Frag} {mg : Str → Option Value} {base : Heap}
theorem q_p_write_term1 {f : Addr} {fd : FuncData} {lv j_p_write_term : Nat} {c_p_write_term : List PyData → Wp PyData} (F : Fun K "write_term" "write_term" s_p_write_term f fd) (B : Cf.Blt mg) (C_p_write_term : Cf.At P w K mg base "write_term" j_p_write_term ["term"] (spQ 1 c_p_write_term)) (L_p_write_term : j_p_write_term ≤ lv) :
    FnOk P w K mg base CX0 (lv + 1) f fd ["term"] (spQ 1 (runQ 2 (b_p_write_term c_p_write_term))) := by
  have nd := sc_p_write_term.nd
  exact fn_q F sc_p_write_term rfl fun cdv A outer s H E hr =>
  (ss_cons (s_if (t_ty (e_var 0).tr B.type B.int) (ss_one (s_ret (e_joined (j_str (j_val (e_var 0).tr j_nil))))) ss_nil)
  (ss_cons (s_if (t_cmp (q_eq hr.units) (e_callB q_len B.len (a_cons (e_var 0).tr a_nil)) e_int) (ss_one (s_ret (e_ix q_ix (e_var 0).tr e_int))) ss_nil)
  (ss_one (s_ret (e_op q_add (e_op q_add (e_op q_add (e_ix q_ix (e_var 0).tr e_int) e_str) (e_join e_str (f_lc rfl nd (own := [("part", 1)]) (i_seq (e_sl (e_var 0).tr (p_some e_int) p_none)).weak (blkOk_by (N := ["term", "part"]) (sc := defScope s_p_write_term) (by decide +kernel)) (fun _ _ _ _ _ => (g_name 1 nd)) (fun _ _ _ _ _ => ts_nil) (fun _ _ _ _ _ => (e_call C_p_write_term (hr.mono L_p_write_term) (a_cons (e_var 1) a_nil)))).toE)) e_str)))))
def m_p_write_term : Nat → List PyData → Wp PyData
  | 0 => fun _ => bad
  | n + 1 => runQ 2 (b_p_write_term (m_p_write_term  n))
theorem q_p_write_term {f : Addr} {fd : FuncData} {lv  : Nat} (F : Fun K "write_term" "write_term" s_p_write_term f fd) (B : Cf.Blt mg) (bR : Binds K fd ["term"] []) (mR : mg "write_term" = some (.ref f)) :
    ∀ n : Nat, FnOk P w K mg base CX0 (lv + n) f fd ["term"] (spQ 1 (m_p_write_term  n))
  | 0 => Cf.none_left fun vs H Q E h => by
    obtain ⟨ds, U, _, _, _, R, h, _⟩ := h
    exact h
  | n + 1 => q_p_write_term1 (lv := lv + n) F B ⟨f, fd, q_p_write_term F B bR mR   n, bR, F.kp, mR⟩ (Nat.le_refl _) 
end
end Lq
namespace Lq
open PySem L2
def M_p_write_term : List PyData → Wp PyData := m_p_write_term  12
end Lq
namespace Lq
open PySem L2
abbrev s_p_joined : Stmt := Cf.top 4
theorem sc_p_joined : FnScope ["p", "q", "names", "one", "two", "0names"] ["p", "q", "names"] (defScope s_p_joined) := ⟨rfl, rfl, rfl, by decide +kernel, rfl, by decide +kernel, by decide +kernel⟩
def b_p_joined (c_p_joined : List PyData → List Gh → Wp (PyData × List Gh)) (c_p_write_term : List PyData → Wp PyData) : Rho → Wp Out :=
  (sSeq (sIf (tBoth (tT (eTy false "tuple" (eVar 0))) (tBoth (tT (eTy false "tuple" (eVar 1))) (tT (eOp eqQ (eOp ixQ (eVar 0) (eC (.int 0))) (eOp ixQ (eVar 1) (eC (.int 0))))))) (sRetZ (zOp addQ (zPure (eTup (aCons (eOp ixQ (eVar 0) (eC (.int 0))) aNil))) (zCall tupleQ (zCons (zLc (iCall zipW (aCons (eSl (eVar 0) (aPart (eC (.int 1))) noPart) (aCons (eSl (eVar 1) (aPart (eC (.int 1))) noPart) aNil))) (gT (gsCons (gN 3) (gsCons (gN 4) gsNil))) tAll (zFn c_p_joined [5] (zCons (zPure (eVar 3)) (zCons (zPure (eVar 4)) (zPtrs [(2, 5)])))) [3, 4]) zNil)))) sNil)
  (sRetZ (zSetd 2 5 (eTup (aCons (eFn c_p_write_term (aCons (eVar 0) aNil)) (aCons (eFn c_p_write_term (aCons (eVar 1) aNil)) aNil))) (eCall lenQ (aCons (eGh 2 5) aNil)))))
section
variable {P : Program} {w : World} {K : PySem.W.Frag} {mg : Str → Option Value} {base : Heap}
theorem q_p_joined1 {f : Addr} {fd : FuncData} {lv j_p_joined j_p_write_term : Nat} {c_p_joined : List PyData → List Gh → Wp (PyData × List Gh)} {c_p_write_term : List PyData → Wp PyData} (F : Fun K "joined" "joined" s_p_joined f fd) (B : Cf.Blt mg) (C_p_joined : Cf.At P w K mg base "joined" j_p_joined ["p", "q", "names"] (spZ 2 1 c_p_joined)) (L_p_joined : j_p_joined ≤ lv) (C_p_write_term : Cf.At P w K mg base "write_term" j_p_write_term ["term"] (spQ 1 c_p_write_term)) (L_p_write_term : j_p_write_term ≤ lv) :
    FnOk P w K mg base CX0 (lv + 1) f fd ["p", "q", "names"] (spZ 2 1 (runZ 6 (b_p_joined c_p_joined c_p_write_term))) := by
  have nd := sc_p_joined.nd
  exact fn_z F sc_p_joined rfl (by decide) fun cdv A outer s H E hr =>
  (ss_cons (s_if (TW.t (tw_and (t_ty (e_var 0).tr B.type B.tuple) (tw_and (t_ty (e_var 1).tr B.type B.tuple) (tw_and1 (t_cmp (q_eq hr.units) (e_ix q_ix (e_var 0).tr e_int) (e_ix q_ix (e_var 1).tr e_int)))))) (ss_one (s_retZ (ez_op q_add (ez_of (e_tup (a_cons (e_ix q_ix (e_var 0).tr e_int) a_nil))) (ez_callTy q_tuple B.tuple (az_cons (ez_lc rfl nd (own := [("one", 3), ("two", 4)]) (i_zip B.zip (a_cons (e_sl (e_var 0).tr (p_some e_int) p_none) (a_cons (e_sl (e_var 1).tr (p_some e_int) p_none) a_nil))) (blkOk_by (N := ["p", "q", "names", "one", "two", "0names"]) (sc := defScope s_p_joined) (by decide +kernel)) (fun _ _ _ _ _ => (g_tup rfl (gs_cons (g_name 3 nd) (gs_cons (g_name 4 nd) gs_nil)))) (fun _ _ _ _ _ => ts_nil) (fun _ _ _ _ _ => (ez_call C_p_joined (hr.mono L_p_joined) (ag_cons (ez_of (e_var 3)) (ag_cons (ez_of (e_var 4)) (ag_of (ap_cons 2 5 ap_nil))))))) az_nil))))) ss_nil)
  (ss_one (s_retZ (ez_setd 2 5 (hu_of hr) (e_tup (a_cons (e_call C_p_write_term (hr.mono L_p_write_term) (a_cons (e_var 0) a_nil)) (a_cons (e_call C_p_write_term (hr.mono L_p_write_term) (a_cons (e_var 1) a_nil)) a_nil))) (e_callB q_len B.len (a_cons (e_gh 2 5) a_nil))))))
def m_p_joined (c_p_write_term : List PyData → Wp PyData) : Nat → List PyData → List Gh → Wp (PyData × List Gh)
  | 0 => fun _ _ => bad
  | n + 1 => runZ 6 (b_p_joined (m_p_joined c_p_write_term n) c_p_write_term)
theorem q_p_joined {f : Addr} {fd : FuncData} {lv j_p_write_term : Nat} {c_p_write_term : List PyData → Wp PyData} (F : Fun K "joined" "joined" s_p_joined f fd) (B : Cf.Blt mg) (bR : Binds K fd ["p", "q", "names"] []) (mR : mg "joined" = some (.ref f)) (C_p_write_term : Cf.At P w K mg base "write_term" j_p_write_term ["term"] (spQ 1 c_p_write_term)) (L_p_write_term : j_p_write_term ≤ lv) :
    ∀ n : Nat, FnOk P w K mg base CX0 (lv + n) f fd ["p", "q", "names"] (spZ 2 1 (m_p_joined c_p_write_term n))
  | 0 => Cf.none_left fun vs H Q E h => by
    obtain ⟨ds, U, us, ps, gs, _, _, _, _, _, _, _, _, R, h, _⟩ := h
    exact h
  | n + 1 => q_p_joined1 (lv := lv + n) F B ⟨f, fd, q_p_joined F B bR mR C_p_write_term L_p_write_term  n, bR, F.kp, mR⟩ (Nat.le_refl _) C_p_write_term (Nat.le_trans L_p_write_term (Nat.le_add_right _ _)) 
end
end Lq
namespace Lq
open PySem L2
def M_p_joined : List PyData → List Gh → Wp (PyData × List Gh) := m_p_joined (M_p_write_term) 12
end Lq
namespace Lq
open PySem L2
abbrev s_p_join : Stmt := Cf.top 3
theorem sc_p_join : FnScope ["p", "q"] ["p", "q"] (defScope s_p_join) := ⟨rfl, rfl, rfl, by decide +kernel, rfl, by decide +kernel, by decide +kernel⟩
def b_p_join (c_p_joined : List PyData → List Gh → Wp (PyData × List Gh)) : Rho → Wp Out :=
  (sRet (eFnN c_p_joined (.dit []) (aCons (eVar 0) (aCons (eVar 1) aNil))))
section
variable {P : Program} {w : World} {K : PySem.W.Frag} {mg : Str → Option Value} {base : Heap}
theorem q_p_join {f : Addr} {fd : FuncData} {lv j_p_joined : Nat} {c_p_joined : List PyData → List Gh → Wp (PyData × List Gh)} (F : Fun K "join" "join" s_p_join f fd) (B : Cf.Blt mg) (C_p_joined : Cf.At P w K mg base "joined" j_p_joined ["p", "q", "names"] (spZ 2 1 c_p_joined)) (L_p_joined : j_p_joined ≤ lv) :
    FnOk P w K mg base CX0 (lv + 1) f fd ["p", "q"] (spQ 2 (runQ 2 (b_p_join c_p_joined))) := by
  have nd := sc_p_join.nd
  exact fn_q F sc_p_join rfl fun cdv A outer s H E hr =>
  (ss_one (s_ret (e_callN C_p_joined (hr.mono L_p_joined) (an_cons (e_var 0) (an_cons (e_var 1) an_dit)))))
end
end Lq
namespace Lq
open PySem L2
def M_p_join : List PyData → Wp PyData := runQ 2 (b_p_join (M_p_joined))
end Lq
namespace Lq
open PySem L2
abbrev s_l_same : Stmt := Cf.top 6
theorem sc_l_same : FnScope ["actual", "due", "k"] ["actual", "due"] (defScope s_l_same) := ⟨rfl, rfl, rfl, by decide +kernel, rfl, by decide +kernel, by decide +kernel⟩
def b_l_same (c_l_same : List PyData → Wp PyData) : Rho → Wp Out :=
  (sSeq (sIf (tEither (tTru (eIsi "tuple" (eVar 1))) (tTru (eIsi "list" (eVar 1)))) (sSeq (sIf (tEither (tT (eOp neQ (eIsi "tuple" (eVar 1)) (eIsi "tuple" (eVar 0)))) (tEither (tT (eOp neQ (eIsi "list" (eVar 1)) (eIsi "list" (eVar 0)))) (tT (eOp neQ (eCall lenQ (aCons (eVar 0) aNil)) (eCall lenQ (aCons (eVar 1) aNil)))))) (sRet (eC (.bool false))) sNil)
  (sRet (eOp eqQ (eCall lenQ (aCons (eL (fLc (iCall rng1 (aCons (eCall lenQ (aCons (eVar 1) aNil)) aNil)) (gN 2) (tNo (tTru (eFn c_l_same (aCons (eOp ixQ (eVar 0) (eVar 2)) (aCons (eOp ixQ (eVar 1) (eVar 2)) aNil))))) (eVar 2) [2])) aNil)) (eC (.int 0))))) sNil)
  (sSeq (sIf (tT (eOp isQ (eVar 1) (eC .none))) (sRet (eOp isQ (eVar 0) (eC .none))) sNil)
  (sSeq (sIf (tEither (tTru (eIsi "bool" (eVar 1))) (tTru (eIsi "bool" (eVar 0)))) (sRet (eBoth (eIsi "bool" (eVar 1)) (eBoth (eIsi "bool" (eVar 0)) (eOp eqQ (eVar 0) (eVar 1))))) sNil)
  (sSeq (sIf (tTru (eIsi "int" (eVar 1))) (sRet (eBoth (eIsi "int" (eVar 0)) (eOp eqQ (eVar 0) (eVar 1)))) sNil)
  (sRet (eBoth (eIsi "str" (eVar 0)) (eOp eqQ (eVar 0) (eVar 1))))))))
section
variable {P : Program} {w : World} {K : PySem.W.Frag} {mg : Str → Option Value} {base : Heap}
theorem q_l_same1 {f : Addr} {fd : FuncData} {lv j_l_same : Nat} {c_l_same : List PyData → Wp PyData} (F : Fun K "_law_same" "_law_same" s_l_same f fd) (B : Cf.Blt mg) (C_l_same : Cf.At P w K mg base "_law_same" j_l_same ["actual", "due"] (spQ 2 c_l_same)) (L_l_same : j_l_same ≤ lv) :
    FnOk P w K mg base CX0 (lv + 1) f fd ["actual", "due"] (spQ 2 (runQ 3 (b_l_same c_l_same))) := by
  have nd := sc_l_same.nd
  exact fn_q F sc_l_same rfl fun cdv A outer s H E hr =>
  (ss_cons (s_if (TW.t (tw_or (t_tru (e_isi (e_var 1).tr B.isinstance B.tuple)) (tw_or1 (t_tru (e_isi (e_var 1).tr B.isinstance B.list))))) (ss_cons (s_if (TW.t (tw_or (t_cmp (q_ne hr.units) (e_isi (e_var 1).tr B.isinstance B.tuple) (e_isi (e_var 0).tr B.isinstance B.tuple)) (tw_or (t_cmp (q_ne hr.units) (e_isi (e_var 1).tr B.isinstance B.list) (e_isi (e_var 0).tr B.isinstance B.list)) (tw_or1 (t_cmp (q_ne hr.units) (e_callB q_len B.len (a_cons (e_var 0).tr a_nil)) (e_callB q_len B.len (a_cons (e_var 1).tr a_nil))))))) (ss_one (s_ret e_bl)) ss_nil)
  (ss_one (s_ret (e_cmp (q_eq hr.units) (e_callB q_len B.len (a_cons (f_lc rfl nd (own := [("k", 2)]) (i_range1 B.range (a_cons (e_callB q_len B.len (a_cons (e_var 1).tr a_nil)) a_nil)) (blkOk_by (N := ["actual", "due", "k"]) (sc := defScope s_l_same) (by decide +kernel)) (fun _ _ _ _ _ => (g_name 2 nd)) (fun _ _ _ _ _ => ts_one (t_not (t_tru (e_call C_l_same (hr.mono L_l_same) (a_cons (e_ix q_ix (e_var 0).tr (e_var 2).tr) (a_cons (e_ix q_ix (e_var 1).tr (e_var 2).tr) a_nil)))))) (fun _ _ _ _ _ => (e_var 2))).toE a_nil)) e_int)))) ss_nil)
  (ss_cons (s_if (t_cmp q_is (e_var 1).tr e_non) (ss_one (s_ret (e_cmp q_is (e_var 0).tr e_non))) ss_nil)
  (ss_cons (s_if (TW.t (tw_or (t_tru (e_isi (e_var 1).tr B.isinstance B.bool)) (tw_or1 (t_tru (e_isi (e_var 0).tr B.isinstance B.bool))))) (ss_one (s_ret (e_and (e_isi (e_var 1).tr B.isinstance B.bool) (e_and (e_isi (e_var 0).tr B.isinstance B.bool) (e_one (e_cmp (q_eq hr.units) (e_var 0).tr (e_var 1).tr)))))) ss_nil)
  (ss_cons (s_if (t_tru (e_isi (e_var 1).tr B.isinstance B.int)) (ss_one (s_ret (e_and (e_isi (e_var 0).tr B.isinstance B.int) (e_one (e_cmp (q_eq hr.units) (e_var 0).tr (e_var 1).tr))))) ss_nil)
  (ss_one (s_ret (e_and (e_isi (e_var 0).tr B.isinstance B.str) (e_one (e_cmp (q_eq hr.units) (e_var 0).tr (e_var 1).tr)))))))))
def m_l_same : Nat → List PyData → Wp PyData
  | 0 => fun _ => bad
  | n + 1 => runQ 3 (b_l_same (m_l_same  n))
theorem q_l_same {f : Addr} {fd : FuncData} {lv  : Nat} (F : Fun K "_law_same" "_law_same" s_l_same f fd) (B : Cf.Blt mg) (bR : Binds K fd ["actual", "due"] []) (mR : mg "_law_same" = some (.ref f)) :
    ∀ n : Nat, FnOk P w K mg base CX0 (lv + n) f fd ["actual", "due"] (spQ 2 (m_l_same  n))
  | 0 => Cf.none_left fun vs H Q E h => by
    obtain ⟨ds, U, _, _, _, R, h, _⟩ := h
    exact h
  | n + 1 => q_l_same1 (lv := lv + n) F B ⟨f, fd, q_l_same F B bR mR   n, bR, F.kp, mR⟩ (Nat.le_refl _) 
end
end Lq
namespace Lq
open PySem L2
def M_l_same : List PyData → Wp PyData := m_l_same  12
end Lq
namespace Lq
open PySem L2
abbrev s_l_is_integer : Stmt := Cf.top 7
theorem sc_l_is_integer : FnScope ["actual"] ["actual"] (defScope s_l_is_integer) := ⟨rfl, rfl, rfl, by decide +kernel, rfl, by decide +kernel, by decide +kernel⟩
def b_l_is_integer : Rho → Wp Out :=
  (sRet (eBoth (eIsi "int" (eVar 0)) (eNo (eIsi "bool" (eVar 0)))))
section
variable {P : Program} {w : World} {K : PySem.W.Frag} {mg : Str → Option Value} {base : Heap}
theorem q_l_is_integer {f : Addr} {fd : FuncData} {lv  : Nat} (F : Fun K "_law_is_integer" "_law_is_integer" s_l_is_integer f fd) (B : Cf.Blt mg) :
    FnOk P w K mg base CX0 (lv + 1) f fd ["actual"] (spQ 1 (runQ 1 (b_l_is_integer ))) := by
  have nd := sc_l_is_integer.nd
  exact fn_q F sc_l_is_integer rfl fun cdv A outer s H E hr =>
  (ss_one (s_ret (e_and (e_isi (e_var 0).tr B.isinstance B.int) (e_one (e_not (e_isi (e_var 0).tr B.isinstance B.bool))))))
end
end Lq
namespace Lq
open PySem L2
def M_l_is_integer : List PyData → Wp PyData := runQ 1 (b_l_is_integer )
end Lq
namespace Lq
open PySem L2
abbrev s_l_pick : Stmt := Cf.top 11
theorem sc_l_pick : FnScope ["pool", "items"] ["pool", "items"] (defScope s_l_pick) := ⟨rfl, rfl, rfl, by decide +kernel, rfl, by decide +kernel, by decide +kernel⟩
def b_l_pick (c_l_draw : List PyData → Wp PyData) : Rho → Wp Out :=
  (sRet (eOp ixQ (eVar 1) (eFnP 0 c_l_draw (aCons (eCall lenQ (aCons (eVar 1) aNil)) aNil))))
section
variable {P : Program} {w : World} {K : PySem.W.Frag} {mg : Str → Option Value} {base : Heap}
theorem q_l_pick {f : Addr} {fd : FuncData} {lv j_l_draw : Nat} {c_l_draw : List PyData → Wp PyData} (F : Fun K "_law_pick" "_law_pick" s_l_pick f fd) (B : Cf.Blt mg) (C_l_draw : Cf.At P w K mg base "_law_draw" j_l_draw ["pool", "many"] (spQP 1 c_l_draw)) (L_l_draw : j_l_draw ≤ lv) :
    FnOk P w K mg base CX0 (lv + 1) f fd ["pool", "items"] (spQP 1 (runQP 2 (b_l_pick c_l_draw))) := by
  have nd := sc_l_pick.nd
  exact fn_qp F sc_l_pick rfl fun cdv A outer s H E hr =>
  (ss_one (s_ret (e_ix q_ix (e_var 1).tr (e_callP 0 C_l_draw (hr.mono L_l_draw) (a_cons (e_callB q_len B.len (a_cons (e_var 1).tr a_nil)) a_nil)))))
end
end Lq
namespace Lq
open PySem L2
def M_l_pick : List PyData → Wp PyData := runQP 2 (b_l_pick (mDraw))
end Lq
namespace Lq
open PySem L2
abbrev s_l_occurrences : Stmt := Cf.top 16
theorem sc_l_occurrences : FnScope ["term", "row", "part"] ["term"] (defScope s_l_occurrences) := ⟨rfl, rfl, rfl, by decide +kernel, rfl, by decide +kernel, by decide +kernel⟩
def b_l_occurrences (c_l_is_integer : List PyData → Wp PyData) (c_l_occurrences : List PyData → Wp PyData) : Rho → Wp Out :=
  (sSeq (sIf (tTru (eFn c_l_is_integer (aCons (eVar 0) aNil))) (sRet (eL (lLst (aCons (eVar 0) aNil)))) sNil)
  (sSeq (sSet (gN 1) (eL (lLst aNil)))
  (sSeq (sFor (iSeq (eSl (eVar 0) (aPart (eC (.int 1))) noPart)) (gN 2) (sSet (gN 1) (eOp addQ (eVar 1) (eFn c_l_occurrences (aCons (eVar 2) aNil)))))
  (sRet (eVar 1)))))
section
variable {P : Program} {w : World} {K : PySem.W.Frag} {mg : Str → Option Value} {base : Heap}
theorem q_l_occurrences1 {f : Addr} {fd : FuncData} {lv j_l_is_integer j_l_occurrences : Nat} {c_l_is_integer : List PyData → Wp PyData} {c_l_occurrences : List PyData → Wp PyData} (F : Fun K "_law_occurrences" "_law_occurrences" s_l_occurrences f fd) (B : Cf.Blt mg) (C_l_is_integer : Cf.At P w K mg base "_law_is_integer" j_l_is_integer ["actual"] (spQ 1 c_l_is_integer)) (L_l_is_integer : j_l_is_integer ≤ lv) (C_l_occurrences : Cf.At P w K mg base "_law_occurrences" j_l_occurrences ["term"] (spQ 1 c_l_occurrences)) (L_l_occurrences : j_l_occurrences ≤ lv) :
    FnOk P w K mg base CX0 (lv + 1) f fd ["term"] (spQ 1 (runQ 3 (b_l_occurrences c_l_is_integer c_l_occurrences))) := by
  have nd := sc_l_occurrences.nd
  exact fn_q F sc_l_occurrences rfl fun cdv A outer s H E hr =>
  (ss_cons (s_if (t_tru (e_call C_l_is_integer (hr.mono L_l_is_integer) (a_cons (e_var 0) a_nil))) (ss_one (s_ret (f_lst (a_cons (e_var 0) a_nil)).toE)) ss_nil)
  (ss_cons (s_asg (f_lst a_nil).toE (g_name 1 nd))
  (ss_cons (s_for PassesOwn.never rfl (i_seq (e_sl (e_var 0).tr (p_some e_int) p_none)) (g_name 2 nd) (ss_one (s_asg (e_op q_add (e_var 1).tr (e_call C_l_occurrences (hr.mono L_l_occurrences) (a_cons (e_var 2) a_nil))) (g_name 1 nd))))
  (ss_one (s_ret (e_var 1).tr)))))
def m_l_occurrences (c_l_is_integer : List PyData → Wp PyData) : Nat → List PyData → Wp PyData
  | 0 => fun _ => bad
  | n + 1 => runQ 3 (b_l_occurrences c_l_is_integer (m_l_occurrences c_l_is_integer n))
theorem q_l_occurrences {f : Addr} {fd : FuncData} {lv j_l_is_integer : Nat} {c_l_is_integer : List PyData → Wp PyData} (F : Fun K "_law_occurrences" "_law_occurrences" s_l_occurrences f fd) (B : Cf.Blt mg) (bR : Binds K fd ["term"] []) (mR : mg "_law_occurrences" = some (.ref f)) (C_l_is_integer : Cf.At P w K mg base "_law_is_integer" j_l_is_integer ["actual"] (spQ 1 c_l_is_integer)) (L_l_is_integer : j_l_is_integer ≤ lv) :
    ∀ n : Nat, FnOk P w K mg base CX0 (lv + n) f fd ["term"] (spQ 1 (m_l_occurrences c_l_is_integer n))
  | 0 => Cf.none_left fun vs H Q E h => by
    obtain ⟨ds, U, _, _, _, R, h, _⟩ := h
    exact h
  | n + 1 => q_l_occurrences1 (lv := lv + n) F B C_l_is_integer (Nat.le_trans L_l_is_integer (Nat.le_add_right _ _)) ⟨f, fd, q_l_occurrences F B bR mR C_l_is_integer L_l_is_integer  n, bR, F.kp, mR⟩ (Nat.le_refl _) 
end
end Lq
namespace Lq
open PySem L2
def M_l_occurrences : List PyData → Wp PyData := m_l_occurrences (M_l_is_integer) 12
end Lq
namespace Lq
open PySem L2
abbrev s_l_unlike : Stmt := Cf.top 17
theorem sc_l_unlike : FnScope ["row", "seen", "item"] ["row"] (defScope s_l_unlike) := ⟨rfl, rfl, rfl, by decide +kernel, rfl, by decide +kernel, by decide +kernel⟩
def b_l_unlike : Rho → Wp Out :=
  (sSeq (sNew 1 (lLst aNil))
  (sSeq (sFor (iSeq (eVar 0)) (gN 2) (sIf (tT (eOp (inQ true) (eVar 2) (eOwn 1))) (sApp 1 (eVar 2)) sNil))
  (sRet (eOwn 1))))
section
variable {P : Program} {w : World} {K : PySem.W.Frag} {mg : Str → Option Value} {base : Heap}
theorem q_l_unlike {f : Addr} {fd : FuncData} {lv  : Nat} (F : Fun K "_law_unlike" "_law_unlike" s_l_unlike f fd) (B : Cf.Blt mg) :
    FnOk P w K mg base CX0 (lv + 1) f fd ["row"] (spQ 1 (runQ 3 (b_l_unlike ))) := by
  have nd := sc_l_unlike.nd
  exact fn_q F sc_l_unlike rfl fun cdv A outer s H E hr =>
  (ss_cons (s_new 1 (f_lst a_nil) nd)
  (ss_cons (s_for PassesOwn.never rfl (i_seq (e_var 0)) (g_name 2 nd) (ss_one (s_if (t_cmp (q_notIn (hu65 hr)) (e_var 2).tr (e_own 1)) (ss_one (s_append 1 (e_var 2))) ss_nil)))
  (ss_one (s_ret (e_own 1)))))
end
end Lq
namespace Lq
open PySem L2
def M_l_unlike : List PyData → Wp PyData := runQ 3 (b_l_unlike )
end Lq
namespace Lq
open PySem L2
abbrev s_l_numbers : Stmt := Cf.top 18
theorem sc_l_numbers : FnScope ["terms", "row", "term"] ["terms"] (defScope s_l_numbers) := ⟨rfl, rfl, rfl, by decide +kernel, rfl, by decide +kernel, by decide +kernel⟩
def b_l_numbers (c_l_occurrences : List PyData → Wp PyData) (c_l_unlike : List PyData → Wp PyData) : Rho → Wp Out :=
  (sSeq (sSet (gN 1) (eL (lLst aNil)))
  (sSeq (sFor (iSeq (eVar 0)) (gN 2) (sSet (gN 1) (eOp addQ (eVar 1) (eFn c_l_occurrences (aCons (eVar 2) aNil)))))
  (sRet (eFn c_l_unlike (aCons (eVar 1) aNil)))))
section
variable {P : Program} {w : World} {K : PySem.W.Frag} {mg : Str → Option Value} {base : Heap}
theorem q_l_numbers {f : Addr} {fd : FuncData} {lv j_l_occurrences j_l_unlike : Nat} {c_l_occurrences : List PyData → Wp PyData} {c_l_unlike : List PyData → Wp PyData} (F : Fun K "_law_numbers" "_law_numbers" s_l_numbers f fd) (B : Cf.Blt mg) (C_l_occurrences : Cf.At P w K mg base "_law_occurrences" j_l_occurrences ["term"] (spQ 1 c_l_occurrences)) (L_l_occurrences : j_l_occurrences ≤ lv) (C_l_unlike : Cf.At P w K mg base "_law_unlike" j_l_unlike ["row"] (spQ 1 c_l_unlike)) (L_l_unlike : j_l_unlike ≤ lv) :
    FnOk P w K mg base CX0 (lv + 1) f fd ["terms"] (spQ 1 (runQ 3 (b_l_numbers c_l_occurrences c_l_unlike))) := by
  have nd := sc_l_numbers.nd
  exact fn_q F sc_l_numbers rfl fun cdv A outer s H E hr =>
  (ss_cons (s_asg (f_lst a_nil).toE (g_name 1 nd))
  (ss_cons (s_for PassesOwn.never rfl (i_seq (e_var 0)) (g_name 2 nd) (ss_one (s_asg (e_op q_add (e_var 1).tr (e_call C_l_occurrences (hr.mono L_l_occurrences) (a_cons (e_var 2) a_nil))) (g_name 1 nd))))
  (ss_one (s_ret (e_call C_l_unlike (hr.mono L_l_unlike) (a_cons (e_var 1) a_nil))))))
end
end Lq
namespace Lq
open PySem L2
def M_l_numbers : List PyData → Wp PyData := runQ 3 (b_l_numbers (M_l_occurrences) (M_l_unlike))
end Lq
namespace Lq
open PySem L2
abbrev s_l_replace : Stmt := Cf.top 19
theorem sc_l_replace : FnScope ["term", "given", "part"] ["term", "given"] (defScope s_l_replace) := ⟨rfl, rfl, rfl, by decide +kernel, rfl, by decide +kernel, by decide +kernel⟩
def b_l_replace (c_l_is_integer : List PyData → Wp PyData) (c_l_replace : List PyData → Wp PyData) : Rho → Wp Out :=
  (sSeq (sIf (tTru (eFn c_l_is_integer (aCons (eVar 0) aNil))) (sRet (eIf (tT (eDin false (eVar 0) (eVar 1))) (eDget (eVar 1) (eVar 0)) (eVar 0))) sNil)
  (sRet (eOp addQ (eTup (aCons (eOp ixQ (eVar 0) (eC (.int 0))) aNil)) (eCall tupleQ (aCons (eL (fLc (iSeq (eSl (eVar 0) (aPart (eC (.int 1))) noPart)) (gN 2) tAll (eFn c_l_replace (aCons (eVar 2) (aCons (eVar 1) aNil))) [2])) aNil)))))
section
variable {P : Program} {w : World} {K : PySem.W.Frag} {mg : Str → Option Value} {base : Heap}
theorem q_l_replace1 {f : Addr} {fd : FuncData} {lv j_l_is_integer j_l_replace : Nat} {c_l_is_integer : List PyData → Wp PyData} {c_l_replace : List PyData → Wp PyData} (F : Fun K "_law_replace" "_law_replace" s_l_replace f fd) (B : Cf.Blt mg) (C_l_is_integer : Cf.At P w K mg base "_law_is_integer" j_l_is_integer ["actual"] (spQ 1 c_l_is_integer)) (L_l_is_integer : j_l_is_integer ≤ lv) (C_l_replace : Cf.At P w K mg base "_law_replace" j_l_replace ["term", "given"] (spQ 2 c_l_replace)) (L_l_replace : j_l_replace ≤ lv) :
    FnOk P w K mg base CX0 (lv + 1) f fd ["term", "given"] (spQ 2 (runQ 3 (b_l_replace c_l_is_integer c_l_replace))) := by
  have nd := sc_l_replace.nd
  exact fn_q F sc_l_replace rfl fun cdv A outer s H E hr =>
  (ss_cons (s_if (t_tru (e_call C_l_is_integer (hr.mono L_l_is_integer) (a_cons (e_var 0) a_nil))) (ss_one (s_ret (e_if (t_din (hu_of hr) (e_var 0).tr (e_var 1).tr) (e_dget (hu_of hr) (e_var 1).tr (e_var 0).tr) (e_var 0).tr))) ss_nil)
  (ss_one (s_ret (e_op q_add (e_tup (a_cons (e_ix q_ix (e_var 0).tr e_int) a_nil)) (e_callTy q_tuple B.tuple (a_cons (f_lc rfl nd (own := [("part", 2)]) (i_seq (e_sl (e_var 0).tr (p_some e_int) p_none)).weak (blkOk_by (N := ["term", "given", "part"]) (sc := defScope s_l_replace) (by decide +kernel)) (fun _ _ _ _ _ => (g_name 2 nd)) (fun _ _ _ _ _ => ts_nil) (fun _ _ _ _ _ => (e_call C_l_replace (hr.mono L_l_replace) (a_cons (e_var 2) (a_cons (e_var 1) a_nil))))).toE a_nil))))))
def m_l_replace (c_l_is_integer : List PyData → Wp PyData) : Nat → List PyData → Wp PyData
  | 0 => fun _ => bad
  | n + 1 => runQ 3 (b_l_replace c_l_is_integer (m_l_replace c_l_is_integer n))
theorem q_l_replace {f : Addr} {fd : FuncData} {lv j_l_is_integer : Nat} {c_l_is_integer : List PyData → Wp PyData} (F : Fun K "_law_replace" "_law_replace" s_l_replace f fd) (B : Cf.Blt mg) (bR : Binds K fd ["term", "given"] []) (mR : mg "_law_replace" = some (.ref f)) (C_l_is_integer : Cf.At P w K mg base "_law_is_integer" j_l_is_integer ["actual"] (spQ 1 c_l_is_integer)) (L_l_is_integer : j_l_is_integer ≤ lv) :
    ∀ n : Nat, FnOk P w K mg base CX0 (lv + n) f fd ["term", "given"] (spQ 2 (m_l_replace c_l_is_integer n))
  | 0 => Cf.none_left fun vs H Q E h => by
    obtain ⟨ds, U, _, _, _, R, h, _⟩ := h
    exact h
  | n + 1 => q_l_replace1 (lv := lv + n) F B C_l_is_integer (Nat.le_trans L_l_is_integer (Nat.le_add_right _ _)) ⟨f, fd, q_l_replace F B bR mR C_l_is_integer L_l_is_integer  n, bR, F.kp, mR⟩ (Nat.le_refl _) 
end
end Lq
namespace Lq
open PySem L2
def M_l_replace : List PyData → Wp PyData := m_l_replace (M_l_is_integer) 12
end Lq
namespace Lq
open PySem L2
abbrev s_l_renumbered : Stmt := Cf.top 20
theorem sc_l_renumbered : FnScope ["terms", "numbers", "names", "k", "term"] ["terms"] (defScope s_l_renumbered) := ⟨rfl, rfl, rfl, by decide +kernel, rfl, by decide +kernel, by decide +kernel⟩
def b_l_renumbered (c_l_numbers : List PyData → Wp PyData) (c_l_replace : List PyData → Wp PyData) : Rho → Wp Out :=
  (sSeq (sSet (gN 1) (eFn c_l_numbers (aCons (eVar 0) aNil)))
  (sSeq (sDnew 2)
  (sSeq (sFor (iCall rng1 (aCons (eCall lenQ (aCons (eVar 1) aNil)) aNil)) (gN 3) (sPut 2 (eOp ixQ (eVar 1) (eVar 3)) (eVar 3)))
  (sFrz 2 (sRet (eCall tupleQ (aCons (eL (fLc (iSeq (eVar 0)) (gN 4) tAll (eFn c_l_replace (aCons (eVar 4) (aCons (eVar 2) aNil))) [4])) aNil)))))))
section
variable {P : Program} {w : World} {K : PySem.W.Frag} {mg : Str → Option Value} {base : Heap}
theorem q_l_renumbered {f : Addr} {fd : FuncData} {lv j_l_numbers j_l_replace : Nat} {c_l_numbers : List PyData → Wp PyData} {c_l_replace : List PyData → Wp PyData} (F : Fun K "_law_renumbered" "_law_renumbered" s_l_renumbered f fd) (B : Cf.Blt mg) (C_l_numbers : Cf.At P w K mg base "_law_numbers" j_l_numbers ["terms"] (spQ 1 c_l_numbers)) (L_l_numbers : j_l_numbers ≤ lv) (C_l_replace : Cf.At P w K mg base "_law_replace" j_l_replace ["term", "given"] (spQ 2 c_l_replace)) (L_l_replace : j_l_replace ≤ lv) :
    FnOk P w K mg base CX0 (lv + 1) f fd ["terms"] (spQ 1 (runQ 5 (b_l_renumbered c_l_numbers c_l_replace))) := by
  have nd := sc_l_renumbered.nd
  exact fn_q F sc_l_renumbered rfl fun cdv A outer s H E hr =>
  (ss_cons (s_asg (e_call C_l_numbers (hr.mono L_l_numbers) (a_cons (e_var 0) a_nil)) (g_name 1 nd))
  (ss_cons (s_dnew 2 nd)
  (ss_cons (s_for PassesOwn.never rfl (i_range1 B.range (a_cons (e_callB q_len B.len (a_cons (e_var 1).tr a_nil)) a_nil)) (g_name 3 nd) (ss_one (s_put 2 (hu_of hr) (e_var 3) (e_ix q_ix (e_var 1).tr (e_var 3).tr))))
  (ss_one (s_frz 2 (s_ret (e_callTy q_tuple B.tuple (a_cons (f_lc rfl nd (own := [("term", 4)]) (i_seq (e_var 0)).weak (blkOk_by (N := ["terms", "numbers", "names", "k", "term"]) (sc := defScope s_l_renumbered) (by decide +kernel)) (fun _ _ _ _ _ => (g_name 4 nd)) (fun _ _ _ _ _ => ts_nil) (fun _ _ _ _ _ => (e_call C_l_replace (hr.mono L_l_replace) (a_cons (e_var 4) (a_cons (e_var 2) a_nil))))).toE a_nil))))))))
end
end Lq
namespace Lq
open PySem L2
def M_l_renumbered : List PyData → Wp PyData := runQ 5 (b_l_renumbered (M_l_numbers) (M_l_replace))
end Lq
namespace Lq
open PySem L2
abbrev s_l_taken : Stmt := Cf.top 21
theorem sc_l_taken : FnScope ["general", "term", "given", "k", "0given"] ["general", "term", "given"] (defScope s_l_taken) := ⟨rfl, rfl, rfl, by decide +kernel, rfl, by decide +kernel, by decide +kernel⟩
def b_l_taken (c_l_is_integer : List PyData → Wp PyData) (c_l_taken : List PyData → List Gh → Wp (PyData × List Gh)) : Rho → Wp Out :=
  (sSeq (sIf (tTru (eFn c_l_is_integer (aCons (eVar 0) aNil))) (sSeq (sIf (tT (eDin false (eVar 0) (eGh 2 4))) (sRetZ (zPure (eOp eqQ (eDget (eGh 2 4) (eVar 0)) (eVar 1)))) sNil)
  (sSeq (sGPut 2 4 (eVar 0) (eVar 1))
  (sRetZ (zPure (eC (.bool true)))))) sNil)
  (sSeq (sIf (tEither (tTru (eFn c_l_is_integer (aCons (eVar 1) aNil))) (tEither (tT (eOp neQ (eOp ixQ (eVar 0) (eC (.int 0))) (eOp ixQ (eVar 1) (eC (.int 0))))) (tT (eOp neQ (eCall lenQ (aCons (eVar 0) aNil)) (eCall lenQ (aCons (eVar 1) aNil)))))) (sRetZ (zPure (eC (.bool false)))) sNil)
  (sSeq (sFor (iCall rng2 (aCons (eC (.int 1)) (aCons (eCall lenQ (aCons (eVar 1) aNil)) aNil))) (gN 3) (sIfZ (zNo (zT (zFn c_l_taken [4] (zCons (zPure (eOp ixQ (eVar 0) (eVar 3))) (zCons (zPure (eOp ixQ (eVar 1) (eVar 3))) (zPtrs [(2, 4)])))))) (sRetZ (zPure (eC (.bool false)))) sNil))
  (sRetZ (zPure (eC (.bool true)))))))
section
variable {P : Program} {w : World} {K : PySem.W.Frag} {mg : Str → Option Value} {base : Heap}
theorem q_l_taken1 {f : Addr} {fd : FuncData} {lv j_l_is_integer j_l_taken : Nat} {c_l_is_integer : List PyData → Wp PyData} {c_l_taken : List PyData → List Gh → Wp (PyData × List Gh)} (F : Fun K "_law_taken" "_law_taken" s_l_taken f fd) (B : Cf.Blt mg) (C_l_is_integer : Cf.At P w K mg base "_law_is_integer" j_l_is_integer ["actual"] (spQ 1 c_l_is_integer)) (L_l_is_integer : j_l_is_integer ≤ lv) (C_l_taken : Cf.At P w K mg base "_law_taken" j_l_taken ["general", "term", "given"] (spZ 2 1 c_l_taken)) (L_l_taken : j_l_taken ≤ lv) :
    FnOk P w K mg base CX0 (lv + 1) f fd ["general", "term", "given"] (spZ 2 1 (runZ 5 (b_l_taken c_l_is_integer c_l_taken))) := by
  have nd := sc_l_taken.nd
  exact fn_z F sc_l_taken rfl (by decide) fun cdv A outer s H E hr =>
  (ss_cons (s_if (t_tru (e_call C_l_is_integer (hr.mono L_l_is_integer) (a_cons (e_var 0) a_nil))) (ss_cons (s_if (t_din (hu_of hr) (e_var 0).tr (e_gh 2 4)) (ss_one (s_retZ (ez_of (e_cmp (q_eq hr.units) (e_dget (hu_of hr) (e_gh 2 4) (e_var 0).tr) (e_var 1).tr)))) ss_nil)
  (ss_cons (s_gput 2 4 (hu_of hr) (e_var 1) (e_var 0))
  (ss_one (s_retZ (ez_of e_bl))))) ss_nil)
  (ss_cons (s_if (TW.t (tw_or (t_tru (e_call C_l_is_integer (hr.mono L_l_is_integer) (a_cons (e_var 1) a_nil))) (tw_or (t_cmp (q_ne hr.units) (e_ix q_ix (e_var 0).tr e_int) (e_ix q_ix (e_var 1).tr e_int)) (tw_or1 (t_cmp (q_ne hr.units) (e_callB q_len B.len (a_cons (e_var 0).tr a_nil)) (e_callB q_len B.len (a_cons (e_var 1).tr a_nil))))))) (ss_one (s_retZ (ez_of e_bl))) ss_nil)
  (ss_cons (s_for PassesOwn.never rfl (i_range2 B.range (a_cons e_int (a_cons (e_callB q_len B.len (a_cons (e_var 1).tr a_nil)) a_nil))) (g_name 3 nd) (ss_one (s_ifZ (tz_not (tz_tru (ez_call C_l_taken (hr.mono L_l_taken) (ag_cons (ez_of (e_ix q_ix (e_var 0).tr (e_var 3).tr)) (ag_cons (ez_of (e_ix q_ix (e_var 1).tr (e_var 3).tr)) (ag_of (ap_cons 2 4 ap_nil))))))) (ss_one (s_retZ (ez_of e_bl))) ss_nil)))
  (ss_one (s_retZ (ez_of e_bl))))))
def m_l_taken (c_l_is_integer : List PyData → Wp PyData) : Nat → List PyData → List Gh → Wp (PyData × List Gh)
  | 0 => fun _ _ => bad
  | n + 1 => runZ 5 (b_l_taken c_l_is_integer (m_l_taken c_l_is_integer n))
theorem q_l_taken {f : Addr} {fd : FuncData} {lv j_l_is_integer : Nat} {c_l_is_integer : List PyData → Wp PyData} (F : Fun K "_law_taken" "_law_taken" s_l_taken f fd) (B : Cf.Blt mg) (bR : Binds K fd ["general", "term", "given"] []) (mR : mg "_law_taken" = some (.ref f)) (C_l_is_integer : Cf.At P w K mg base "_law_is_integer" j_l_is_integer ["actual"] (spQ 1 c_l_is_integer)) (L_l_is_integer : j_l_is_integer ≤ lv) :
    ∀ n : Nat, FnOk P w K mg base CX0 (lv + n) f fd ["general", "term", "given"] (spZ 2 1 (m_l_taken c_l_is_integer n))
  | 0 => Cf.none_left fun vs H Q E h => by
    obtain ⟨ds, U, us, ps, gs, _, _, _, _, _, _, _, _, R, h, _⟩ := h
    exact h
  | n + 1 => q_l_taken1 (lv := lv + n) F B C_l_is_integer (Nat.le_trans L_l_is_integer (Nat.le_add_right _ _)) ⟨f, fd, q_l_taken F B bR mR C_l_is_integer L_l_is_integer  n, bR, F.kp, mR⟩ (Nat.le_refl _) 
end
end Lq
namespace Lq
open PySem L2
def M_l_taken : List PyData → List Gh → Wp (PyData × List Gh) := m_l_taken (M_l_is_integer) 12
end Lq
namespace Lq
open PySem L2
abbrev s_l_is_instance : Stmt := Cf.top 22
theorem sc_l_is_instance : FnScope ["general", "term"] ["general", "term"] (defScope s_l_is_instance) := ⟨rfl, rfl, rfl, by decide +kernel, rfl, by decide +kernel, by decide +kernel⟩
def b_l_is_instance (c_l_taken : List PyData → List Gh → Wp (PyData × List Gh)) : Rho → Wp Out :=
  (sRet (eFnN c_l_taken (.dic []) (aCons (eVar 0) (aCons (eVar 1) aNil))))
section
variable {P : Program} {w : World} {K : PySem.W.Frag} {mg : Str → Option Value} {base : Heap}
theorem q_l_is_instance {f : Addr} {fd : FuncData} {lv j_l_taken : Nat} {c_l_taken : List PyData → List Gh → Wp (PyData × List Gh)} (F : Fun K "_law_is_instance" "_law_is_instance" s_l_is_instance f fd) (B : Cf.Blt mg) (C_l_taken : Cf.At P w K mg base "_law_taken" j_l_taken ["general", "term", "given"] (spZ 2 1 c_l_taken)) (L_l_taken : j_l_taken ≤ lv) :
    FnOk P w K mg base CX0 (lv + 1) f fd ["general", "term"] (spQ 2 (runQ 2 (b_l_is_instance c_l_taken))) := by
  have nd := sc_l_is_instance.nd
  exact fn_q F sc_l_is_instance rfl fun cdv A outer s H E hr =>
  (ss_one (s_ret (e_callN C_l_taken (hr.mono L_l_taken) (an_cons (e_var 0) (an_cons (e_var 1) an_dic)))))
end
end Lq
namespace Lq
open PySem L2
def M_l_is_instance : List PyData → Wp PyData := runQ 2 (b_l_is_instance (M_l_taken))
end Lq
namespace Lq
open PySem L2
abbrev s_l_lgg : Stmt := Cf.top 23
theorem sc_l_lgg : FnScope ["p", "q", "known", "k", "0known"] ["p", "q", "known"] (defScope s_l_lgg) := ⟨rfl, rfl, rfl, by decide +kernel, rfl, by decide +kernel, by decide +kernel⟩
def b_l_lgg (c_l_is_integer : List PyData → Wp PyData) (c_l_lgg : List PyData → List Gh → Wp (PyData × List Gh)) : Rho → Wp Out :=
  (sSeq (sIf (tBoth (tNo (tTru (eFn c_l_is_integer (aCons (eVar 0) aNil)))) (tBoth (tNo (tTru (eFn c_l_is_integer (aCons (eVar 1) aNil)))) (tBoth (tT (eOp eqQ (eOp ixQ (eVar 0) (eC (.int 0))) (eOp ixQ (eVar 1) (eC (.int 0))))) (tT (eOp eqQ (eCall lenQ (aCons (eVar 0) aNil)) (eCall lenQ (aCons (eVar 1) aNil))))))) (sRetZ (zOp addQ (zPure (eTup (aCons (eOp ixQ (eVar 0) (eC (.int 0))) aNil))) (zCall tupleQ (zCons (zLc (iCall rng2 (aCons (eC (.int 1)) (aCons (eCall lenQ (aCons (eVar 0) aNil)) aNil))) (gN 3) tAll (zFn c_l_lgg [4] (zCons (zPure (eOp ixQ (eVar 0) (eVar 3))) (zCons (zPure (eOp ixQ (eVar 1) (eVar 3))) (zPtrs [(2, 4)])))) [3]) zNil)))) sNil)
  (sSeq (sIf (tT (eOp (inQ true) (eTup (aCons (eVar 0) (aCons (eVar 1) aNil))) (eGh 2 4))) (sGApp 2 4 (eTup (aCons (eVar 0) (aCons (eVar 1) aNil)))) sNil)
  (sRetZ (zPure (eIndex (eGh 2 4) (eTup (aCons (eVar 0) (aCons (eVar 1) aNil))))))))
section
variable {P : Program} {w : World} {K : PySem.W.Frag} {mg : Str → Option Value} {base : Heap}
theorem q_l_lgg1 {f : Addr} {fd : FuncData} {lv j_l_is_integer j_l_lgg : Nat} {c_l_is_integer : List PyData → Wp PyData} {c_l_lgg : List PyData → List Gh → Wp (PyData × List Gh)} (F : Fun K "_law_lgg" "_law_lgg" s_l_lgg f fd) (B : Cf.Blt mg) (C_l_is_integer : Cf.At P w K mg base "_law_is_integer" j_l_is_integer ["actual"] (spQ 1 c_l_is_integer)) (L_l_is_integer : j_l_is_integer ≤ lv) (C_l_lgg : Cf.At P w K mg base "_law_lgg" j_l_lgg ["p", "q", "known"] (spZ 2 1 c_l_lgg)) (L_l_lgg : j_l_lgg ≤ lv) :
    FnOk P w K mg base CX0 (lv + 1) f fd ["p", "q", "known"] (spZ 2 1 (runZ 5 (b_l_lgg c_l_is_integer c_l_lgg))) := by
  have nd := sc_l_lgg.nd
  exact fn_z F sc_l_lgg rfl (by decide) fun cdv A outer s H E hr =>
  (ss_cons (s_if (TW.t (tw_and (t_not (t_tru (e_call C_l_is_integer (hr.mono L_l_is_integer) (a_cons (e_var 0) a_nil)))) (tw_and (t_not (t_tru (e_call C_l_is_integer (hr.mono L_l_is_integer) (a_cons (e_var 1) a_nil)))) (tw_and (t_cmp (q_eq hr.units) (e_ix q_ix (e_var 0).tr e_int) (e_ix q_ix (e_var 1).tr e_int)) (tw_and1 (t_cmp (q_eq hr.units) (e_callB q_len B.len (a_cons (e_var 0).tr a_nil)) (e_callB q_len B.len (a_cons (e_var 1).tr a_nil)))))))) (ss_one (s_retZ (ez_op q_add (ez_of (e_tup (a_cons (e_ix q_ix (e_var 0).tr e_int) a_nil))) (ez_callTy q_tuple B.tuple (az_cons (ez_lc rfl nd (own := [("k", 3)]) (i_range2 B.range (a_cons e_int (a_cons (e_callB q_len B.len (a_cons (e_var 0).tr a_nil)) a_nil))) (blkOk_by (N := ["p", "q", "known", "k", "0known"]) (sc := defScope s_l_lgg) (by decide +kernel)) (fun _ _ _ _ _ => (g_name 3 nd)) (fun _ _ _ _ _ => ts_nil) (fun _ _ _ _ _ => (ez_call C_l_lgg (hr.mono L_l_lgg) (ag_cons (ez_of (e_ix q_ix (e_var 0).tr (e_var 3).tr)) (ag_cons (ez_of (e_ix q_ix (e_var 1).tr (e_var 3).tr)) (ag_of (ap_cons 2 4 ap_nil))))))) az_nil))))) ss_nil)
  (ss_cons (s_if (t_cmp (q_notIn (hu65 hr)) (e_tup (a_cons (e_var 0) (a_cons (e_var 1) a_nil))) (e_gh 2 4)) (ss_one (s_gapp 2 4 (e_tup (a_cons (e_var 0) (a_cons (e_var 1) a_nil))))) ss_nil)
  (ss_one (s_retZ (ez_of (e_index (hu65 hr) (e_gh 2 4) (e_tup (a_cons (e_var 0) (a_cons (e_var 1) a_nil)))))))))
def m_l_lgg (c_l_is_integer : List PyData → Wp PyData) : Nat → List PyData → List Gh → Wp (PyData × List Gh)
  | 0 => fun _ _ => bad
  | n + 1 => runZ 5 (b_l_lgg c_l_is_integer (m_l_lgg c_l_is_integer n))
theorem q_l_lgg {f : Addr} {fd : FuncData} {lv j_l_is_integer : Nat} {c_l_is_integer : List PyData → Wp PyData} (F : Fun K "_law_lgg" "_law_lgg" s_l_lgg f fd) (B : Cf.Blt mg) (bR : Binds K fd ["p", "q", "known"] []) (mR : mg "_law_lgg" = some (.ref f)) (C_l_is_integer : Cf.At P w K mg base "_law_is_integer" j_l_is_integer ["actual"] (spQ 1 c_l_is_integer)) (L_l_is_integer : j_l_is_integer ≤ lv) :
    ∀ n : Nat, FnOk P w K mg base CX0 (lv + n) f fd ["p", "q", "known"] (spZ 2 1 (m_l_lgg c_l_is_integer n))
  | 0 => Cf.none_left fun vs H Q E h => by
    obtain ⟨ds, U, us, ps, gs, _, _, _, _, _, _, _, _, R, h, _⟩ := h
    exact h
  | n + 1 => q_l_lgg1 (lv := lv + n) F B C_l_is_integer (Nat.le_trans L_l_is_integer (Nat.le_add_right _ _)) ⟨f, fd, q_l_lgg F B bR mR C_l_is_integer L_l_is_integer  n, bR, F.kp, mR⟩ (Nat.le_refl _) 
end
end Lq
namespace Lq
open PySem L2
def M_l_lgg : List PyData → List Gh → Wp (PyData × List Gh) := m_l_lgg (M_l_is_integer) 12
end Lq
namespace Lq
open PySem L2
abbrev s_l_joined_term : Stmt := Cf.top 24
theorem sc_l_joined_term : FnScope ["p", "q"] ["p", "q"] (defScope s_l_joined_term) := ⟨rfl, rfl, rfl, by decide +kernel, rfl, by decide +kernel, by decide +kernel⟩
def b_l_joined_term (c_l_renumbered : List PyData → Wp PyData) (c_l_lgg : List PyData → List Gh → Wp (PyData × List Gh)) : Rho → Wp Out :=
  (sRet (eOp ixQ (eFn c_l_renumbered (aCons (eTup (aCons (eFnN c_l_lgg (.lst []) (aCons (eVar 0) (aCons (eVar 1) aNil))) aNil)) aNil)) (eC (.int 0))))
section
variable {P : Program} {w : World} {K : PySem.W.Frag} {mg : Str → Option Value} {base : Heap}
theorem q_l_joined_term {f : Addr} {fd : FuncData} {lv j_l_renumbered j_l_lgg : Nat} {c_l_renumbered : List PyData → Wp PyData} {c_l_lgg : List PyData → List Gh → Wp (PyData × List Gh)} (F : Fun K "_law_joined_term" "_law_joined_term" s_l_joined_term f fd) (B : Cf.Blt mg) (C_l_renumbered : Cf.At P w K mg base "_law_renumbered" j_l_renumbered ["terms"] (spQ 1 c_l_renumbered)) (L_l_renumbered : j_l_renumbered ≤ lv) (C_l_lgg : Cf.At P w K mg base "_law_lgg" j_l_lgg ["p", "q", "known"] (spZ 2 1 c_l_lgg)) (L_l_lgg : j_l_lgg ≤ lv) :
    FnOk P w K mg base CX0 (lv + 1) f fd ["p", "q"] (spQ 2 (runQ 2 (b_l_joined_term c_l_renumbered c_l_lgg))) := by
  have nd := sc_l_joined_term.nd
  exact fn_q F sc_l_joined_term rfl fun cdv A outer s H E hr =>
  (ss_one (s_ret (e_ix q_ix (e_call C_l_renumbered (hr.mono L_l_renumbered) (a_cons (e_tup (a_cons (e_callN C_l_lgg (hr.mono L_l_lgg) (an_cons (e_var 0) (an_cons (e_var 1) an_lst))) a_nil)) a_nil)) e_int)))
end
end Lq
namespace Lq
open PySem L2
def M_l_joined_term : List PyData → Wp PyData := runQ 2 (b_l_joined_term (M_l_renumbered) (M_l_lgg))
end Lq
namespace Lq
open PySem L2
abbrev s_l_law : Stmt := Cf.top 25
theorem sc_l_law : FnScope ["script", "pool", "constructors", "turn", "p", "q", "wide", "told", "other"] ["script"] (defScope s_l_law) := ⟨rfl, rfl, rfl, by decide +kernel, rfl, by decide +kernel, by decide +kernel⟩
def b_l_law (c_l_constructors : List PyData → Wp PyData) (c_l_term : List PyData → Wp PyData) (c_l_draw : List PyData → Wp PyData) (c_l_replace : List PyData → Wp PyData) (c_p_join : List PyData → Wp PyData) (c_l_same : List PyData → Wp PyData) (c_l_joined_term : List PyData → Wp PyData) (c_l_is_instance : List PyData → Wp PyData) : Rho → Wp Out :=
  (sSeq (sSet (gN 2) (eFnP 1 c_l_constructors aNil))
  (sSeq (sFor (iCall rng1 (aCons (eC (.int 4)) aNil)) (gN 3) (sSeq (sSet (gN 4) (eFnP 1 c_l_term (aCons (eVar 2) (aCons (eL (lLst (aCons (eC (.int 0)) (aCons (eC (.int 1)) aNil)))) (aCons (eOp addQ (eC (.int 1)) (eFnP 1 c_l_draw (aCons (eC (.int 4)) aNil))) aNil)))))
  (sSeq (sSet (gN 5) (eFnP 1 c_l_term (aCons (eVar 2) (aCons (eL (lLst (aCons (eC (.int 0)) (aCons (eC (.int 1)) (aCons (eC (.int 2)) aNil))))) (aCons (eOp addQ (eC (.int 1)) (eFnP 1 c_l_draw (aCons (eC (.int 4)) aNil))) aNil)))))
  (sSeq (sIf (tT (eOp eqQ (eFnP 1 c_l_draw (aCons (eC (.int 2)) aNil)) (eC (.int 0)))) (sSeq (sSet (gN 6) (eFnP 1 c_l_term (aCons (eVar 2) (aCons (eL (lLst (aCons (eC (.int 0)) (aCons (eC (.int 1)) aNil)))) (aCons (eC (.int 3)) aNil)))))
  (sSeq (sSet (gN 4) (eFn c_l_replace (aCons (eVar 6) (aCons (eDisp (ppCons (eC (.int 0)) (eVar 4) (ppCons (eC (.int 1)) (eVar 5) ppNil))) aNil))))
  (sSet (gN 5) (eFn c_l_replace (aCons (eVar 6) (aCons (eDisp (ppCons (eC (.int 0)) (eVar 5) (ppCons (eC (.int 1)) (eVar 4) ppNil))) aNil)))))) sNil)
  (sSeq (sSet (gN 7) (eFn c_p_join (aCons (eVar 4) (aCons (eVar 5) aNil))))
  (sSeq (sIf (tEither (tNo (tTru (eFn c_l_same (aCons (eVar 7) (aCons (eFn c_l_joined_term (aCons (eVar 4) (aCons (eVar 5) aNil))) aNil))))) (tEither (tNo (tTru (eFn c_l_is_instance (aCons (eVar 7) (aCons (eVar 4) aNil))))) (tNo (tTru (eFn c_l_is_instance (aCons (eVar 7) (aCons (eVar 5) aNil))))))) (sRet (eC (.bool false))) sNil)
  (sSeq (sSet (gN 8) (eFnP 1 c_l_term (aCons (eVar 2) (aCons (eL (lLst (aCons (eC (.int 0)) (aCons (eC (.int 1)) (aCons (eC (.int 2)) (aCons (eC (.int 3)) aNil)))))) (aCons (eC (.int 3)) aNil)))))
  (sIf (tBoth (tTru (eFn c_l_is_instance (aCons (eVar 8) (aCons (eVar 4) aNil)))) (tBoth (tTru (eFn c_l_is_instance (aCons (eVar 8) (aCons (eVar 5) aNil)))) (tNo (tTru (eFn c_l_is_instance (aCons (eVar 8) (aCons (eVar 7) aNil))))))) (sRet (eC (.bool false))) sNil))))))))
  (sRet (eC (.bool true)))))
section
variable {P : Program} {w : World} {K : PySem.W.Frag} {mg : Str → Option Value} {base : Heap}
theorem q_l_law {f : Addr} {fd : FuncData} {lv j_l_constructors j_l_term j_l_draw j_l_replace j_p_join j_l_same j_l_joined_term j_l_is_instance : Nat} {c_l_constructors : List PyData → Wp PyData} {c_l_term : List PyData → Wp PyData} {c_l_draw : List PyData → Wp PyData} {c_l_replace : List PyData → Wp PyData} {c_p_join : List PyData → Wp PyData} {c_l_same : List PyData → Wp PyData} {c_l_joined_term : List PyData → Wp PyData} {c_l_is_instance : List PyData → Wp PyData} (F : Fun K "law" "law" s_l_law f fd) (B : Cf.Blt mg) {j_pool : Nat} (C_pool : Cf.At P w K mg base "_law_pool" j_pool ["script"] (Cf.spPool K)) (L_pool : j_pool ≤ lv) (C_l_constructors : Cf.At P w K mg base "_law_constructors" j_l_constructors ["pool"] (spQP 0 c_l_constructors)) (L_l_constructors : j_l_constructors ≤ lv) (C_l_term : Cf.At P w K mg base "_law_term" j_l_term ["pool", "constructors", "numbers", "deep"] (spQP 3 c_l_term)) (L_l_term : j_l_term ≤ lv) (C_l_draw : Cf.At P w K mg base "_law_draw" j_l_draw ["pool", "many"] (spQP 1 c_l_draw)) (L_l_draw : j_l_draw ≤ lv) (C_l_replace : Cf.At P w K mg base "_law_replace" j_l_replace ["term", "given"] (spQ 2 c_l_replace)) (L_l_replace : j_l_replace ≤ lv) (C_p_join : Cf.At P w K mg base "join" j_p_join ["p", "q"] (spQ 2 c_p_join)) (L_p_join : j_p_join ≤ lv) (C_l_same : Cf.At P w K mg base "_law_same" j_l_same ["actual", "due"] (spQ 2 c_l_same)) (L_l_same : j_l_same ≤ lv) (C_l_joined_term : Cf.At P w K mg base "_law_joined_term" j_l_joined_term ["p", "q"] (spQ 2 c_l_joined_term)) (L_l_joined_term : j_l_joined_term ≤ lv) (C_l_is_instance : Cf.At P w K mg base "_law_is_instance" j_l_is_instance ["general", "term"] (spQ 2 c_l_is_instance)) (L_l_is_instance : j_l_is_instance ≤ lv) (ok : b_l_law c_l_constructors c_l_term c_l_draw c_l_replace c_p_join c_l_same c_l_joined_term c_l_is_instance (lawR 9 1) (fun o => o = .rt (.bool true))) :
    FnOk P w K mg base CX0 (lv + 1) f fd ["script"] (Cf.spLaw K) := by
  have nd := sc_l_law.nd
  exact fn_law (i := 1) F sc_l_law (by decide) (fun cdv A outer s H E hr => ⟨_, _, rfl, s_pool 1 C_pool (hr.mono L_pool) nd,
  (ss_cons (s_asg (e_callP 1 C_l_constructors (hr.mono L_l_constructors) a_nil) (g_name 2 nd))
  (ss_cons (s_for PassesOwn.never rfl (i_range1 B.range (a_cons e_int a_nil)) (g_name 3 nd) (ss_cons (s_asg (e_callP 1 C_l_term (hr.mono L_l_term) (a_cons (e_var 2) (a_cons (f_lst (a_cons e_int (a_cons e_int a_nil))).toE (a_cons (e_op q_add e_int (e_callP 1 C_l_draw (hr.mono L_l_draw) (a_cons e_int a_nil))) a_nil)))) (g_name 4 nd))
  (ss_cons (s_asg (e_callP 1 C_l_term (hr.mono L_l_term) (a_cons (e_var 2) (a_cons (f_lst (a_cons e_int (a_cons e_int (a_cons e_int a_nil)))).toE (a_cons (e_op q_add e_int (e_callP 1 C_l_draw (hr.mono L_l_draw) (a_cons e_int a_nil))) a_nil)))) (g_name 5 nd))
  (ss_cons (s_if (t_cmp (q_eq hr.units) (e_callP 1 C_l_draw (hr.mono L_l_draw) (a_cons e_int a_nil)) e_int) (ss_cons (s_asg (e_callP 1 C_l_term (hr.mono L_l_term) (a_cons (e_var 2) (a_cons (f_lst (a_cons e_int (a_cons e_int a_nil))).toE (a_cons e_int a_nil)))) (g_name 6 nd))
  (ss_cons (s_asg (e_call C_l_replace (hr.mono L_l_replace) (a_cons (e_var 6) (a_cons (e_disp (pp_cons e_int (e_var 4) (pp_cons e_int (e_var 5) pp_nil))) a_nil))) (g_name 4 nd))
  (ss_one (s_asg (e_call C_l_replace (hr.mono L_l_replace) (a_cons (e_var 6) (a_cons (e_disp (pp_cons e_int (e_var 5) (pp_cons e_int (e_var 4) pp_nil))) a_nil))) (g_name 5 nd))))) ss_nil)
  (ss_cons (s_asg (e_call C_p_join (hr.mono L_p_join) (a_cons (e_var 4) (a_cons (e_var 5) a_nil))) (g_name 7 nd))
  (ss_cons (s_if (TW.t (tw_or (t_not (t_tru (e_call C_l_same (hr.mono L_l_same) (a_cons (e_var 7) (a_cons (e_call C_l_joined_term (hr.mono L_l_joined_term) (a_cons (e_var 4) (a_cons (e_var 5) a_nil))) a_nil))))) (tw_or (t_not (t_tru (e_call C_l_is_instance (hr.mono L_l_is_instance) (a_cons (e_var 7) (a_cons (e_var 4) a_nil))))) (tw_or1 (t_not (t_tru (e_call C_l_is_instance (hr.mono L_l_is_instance) (a_cons (e_var 7) (a_cons (e_var 5) a_nil))))))))) (ss_one (s_ret e_bl)) ss_nil)
  (ss_cons (s_asg (e_callP 1 C_l_term (hr.mono L_l_term) (a_cons (e_var 2) (a_cons (f_lst (a_cons e_int (a_cons e_int (a_cons e_int (a_cons e_int a_nil))))).toE (a_cons e_int a_nil)))) (g_name 8 nd))
  (ss_one (s_if (TW.t (tw_and (t_tru (e_call C_l_is_instance (hr.mono L_l_is_instance) (a_cons (e_var 8) (a_cons (e_var 4) a_nil)))) (tw_and (t_tru (e_call C_l_is_instance (hr.mono L_l_is_instance) (a_cons (e_var 8) (a_cons (e_var 5) a_nil)))) (tw_and1 (t_not (t_tru (e_call C_l_is_instance (hr.mono L_l_is_instance) (a_cons (e_var 8) (a_cons (e_var 7) a_nil))))))))) (ss_one (s_ret e_bl)) ss_nil)))))))))
  (ss_one (s_ret e_bl))))⟩) ok
end
end Lq
namespace Lq
open PySem L2
def M_l_law : Rho → Wp Out := b_l_law (mCons) (mTerm 6) (mDraw) (M_l_replace) (M_p_join) (M_l_same) (M_l_joined_term) (M_l_is_instance)
end Lq
namespace Cf
open PySem L2
mutual
def Tm.size : Tm → Nat
  | .var _ => 1
  | .node _ ps => 1 + Tm.sizes ps
def Tm.sizes : List Tm → Nat
  | [] => 0
  | t :: ts => t.size + Tm.sizes ts
end
mutual
def Tm.high : Tm → Nat
  | .var _ => 1
  | .node _ ps => 1 + Tm.highs ps
def Tm.highs : List Tm → Nat
  | [] => 0
  | t :: ts => max t.high (Tm.highs ts)
end
mutual
def Tm.occ : Tm → List Int
  | .var n => [n]
  | .node _ ps => Tm.occs ps
def Tm.occs : List Tm → List Int
  | [] => []
  | t :: ts => t.occ ++ Tm.occs ts
end
theorem Tm.size_pos (t : Tm) : 0 < t.size := by
  cases t with
  | var n => exact Nat.succ_pos 0
  | node w ps => show 0 < 1 + Tm.sizes ps; omega
theorem Tm.high_pos (t : Tm) : 0 < t.high := by
  cases t with
  | var n => exact Nat.succ_pos 0
  | node w ps => show 0 < 1 + Tm.highs ps; omega
theorem Tm.sizes_append : ∀ (ts rs : List Tm), Tm.sizes (ts ++ rs) = Tm.sizes ts + Tm.sizes rs
  | [], rs => by show Tm.sizes rs = 0 + Tm.sizes rs; omega
  | t :: ts, rs => by
    show t.size + Tm.sizes (ts ++ rs) = t.size + Tm.sizes ts + Tm.sizes rs
    rw [Tm.sizes_append ts rs]; omega
theorem Tm.sizes_rev : ∀ ts : List Tm, Tm.sizes ts.reverse = Tm.sizes ts
  | [] => rfl
  | t :: ts => by
    rw [List.reverse_cons, Tm.sizes_append, Tm.sizes_rev ts]
    show Tm.sizes ts + (t.size + 0) = t.size + Tm.sizes ts
    omega
theorem Tm.sizes_len : ∀ ts : List Tm, ts.length ≤ Tm.sizes ts
  | [] => Nat.le_refl _
  | t :: ts => by
    have h := t.size_pos
    have ih := Tm.sizes_len ts
    show ts.length + 1 ≤ t.size + Tm.sizes ts
    omega
theorem Tm.occs_append : ∀ (ts rs : List Tm), Tm.occs (ts ++ rs) = Tm.occs ts ++ Tm.occs rs
  | [], rs => rfl
  | t :: ts, rs => by
    show t.occ ++ Tm.occs (ts ++ rs) = (t.occ ++ Tm.occs ts) ++ Tm.occs rs
    rw [Tm.occs_append ts rs, List.append_assoc]
mutual
theorem Tm.occ_len : ∀ t : Tm, t.occ.length ≤ t.size
  | .var n => Nat.le_refl _
  | .node w ps => by
    have h := Tm.occs_len ps
    show (Tm.occs ps).length ≤ 1 + Tm.sizes ps
    omega
theorem Tm.occs_len : ∀ ts : List Tm, (Tm.occs ts).length ≤ Tm.sizes ts
  | [] => Nat.le_refl _
  | t :: ts => by
    have h := Tm.occ_len t
    have h2 := Tm.occs_len ts
    show (t.occ ++ Tm.occs ts).length ≤ t.size + Tm.sizes ts
    rw [List.length_append]
    omega
end
theorem Tm.occs_take {ps : List Tm} {i : Nat} {t : Tm} (h : ps[i]? = some t) : Tm.occs (ps.take (i + 1)) = Tm.occs (ps.take i) ++ t.occ := by
  rw [List.take_add_one, h, Tm.occs_append]
  show _ ++ (t.occ ++ []) = _
  rw [List.append_nil]
theorem Tm.size_mem : ∀ {ps : List Tm} {t : Tm}, t ∈ ps → t.size ≤ Tm.sizes ps
  | p :: ps, t, h => by
    show t.size ≤ p.size + Tm.sizes ps
    rcases List.mem_cons.mp h with rfl | h
    · omega
    · have := Tm.size_mem h; omega
theorem Tm.high_mem : ∀ {ps : List Tm} {t : Tm}, t ∈ ps → t.high ≤ Tm.highs ps
  | p :: ps, t, h => by
    show t.high ≤ max p.high (Tm.highs ps)
    rcases List.mem_cons.mp h with rfl | h
    · omega
    · have := Tm.high_mem h; omega
theorem sum_sizes : ∀ ps : List Tm, (ps.map fun p => (p.size : Int)).sum = ((Tm.sizes ps : Nat) : Int)
  | [] => rfl
  | p :: ps => by
    rw [List.map_cons, List.sum_cons, sum_sizes ps]
    show (p.size : Int) + ((Tm.sizes ps : Nat) : Int) = ((p.size + Tm.sizes ps : Nat) : Int)
    omega
theorem max_highs {ps : List Tm} {m : Int} (h : m ∈ ps.map fun p => (p.high : Int)) (g : ∀ y ∈ ps.map (fun p => (p.high : Int)), y ≤ m) : m = ((Tm.highs ps : Nat) : Int) := by
  obtain ⟨t, ht, rfl⟩ := List.mem_map.mp h
  have h1 := Tm.high_mem ht
  have h2 : ∀ (qs : List Tm), (∀ x ∈ qs, (x.high : Int) ≤ (t.high : Int)) → Tm.highs qs ≤ t.high := by
    intro qs
    induction qs with
    | nil => intro _; exact Nat.zero_le _
    | cons q r ih =>
      intro z
      have a := z q List.mem_cons_self
      have b := ih fun x hx => z x (List.mem_cons_of_mem _ hx)
      show max q.high (Tm.highs r) ≤ t.high
      omega
  have h3 := h2 ps fun x hx => g _ (List.mem_map.mpr ⟨x, hx, rfl⟩)
  omega
/-- the different ones, in the order in which they come first -/
def addNew (acc : List Int) (n : Int) : List Int := if n ∈ acc then acc else acc ++ [n]
def firsts (ns : List Int) : List Int := ns.foldl addNew []
theorem firsts_take {ns : List Int} {i : Nat} {n : Int} (h : ns[i]? = some n) : firsts (ns.take (i + 1)) = addNew (firsts (ns.take i)) n := by
  unfold firsts
  rw [List.take_add_one, h, List.foldl_append]
  rfl
theorem addNew_len (acc : List Int) (n : Int) : (addNew acc n).length ≤ acc.length + 1 := by
  unfold addNew
  split
  · exact Nat.le_succ _
  · rw [List.length_append]; exact Nat.le_refl _
theorem firsts_len (ns : List Int) : (firsts ns).length ≤ ns.length := by
  have h : ∀ (ns acc : List Int), (ns.foldl addNew acc).length ≤ acc.length + ns.length := by
    intro ns
    induction ns with
    | nil => intro acc; exact Nat.le_refl _
    | cons n r ih =>
      intro acc
      have h1 := ih (addNew acc n)
      have h2 := addNew_len acc n
      show (r.foldl addNew (addNew acc n)).length ≤ acc.length + (r.length + 1)
      omega
  have e := h ns []
  rw [List.length_nil, Nat.zero_add] at e
  exact e
mutual
def Tm.sub (f : Int → Tm) : Tm → Tm
  | .var n => f n
  | .node w ps => .node w (Tm.subs f ps)
def Tm.subs (f : Int → Tm) : List Tm → List Tm
  | [] => []
  | t :: ts => t.sub f :: Tm.subs f ts
end
theorem Tm.subs_map (f : Int → Tm) : ∀ ts : List Tm, Tm.subs f ts = ts.map fun t => t.sub f
  | [] => rfl
  | t :: ts => congrArg (t.sub f :: ·) (Tm.subs_map f ts)
def onv (σ : List (Int × Tm)) (n : Int) : Tm := (σ.lookup n).getD (.var n)
/-! renaming of variables -/
mutual
theorem Tm.sub_congr {f g : Int → Tm} : ∀ t : Tm, (∀ n ∈ t.occ, f n = g n) → t.sub f = t.sub g
  | .var n, h => h n (List.mem_singleton.mpr rfl)
  | .node w ps, h => by
    show Tm.node w (Tm.subs f ps) = Tm.node w (Tm.subs g ps)
    rw [Tm.subs_congr ps h]
theorem Tm.subs_congr {f g : Int → Tm} : ∀ ts : List Tm, (∀ n ∈ Tm.occs ts, f n = g n) → Tm.subs f ts = Tm.subs g ts
  | [], _ => rfl
  | t :: ts, h => by
    show t.sub f :: Tm.subs f ts = t.sub g :: Tm.subs g ts
    rw [Tm.sub_congr t fun n hn => h n (List.mem_append_left _ hn), Tm.subs_congr ts fun n hn => h n (List.mem_append_right _ hn)]
end
def ren (r : Int → Int) : Tm → Tm := Tm.sub fun n => .var (r n)
mutual
theorem ren_sub (r : Int → Int) (g : Int → Tm) : ∀ t : Tm, (ren r t).sub g = t.sub fun n => g (r n)
  | .var n => rfl
  | .node w ps => by
    show Tm.node w (Tm.subs g (Tm.subs (fun n => .var (r n)) ps)) = Tm.node w (Tm.subs (fun n => g (r n)) ps)
    rw [rens_sub r g ps]
theorem rens_sub (r : Int → Int) (g : Int → Tm) : ∀ ts : List Tm, Tm.subs g (Tm.subs (fun n => .var (r n)) ts) = Tm.subs (fun n => g (r n)) ts
  | [] => rfl
  | t :: ts => by
    have h1 := ren_sub r g t
    have h2 := rens_sub r g ts
    show (t.sub fun n => .var (r n)).sub g :: Tm.subs g (Tm.subs (fun n => .var (r n)) ts) = _
    rw [h2]
    exact congrArg (· :: _) h1
end
mutual
theorem ren_occ (r : Int → Int) : ∀ t : Tm, (ren r t).occ = t.occ.map r
  | .var n => rfl
  | .node w ps => rens_occ r ps
theorem rens_occ (r : Int → Int) : ∀ ts : List Tm, Tm.occs (Tm.subs (fun n => .var (r n)) ts) = (Tm.occs ts).map r
  | [] => rfl
  | t :: ts => by
    have h1 := ren_occ r t
    have h2 := rens_occ r ts
    show (t.sub fun n => .var (r n)).occ ++ Tm.occs (Tm.subs (fun n => .var (r n)) ts) = (t.occ ++ Tm.occs ts).map r
    rw [h2, List.map_append]
    exact congrArg (· ++ _) h1
end
mutual
theorem ren_size (r : Int → Int) : ∀ t : Tm, (ren r t).size = t.size
  | .var n => rfl
  | .node w ps => congrArg (1 + ·) (rens_size r ps)
theorem rens_size (r : Int → Int) : ∀ ts : List Tm, Tm.sizes (Tm.subs (fun n => .var (r n)) ts) = Tm.sizes ts
  | [] => rfl
  | t :: ts => by
    have h1 := ren_size r t
    have h2 := rens_size r ts
    show (t.sub fun n => .var (r n)).size + Tm.sizes (Tm.subs (fun n => .var (r n)) ts) = t.size + Tm.sizes ts
    rw [h2]
    exact congrArg (· + _) h1
end
mutual
theorem ren_high (r : Int → Int) : ∀ t : Tm, (ren r t).high = t.high
  | .var n => rfl
  | .node w ps => congrArg (1 + ·) (rens_high r ps)
theorem rens_high (r : Int → Int) : ∀ ts : List Tm, Tm.highs (Tm.subs (fun n => .var (r n)) ts) = Tm.highs ts
  | [] => rfl
  | t :: ts => by
    have h1 := ren_high r t
    have h2 := rens_high r ts
    show max (t.sub fun n => .var (r n)).high (Tm.highs (Tm.subs (fun n => .var (r n)) ts)) = max t.high (Tm.highs ts)
    rw [h2]
    exact congrArg (fun x => max x _) h1
end
/-! the numbers 0, 1, 2, .. of the different ones of a list -/
def numFrom (k : Nat) : List Int → List (Int × Tm)
  | [] => []
  | n :: r => (n, .var (k : Int)) :: numFrom (k + 1) r
def posFrom (k : Nat) : List Int → Int → Int
  | [], n => n
  | m :: r, n => if n = m then (k : Int) else posFrom (k + 1) r n
theorem onv_num : ∀ (xs : List Int) (k : Nat) (n : Int), onv (numFrom k xs) n = .var (posFrom k xs n)
  | [], _, _ => rfl
  | m :: r, k, n => by
    have ih := onv_num r (k + 1) n
    unfold onv at ih ⊢
    show (((m, Tm.var (k : Int)) :: numFrom (k + 1) r).lookup n).getD (.var n) = .var (if n = m then (k : Int) else posFrom (k + 1) r n)
    rw [List.lookup_cons]
    by_cases e : n = m
    · subst e
      rw [beq_self_eq_true, if_pos rfl]
      rfl
    · rw [beq_eq_false_iff_ne.mpr e, if_neg e]
      exact ih
theorem numFrom_snoc : ∀ (xs : List Int) (k : Nat) (n : Int), numFrom k (xs ++ [n]) = numFrom k xs ++ [(n, .var ((k + xs.length : Nat) : Int))]
  | [], _, _ => rfl
  | m :: r, k, n => by
    show (m, Tm.var (k : Int)) :: numFrom (k + 1) (r ++ [n]) = (m, Tm.var (k : Int)) :: (numFrom (k + 1) r ++ [(n, .var ((k + (r.length + 1) : Nat) : Int))])
    rw [numFrom_snoc r (k + 1) n]
    have e : k + 1 + r.length = k + (r.length + 1) := by omega
    rw [e]
theorem pos_map {r : Int → Int} {n : Int} : ∀ (xs : List Int) (k : Nat), n ∈ xs → (∀ m ∈ xs, r n = r m → n = m) → posFrom k (xs.map r) (r n) = posFrom k xs n
  | m :: xs, k, h, inj => by
    show (if r n = r m then (k : Int) else posFrom (k + 1) (xs.map r) (r n)) = if n = m then (k : Int) else posFrom (k + 1) xs n
    by_cases e : n = m
    · subst e; rw [if_pos rfl, if_pos rfl]
    · rw [if_neg e, if_neg fun z => e (inj m List.mem_cons_self z)]
      exact pos_map xs (k + 1) ((List.mem_cons.mp h).resolve_left e) fun m' hm z => inj m' (List.mem_cons_of_mem _ hm) z
theorem pos_ge : ∀ (xs : List Int) (k : Nat) (n : Int), n ∈ xs → (k : Int) ≤ posFrom k xs n
  | m :: xs, k, n, h => by
    show (k : Int) ≤ if n = m then (k : Int) else posFrom (k + 1) xs n
    by_cases e : n = m
    · rw [if_pos e]; exact Int.le_refl _
    · rw [if_neg e]
      have := pos_ge xs (k + 1) n ((List.mem_cons.mp h).resolve_left e)
      omega
theorem pos_inj : ∀ (xs : List Int) (k : Nat) (n m : Int), n ∈ xs → m ∈ xs → posFrom k xs n = posFrom k xs m → n = m
  | x :: xs, k, n, m, hn, hm, h => by
    have h' : (if n = x then (k : Int) else posFrom (k + 1) xs n) = if m = x then (k : Int) else posFrom (k + 1) xs m := h
    by_cases e1 : n = x
    · by_cases e2 : m = x
      · rw [e1, e2]
      · rw [if_pos e1, if_neg e2] at h'
        have := pos_ge xs (k + 1) m ((List.mem_cons.mp hm).resolve_left e2)
        omega
    · by_cases e2 : m = x
      · rw [if_neg e1, if_pos e2] at h'
        have := pos_ge xs (k + 1) n ((List.mem_cons.mp hn).resolve_left e1)
        omega
      · rw [if_neg e1, if_neg e2] at h'
        exact pos_inj xs (k + 1) n m ((List.mem_cons.mp hn).resolve_left e1) ((List.mem_cons.mp hm).resolve_left e2) h'
theorem addNew_mem {acc : List Int} {n m : Int} : m ∈ addNew acc n ↔ m ∈ acc ∨ m = n := by
  unfold addNew
  by_cases h : n ∈ acc
  · rw [if_pos h]
    exact ⟨.inl, fun z => z.elim id fun e => e ▸ h⟩
  · rw [if_neg h, List.mem_append, List.mem_singleton]
theorem fold_mem : ∀ (ns acc : List Int) (m : Int), m ∈ ns.foldl addNew acc ↔ m ∈ acc ∨ m ∈ ns
  | [], acc, m => by simp
  | n :: r, acc, m => by
    show m ∈ r.foldl addNew (addNew acc n) ↔ _
    rw [fold_mem r, addNew_mem, List.mem_cons, or_assoc]
theorem firsts_mem {ns : List Int} {m : Int} : m ∈ firsts ns ↔ m ∈ ns := by
  unfold firsts
  rw [fold_mem]
  simp
theorem addNew_nd {acc : List Int} {n : Int} (h : acc.Nodup) : (addNew acc n).Nodup := by
  unfold addNew
  by_cases e : n ∈ acc
  · rw [if_pos e]; exact h
  · rw [if_neg e]
    exact List.nodup_append.mpr ⟨h, by simp, fun u hu v hv => by rw [List.mem_singleton.mp hv]; rintro rfl; exact e hu⟩
theorem fold_nd : ∀ (ns acc : List Int), acc.Nodup → (ns.foldl addNew acc).Nodup
  | [], _, h => h
  | n :: r, acc, h => fold_nd r _ (addNew_nd h)
theorem firsts_nd (ns : List Int) : (firsts ns).Nodup := fold_nd ns [] List.nodup_nil
theorem fold_map {r : Int → Int} : ∀ (ns acc : List Int), (∀ n ∈ ns, ∀ m ∈ acc ++ ns, r n = r m → n = m) → (ns.map r).foldl addNew (acc.map r) = (ns.foldl addNew acc).map r
  | [], acc, _ => rfl
  | n :: ns, acc, inj => by
    have e : addNew (acc.map r) (r n) = (addNew acc n).map r := by
      unfold addNew
      by_cases h : n ∈ acc
      · rw [if_pos h, if_pos (List.mem_map.mpr ⟨n, h, rfl⟩)]
      · rw [if_neg h, if_neg, List.map_append]
        · rfl
        · intro z
          obtain ⟨m, hm, e⟩ := List.mem_map.mp z
          exact h (inj n List.mem_cons_self m (List.mem_append_left _ hm) e.symm ▸ hm)
    show (ns.map r).foldl addNew (addNew (acc.map r) (r n)) = (ns.foldl addNew (addNew acc n)).map r
    rw [e]
    refine fold_map ns (addNew acc n) fun a ha m hm z => inj a (List.mem_cons_of_mem _ ha) m ?_ z
    rcases List.mem_append.mp hm with h | h
    · rcases addNew_mem.mp h with h | rfl
      · exact List.mem_append_left _ h
      · exact List.mem_append_right _ List.mem_cons_self
    · exact List.mem_append_right _ (List.mem_cons_of_mem _ h)
theorem firsts_map {r : Int → Int} {ns : List Int} (inj : ∀ n ∈ ns, ∀ m ∈ ns, r n = r m → n = m) : firsts (ns.map r) = (firsts ns).map r := fold_map ns [] fun n hn m hm z => inj n hn m (by simpa using hm) z
/-- terms with their variables numbered from 0 -/
def tidy (ts : List Tm) : List Tm := ts.map (ren (posFrom 0 (firsts (Tm.occs ts))))
theorem occ_sub {ts : List Tm} {t : Tm} {n : Int} (h : t ∈ ts) (hn : n ∈ t.occ) : n ∈ Tm.occs ts := by
  induction ts with
  | nil => cases h
  | cons p ps ih =>
    show n ∈ p.occ ++ Tm.occs ps
    rcases List.mem_cons.mp h with rfl | h
    · exact List.mem_append_left _ hn
    · exact List.mem_append_right _ (ih h)
theorem tidy_ren {r : Int → Int} {ts : List Tm} (inj : ∀ n ∈ Tm.occs ts, ∀ m ∈ Tm.occs ts, r n = r m → n = m) : tidy (ts.map (ren r)) = tidy ts := by
  have e : Tm.occs (ts.map (ren r)) = (Tm.occs ts).map r := by
    rw [← rens_occ, Tm.subs_map]
    rfl
  unfold tidy
  rw [e, firsts_map inj, List.map_map]
  refine List.map_congr_left fun t ht => ?_
  show (ren r t).sub (fun n => .var (posFrom 0 ((firsts (Tm.occs ts)).map r) n)) = t.sub (fun n => .var (posFrom 0 (firsts (Tm.occs ts)) n))
  rw [ren_sub]
  refine Tm.sub_congr t fun n hn => ?_
  have hm := occ_sub ht hn
  show Tm.var (posFrom 0 ((firsts (Tm.occs ts)).map r) (r n)) = Tm.var (posFrom 0 (firsts (Tm.occs ts)) n)
  rw [pos_map _ _ (firsts_mem.mpr hm) fun m hm' z => inj n hm m (firsts_mem.mp hm') z]
theorem tidy_tidy (ts : List Tm) : tidy (tidy ts) = tidy ts :=
  tidy_ren fun n hn m hm z => pos_inj _ 0 n m (firsts_mem.mpr hn) (firsts_mem.mpr hm) z
theorem tidy_subst (ts : List Tm) : (ts.map fun t => t.sub (onv (numFrom 0 (firsts (Tm.occs ts))))) = tidy ts := by
  unfold tidy ren
  refine List.map_congr_left fun t _ => Tm.sub_congr t fun n _ => onv_num _ _ _
theorem sizes_map {f : Tm → Tm} (h : ∀ t, (f t).size = t.size) : ∀ ts : List Tm, Tm.sizes (ts.map f) = Tm.sizes ts
  | [] => rfl
  | t :: ts => by
    show (f t).size + Tm.sizes (ts.map f) = t.size + Tm.sizes ts
    rw [h, sizes_map h ts]
theorem sizes_le {k : Nat} : ∀ ts : List Tm, (∀ t ∈ ts, t.size ≤ k) → Tm.sizes ts ≤ ts.length * k
  | [], _ => Nat.zero_le _
  | t :: ts, h => by
    have a := h t List.mem_cons_self
    have b := sizes_le ts fun x hx => h x (List.mem_cons_of_mem _ hx)
    show t.size + Tm.sizes ts ≤ (ts.length + 1) * k
    rw [Nat.succ_mul]
    omega
mutual
theorem over_occ {cs : List (Str × Nat)} {ns : List Int} : ∀ (t : Tm) (d : Nat), TmOver cs ns d t → ∀ n ∈ t.occ, n ∈ ns
  | .var m, d, h, n, hn => by
    cases d with
    | zero => exact h.elim
    | succ d =>
      rw [List.mem_singleton.mp hn]
      exact h
  | .node w ps, d, h, n, hn => by
    cases d with
    | zero => exact h.elim
    | succ d => exact overs_occ ps d h.2 n hn
theorem overs_occ {cs : List (Str × Nat)} {ns : List Int} : ∀ (ts : List Tm) (d : Nat), (∀ t ∈ ts, TmOver cs ns d t) → ∀ n ∈ Tm.occs ts, n ∈ ns
  | [], _, _, n, hn => by cases hn
  | t :: ts, d, h, n, hn => by
    rcases List.mem_append.mp hn with z | z
    · exact over_occ t d (h t List.mem_cons_self) n z
    · exact overs_occ ts d (fun x hx => h x (List.mem_cons_of_mem _ hx)) n z
end
end Cf
namespace Lq
open PySem L2
/-! ### the words by equations -/
theorem bnd_e {α β : Type} (m : Wp α) (k : α → Wp β) (Q : β → Prop) : bnd m k Q = m fun a => k a Q := propext Iff.rfl
theorem ret_e {α : Type} (a : α) (Q : α → Prop) : ret a Q = Q a := propext Iff.rfl
theorem gd_e {α : Type} (c : Prop) (a : α) (Q : α → Prop) : gd c a Q = (c ∧ Q a) := propext Iff.rfl
theorem bad_e {α : Type} (Q : α → Prop) : bad Q = False := propext Iff.rfl
theorem runQ_e (N : Nat) (body : Rho → Wp Out) (ds : List PyData) (Q : PyData → Prop) : runQ N body ds Q = body (ds.map Sl.val ++ List.replicate (N - ds.length) .un) (endQ Q) := propext Iff.rfl
theorem runQP_e (N : Nat) (body : Rho → Wp Out) (ds : List PyData) (Q : PyData → Prop) : runQP N body ds Q = body (.pool :: (ds.map Sl.val ++ List.replicate (N - (ds.length + 1)) .un)) (endQ Q) := propext Iff.rfl
theorem slV_e (d : PyData) (Q : PyData → Prop) : slV (some (.val d)) Q = Q d := propext Iff.rfl
theorem slO_e (ds : List PyData) (Q : PyData → Prop) : slO (some (.lst ds)) Q = Q (.list ds) := propext Iff.rfl
theorem slO_d (ds : List (PyData × PyData)) (Q : PyData → Prop) : slO (some (.dic ds)) Q = Q (.dict ds) := propext Iff.rfl
theorem slO_t (ds : List (PyData × PyData)) (Q : PyData → Prop) : slO (some (.dit ds)) Q = Q (.dict ((.none, .none) :: ds)) := propext Iff.rfl
theorem slP_e (Q : Unit → Prop) : slP (some .pool) Q = Q () := propext Iff.rfl
theorem slD_e (ds : List (PyData × PyData)) (Q : List (PyData × PyData) → Prop) : slD (some (.dic ds)) Q = Q ds := propext Iff.rfl
theorem slDT_e (ds : List (PyData × PyData)) (Q : List (PyData × PyData) → Prop) : slDT (some (.dit ds)) Q = Q ds := propext Iff.rfl
theorem slL_e (ds : List PyData) (Q : List PyData → Prop) : slL (some (.lst ds)) Q = Q ds := propext Iff.rfl
theorem gN_e (i : Nat) (d : PyData) (ρ : Rho) (Q : Rho → Prop) : gN i d ρ Q = Q (ρ.set i (.val d)) := propext Iff.rfl
theorem gT_e (k : List PyData → Rho → Wp Rho) (ds : List PyData) (ρ : Rho) (Q : Rho → Prop) : gT k (.tuple ds) ρ Q = k ds ρ Q := propext Iff.rfl
theorem gsCons_e (k : PyData → Rho → Wp Rho) (l : List PyData → Rho → Wp Rho) (d : PyData) (ds : List PyData) (ρ : Rho) (Q : Rho → Prop) : gsCons k l (d :: ds) ρ Q = k d ρ fun ρ' => l ds ρ' Q := propext Iff.rfl
theorem gsNil_e (ρ : Rho) (Q : Rho → Prop) : gsNil [] ρ Q = Q ρ := propext ⟨fun h => h.2, fun h => ⟨rfl, h⟩⟩
theorem sSet_e (k : PyData → Rho → Wp Rho) (f : Rho → Wp PyData) (ρ : Rho) (Q : Out → Prop) : sSet k f ρ Q = f ρ fun d => k d ρ fun ρ' => Q (.nx ρ') := propext Iff.rfl
theorem sSetIx_e (i : Nat) (fk fe : Rho → Wp PyData) (ρ : Rho) (Q : Out → Prop) : sSetIx i fk fe ρ Q = fe ρ fun z => slL ρ[i]? fun ds => fk ρ fun y => atW (match y with
  | .int n => ixN ds.length n
  | _ => none) fun j => Q (.nx (ρ.set i (.lst (ds.set j z)))) := propext Iff.rfl
theorem fLc_e (fi : Rho → Wp (List PyData)) (k : PyData → Rho → Wp Rho) (t : Rho → Wp Bool) (f : Rho → Wp PyData) (vs : List Nat) (ρ : Rho) (Q : List PyData → Prop) : fLc fi k t f vs ρ Q = fi ρ fun ds => (ds.length ≤ sizeLine ∧ noOwn ρ vs = true) ∧ wLc k t f ds (wipeR ρ vs) Q := propext Iff.rfl
theorem fDc_e (fi : Rho → Wp (List PyData)) (k : PyData → Rho → Wp Rho) (t : Rho → Wp Bool) (fk fv : Rho → Wp PyData) (vs : List Nat) (ρ : Rho) (Q : List (PyData × PyData) → Prop) : fDc fi k t fk fv vs ρ Q = fi ρ fun ds => (ds.length ≤ sizeLine ∧ noOwn ρ vs = true) ∧ wDc k t fk fv ds (wipeR ρ vs) [] Q := propext Iff.rfl
theorem eRg1_e (l : Bool) (f : Rho → Wp PyData) (ρ : Rho) (Q : PyData → Prop) : eRg1 l f ρ Q = f ρ fun d => (match d with
  | .int n => rgW 0 n l
  | _ => bad) Q := propext ⟨fun h => h, fun h => h⟩
theorem rgW_e (a b : Int) (l : Bool) (Q : PyData → Prop) : rgW a b l Q = (RgOk a b ∧ Q (if l = true then .list (upto a (b - a).toNat) else .tuple (upto a (b - a).toNat))) := propext Iff.rfl
theorem tyQ_e (neg : Bool) (T : String) (d : PyData) (Q : PyData → Prop) : tyQ neg T d Q = (tyD d ≠ "dict" ∧ Q (.bool (if neg then !decide (tyD d = T) else decide (tyD d = T)))) := propext Iff.rfl
theorem signsW_e (x : Str) (Q : List PyData → Prop) : signsW (.str x) Q = Q (signs x) := propext Iff.rfl
theorem zipWl_e (a b : List PyData) (Q : List PyData → Prop) : zipW [.list a, .list b] Q = Q (zipD a b) := propext Iff.rfl
theorem zipWt_e (a b : List PyData) (Q : List PyData → Prop) : zipW [.tuple a, .tuple b] Q = Q (zipD a b) := propext Iff.rfl
theorem enumWl_e (a : List PyData) (Q : List PyData → Prop) : enumW [.list a] Q = Q (enumD a) := propext Iff.rfl
theorem bolsOf_map (bs : List Bool) : bolsOf (bs.map .bool) = some bs := by
  induction bs with
  | nil => rfl
  | cons b bs ih => simp only [List.map_cons, bolsOf, ih]; rfl
theorem allQl_e (bs : List Bool) (Q : PyData → Prop) : allQ [.list (bs.map .bool)] Q = Q (.bool (bs.all id)) := by
  show bolsW (bs.map .bool) (fun ns => Q (.bool (ns.all id))) = _
  unfold bolsW; rw [bolsOf_map]; exact propext Iff.rfl
theorem anyQl_e (bs : List Bool) (Q : PyData → Prop) : anyQ [.list (bs.map .bool)] Q = Q (.bool (bs.any id)) := by
  show bolsW (bs.map .bool) (fun ns => Q (.bool (ns.any id))) = _
  unfold bolsW; rw [bolsOf_map]; exact propext Iff.rfl
theorem inS1_e (neg : Bool) (c : Nat) (z : Str) (Q : PyData → Prop) : inQ neg (.str ⟨#[c]⟩) (.str z) Q = Q (.bool (if neg then !decide (c ∈ z.cps.toList) else decide (c ∈ z.cps.toList))) := propext Iff.rfl
theorem endQ_rt_e (Q : PyData → Prop) (d : PyData) : endQ Q (.rt d) = Q d := propext Iff.rfl
theorem endQ_nx_e (Q : PyData → Prop) (ρ : Rho) : endQ Q (.nx ρ) = Q .none := propext Iff.rfl
theorem sSeq_e (f k : Rho → Wp Out) (ρ : Rho) (Q : Out → Prop) : sSeq f k ρ Q = (bnd (f ρ) (thenO k)) Q := propext Iff.rfl
theorem sNil_e (ρ : Rho) (Q : Out → Prop) : sNil ρ Q = (ret (.nx ρ)) Q := propext Iff.rfl
theorem eVar_e (i : Nat) (ρ : Rho) (Q : PyData → Prop) : eVar i ρ Q = (slV ρ[i]?) Q := propext Iff.rfl
theorem eOwn_e (i : Nat) (ρ : Rho) (Q : PyData → Prop) : eOwn i ρ Q = (slO ρ[i]?) Q := propext Iff.rfl
theorem eC_e (d : PyData) (ρ : Rho) (Q : PyData → Prop) : eC d ρ Q = (ret d) Q := propext Iff.rfl
theorem eOp_e (o : PyData → PyData → Wp PyData) (f k : Rho → Wp PyData) (ρ : Rho) (Q : PyData → Prop) : eOp o f k ρ Q = (bnd (f ρ) fun d => bnd (k ρ) fun e => o d e) Q := propext Iff.rfl
theorem eTup_e (k : Rho → Wp (List PyData)) (ρ : Rho) (Q : PyData → Prop) : eTup k ρ Q = (bnd (k ρ) fun ds => gd (ds.length ≤ sizeLine) (.tuple ds)) Q := propext Iff.rfl
theorem aNil_e (ρ : Rho) (Q : List PyData → Prop) : aNil ρ Q = (ret []) Q := propext Iff.rfl
theorem aCons_e (f : Rho → Wp PyData) (k : Rho → Wp (List PyData)) (ρ : Rho) (Q : List PyData → Prop) : aCons f k ρ Q = (bnd (f ρ) fun d => bnd (k ρ) fun ds => ret (d :: ds)) Q := propext Iff.rfl
theorem sRet_e (f : Rho → Wp PyData) (ρ : Rho) (Q : Out → Prop) : sRet f ρ Q = (bnd (f ρ) fun d => ret (.rt d)) Q := propext Iff.rfl
theorem sIf_e (c : Rho → Wp Bool) (f k : Rho → Wp Out) (ρ : Rho) (Q : Out → Prop) : sIf c f k ρ Q = (bnd (c ρ) fun b => if b = true then f ρ else k ρ) Q := propext Iff.rfl
theorem sExpr_e (f : Rho → Wp PyData) (ρ : Rho) (Q : Out → Prop) : sExpr f ρ Q = (bnd (f ρ) fun _ => ret (.nx ρ)) Q := propext Iff.rfl
theorem tT_e (f : Rho → Wp PyData) (ρ : Rho) (Q : Bool → Prop) : tT f ρ Q = (bnd (f ρ) asB) Q := propext Iff.rfl
theorem tTru_e (f : Rho → Wp PyData) (ρ : Rho) (Q : Bool → Prop) : tTru f ρ Q = (bnd (f ρ) tru) Q := propext Iff.rfl
theorem tNo_e (f : Rho → Wp Bool) (ρ : Rho) (Q : Bool → Prop) : tNo f ρ Q = (bnd (f ρ) fun b => ret (!b)) Q := propext Iff.rfl
theorem tBoth_e (f k : Rho → Wp Bool) (ρ : Rho) (Q : Bool → Prop) : tBoth f k ρ Q = (bnd (f ρ) fun b => if b = true then k ρ else ret false) Q := propext Iff.rfl
theorem tEither_e (f k : Rho → Wp Bool) (ρ : Rho) (Q : Bool → Prop) : tEither f k ρ Q = (bnd (f ρ) fun b => if b = true then ret true else k ρ) Q := propext Iff.rfl
theorem eBoth_e (f k : Rho → Wp PyData) (ρ : Rho) (Q : PyData → Prop) : eBoth f k ρ Q = (bnd (f ρ) fun d => bnd (tru d) fun b => if b = true then k ρ else ret d) Q := propext Iff.rfl
theorem eEither_e (f k : Rho → Wp PyData) (ρ : Rho) (Q : PyData → Prop) : eEither f k ρ Q = (bnd (f ρ) fun d => bnd (tru d) fun b => if b = true then ret d else k ρ) Q := propext Iff.rfl
theorem eNo_e (f : Rho → Wp PyData) (ρ : Rho) (Q : PyData → Prop) : eNo f ρ Q = (bnd (f ρ) fun d => bnd (tru d) fun b => ret (.bool (!b))) Q := propext Iff.rfl
theorem eIf_e (c : Rho → Wp Bool) (f k : Rho → Wp PyData) (ρ : Rho) (Q : PyData → Prop) : eIf c f k ρ Q = (bnd (c ρ) fun b => if b = true then f ρ else k ρ) Q := propext Iff.rfl
theorem eCall_e (o : List PyData → Wp PyData) (k : Rho → Wp (List PyData)) (ρ : Rho) (Q : PyData → Prop) : eCall o k ρ Q = (bnd (k ρ) o) Q := propext Iff.rfl
theorem eFn_e (m : List PyData → Wp PyData) (k : Rho → Wp (List PyData)) (ρ : Rho) (Q : PyData → Prop) : eFn m k ρ Q = (bnd (k ρ) fun ds => up (m ds)) Q := propext Iff.rfl
theorem eFnP_e (i : Nat) (m : List PyData → Wp PyData) (k : Rho → Wp (List PyData)) (ρ : Rho) (Q : PyData → Prop) : eFnP i m k ρ Q = (bnd (slP ρ[i]?) fun _ => bnd (k ρ) fun ds => up (m ds)) Q := propext Iff.rfl
theorem eSl_e (f : Rho → Wp PyData) (l h : Rho → Wp (Option Int)) (ρ : Rho) (Q : PyData → Prop) : eSl f l h ρ Q = (bnd (f ρ) fun d => bnd (l ρ) fun lo => bnd (h ρ) fun hi => slQ d lo hi) Q := propext Iff.rfl
theorem aPart_e (f : Rho → Wp PyData) (ρ : Rho) (Q : Option Int → Prop) : aPart f ρ Q = (bnd (f ρ) intOf) Q := propext Iff.rfl
theorem noPart_e (ρ : Rho) (Q : Option Int → Prop) : noPart ρ Q = (ret none) Q := propext Iff.rfl
theorem eIsi_e (T : String) (f : Rho → Wp PyData) (ρ : Rho) (Q : PyData → Prop) : eIsi T f ρ Q = (bnd (f ρ) fun d => bnd (atW (isiD d T)) fun b => ret (.bool b)) Q := propext Iff.rfl
theorem eTy_e (neg : Bool) (T : String) (f : Rho → Wp PyData) (ρ : Rho) (Q : PyData → Prop) : eTy neg T f ρ Q = (bnd (f ρ) (tyQ neg T)) Q := propext Iff.rfl
theorem eGet1_e (fo fi : Rho → Wp PyData) (ρ : Rho) (Q : PyData → Prop) : eGet1 fo fi ρ Q = (bnd (fo ρ) fun d => bnd (gd (tyD d = "dict") ()) fun _ => bnd (fi ρ) fun k => bnd (dgetW d k) fun r => ret (r.getD .none)) Q := propext Iff.rfl
theorem eGet2_e (fo fi fe : Rho → Wp PyData) (ρ : Rho) (Q : PyData → Prop) : eGet2 fo fi fe ρ Q = (bnd (fo ρ) fun d => bnd (gd (tyD d = "dict") ()) fun _ => bnd (fi ρ) fun k => bnd (fe ρ) fun x => bnd (dgetW d k) fun r => ret (r.getD x)) Q := propext Iff.rfl
theorem eDget_e (fo fi : Rho → Wp PyData) (ρ : Rho) (Q : PyData → Prop) : eDget fo fi ρ Q = (bnd (fo ρ) fun d => bnd (fi ρ) fun k => bnd (dgetW d k) atW) Q := propext Iff.rfl
theorem eDin_e (neg : Bool) (fi fo : Rho → Wp PyData) (ρ : Rho) (Q : PyData → Prop) : eDin neg fi fo ρ Q = (bnd (fi ρ) fun k => bnd (fo ρ) fun d => bnd (dgetW d k) fun r => ret (.bool (if neg then !r.isSome else r.isSome))) Q := propext Iff.rfl
theorem sDnew_e (i : Nat) (ρ : Rho) (Q : Out → Prop) : sDnew i ρ Q = (ret (.nx (ρ.set i (.dic [])))) Q := propext Iff.rfl
theorem sPut_e (i : Nat) (fk fe : Rho → Wp PyData) (ρ : Rho) (Q : Out → Prop) : sPut i fk fe ρ Q = (bnd (fe ρ) fun z => bnd (slD ρ[i]?) fun es => bnd (fk ρ) fun y => gd (es.length < sizeLine ∧ keyP y ≠ none) (.nx (ρ.set i (.dic (putP es y z))))) Q := propext Iff.rfl
theorem sNew_e (i : Nat) (f : Rho → Wp (List PyData)) (ρ : Rho) (Q : Out → Prop) : sNew i f ρ Q = (bnd (f ρ) fun ds => ret (.nx (ρ.set i (.lst ds)))) Q := propext Iff.rfl
theorem lLst_e (k : Rho → Wp (List PyData)) (ρ : Rho) (Q : List PyData → Prop) : lLst k ρ Q = (bnd (k ρ) fun ds => gd (ds.length ≤ sizeLine) ds) Q := propext Iff.rfl
theorem sApp_e (i : Nat) (f : Rho → Wp PyData) (ρ : Rho) (Q : Out → Prop) : sApp i f ρ Q = (bnd (slL ρ[i]?) fun ds => bnd (f ρ) fun d => gd (ds.length < sizeLine) (.nx (ρ.set i (.lst (ds ++ [d]))))) Q := propext Iff.rfl
theorem eL_e (f : Rho → Wp (List PyData)) (ρ : Rho) (Q : PyData → Prop) : eL f ρ Q = (bnd (f ρ) fun ds => ret (.list ds)) Q := propext Iff.rfl
theorem sPop_e (i : Nat) (k : PyData → Rho → Wp Rho) (ρ : Rho) (Q : Out → Prop) : sPop i k ρ Q = (bnd (slL ρ[i]?) fun ds => bnd (atW ds.getLast?) fun d => bnd (k d (ρ.set i (.lst ds.dropLast))) fun ρ' => ret (.nx ρ')) Q := propext Iff.rfl
theorem sExt_e (i : Nat) (f : Rho → Wp PyData) (ρ : Rho) (Q : Out → Prop) : sExt i f ρ Q = (bnd (slL ρ[i]?) fun ds => bnd (f ρ) fun d => bnd (items d) fun es => gd (ds.length + es.length ≤ sizeLine) (.nx (ρ.set i (.lst (ds ++ es))))) Q := propext Iff.rfl
theorem lList_e (f : Rho → Wp PyData) (ρ : Rho) (Q : List PyData → Prop) : lList f ρ Q = (bnd (f ρ) items) Q := propext Iff.rfl
theorem iSeq_e (fe : Rho → Wp PyData) (ρ : Rho) (Q : List PyData → Prop) : iSeq fe ρ Q = (bnd (fe ρ) items) Q := propext Iff.rfl
theorem iCall_e (o : List PyData → Wp (List PyData)) (k : Rho → Wp (List PyData)) (ρ : Rho) (Q : List PyData → Prop) : iCall o k ρ Q = (bnd (k ρ) o) Q := propext Iff.rfl
theorem eNeg_e (f : Rho → Wp PyData) (ρ : Rho) (Q : PyData → Prop) : eNeg f ρ Q = (bnd (f ρ) negQ) Q := propext Iff.rfl
theorem eChain_e (o o' : PyData → PyData → Wp PyData) (f k l : Rho → Wp PyData) (ρ : Rho) (Q : PyData → Prop) : eChain o o' f k l ρ Q = (bnd (f ρ) fun d => bnd (k ρ) fun e => bnd (o d e) fun z => bnd (asB z) fun c => if c = true then bnd (l ρ) fun i => o' e i else ret (.bool false)) Q := propext Iff.rfl
theorem eBack_e (f : Rho → Wp PyData) (h : Rho → Wp (Option Int)) (ρ : Rho) (Q : PyData → Prop) : eBack f h ρ Q = (bnd (f ρ) fun d => bnd (h ρ) (backQ d)) Q := propext Iff.rfl
theorem sFrz_e (i : Nat) (f : Rho → Wp Out) (ρ : Rho) (Q : Out → Prop) : sFrz i f ρ Q = (f (frzR i ρ)) Q := propext Iff.rfl
theorem sPutT_e (i : Nat) (fk fe : Rho → Wp PyData) (ρ : Rho) (Q : Out → Prop) : sPutT i fk fe ρ Q = (bnd (fe ρ) fun z => bnd (slDT ρ[i]?) fun es => bnd (fk ρ) fun y Q => ∃ ks, y = .tuple ks ∧ es.length < sizeLine ∧ keysP ks ≠ none ∧ Q (.nx (ρ.set i (.dit (putP es y z))))) Q := propext Iff.rfl
theorem sDnewT_e (i : Nat) (ρ : Rho) (Q : Out → Prop) : sDnewT i ρ Q = (ret (.nx (ρ.set i (.dit [])))) Q := propext Iff.rfl
theorem sFor_e (fi : Rho → Wp (List PyData)) (k : PyData → Rho → Wp Rho) (b : Rho → Wp Out) (ρ : Rho) (Q : Out → Prop) : sFor fi k b ρ Q = (bnd (fi ρ) fun ds => wFor k b ds ρ) Q := propext Iff.rfl
theorem eD_e (f : Rho → Wp (List (PyData × PyData))) (ρ : Rho) (Q : PyData → Prop) : eD f ρ Q = (bnd (f ρ) fun es => ret (.dict es)) Q := propext Iff.rfl
theorem tAll_e (ρ : Rho) (Q : Bool → Prop) : tAll ρ Q = (ret true) Q := propext Iff.rfl
theorem iStr_e (f : Rho → Wp PyData) (ρ : Rho) (Q : List PyData → Prop) : iStr f ρ Q = (bnd (f ρ) signsW) Q := propext Iff.rfl
end Lq
namespace Lq
open PySem L2
theorem eDisp_e (f : Rho → Wp (List (PyData × PyData))) (ρ : Rho) (Q : PyData → Prop) : eDisp f ρ Q = (bnd (f ρ) fun es => gd (es.length ≤ 15) (.dict (mergeP [] es))) Q := propext Iff.rfl
theorem ppCons_e (fk fv : Rho → Wp PyData) (r : Rho → Wp (List (PyData × PyData))) (ρ : Rho) (Q : List (PyData × PyData) → Prop) : ppCons fk fv r ρ Q = (bnd (fk ρ) fun y => bnd (fv ρ) fun z => bnd (r ρ) fun es => bnd (keyW y) fun j => ret ((kD j, z) :: es)) Q := propext Iff.rfl
theorem ppNil_e (ρ : Rho) (Q : List (PyData × PyData) → Prop) : ppNil ρ Q = (ret []) Q := propext Iff.rfl
end Lq
namespace Lq
open PySem L2
theorem eListVals_e (f : Rho → Wp PyData) (ρ : Rho) (Q : PyData → Prop) : eListVals f ρ Q = (bnd (f ρ) valsQ) Q := propext Iff.rfl
theorem lAdd_e (f k : Rho → Wp PyData) (ρ : Rho) (Q : List PyData → Prop) : lAdd f k ρ Q = (bnd (f ρ) fun d => bnd (k ρ) fun e => catL d e) Q := propext Iff.rfl
end Lq
namespace Lq
open PySem L2
theorem fLcD_e (i : Nat) (m : PyData × PyData → PyData) (k : PyData → Rho → Wp Rho) (t : Rho → Wp Bool) (f : Rho → Wp PyData) (vs : List Nat) (ρ : Rho) (Q : List PyData → Prop) : fLcD i m k t f vs ρ Q = eVar i ρ fun d => dictW d fun es => (es.length ≤ sizeLine ∧ noOwn ρ vs = true) ∧ wLc k t f (es.map m) (wipeR ρ vs) Q := propext Iff.rfl
theorem lZip_e (k : Rho → Wp (List PyData)) (ρ : Rho) (Q : List PyData → Prop) : lZip k ρ Q = k ρ fun ds => zipT ds Q := propext Iff.rfl
theorem zipT_e (a b : List PyData) (Q : List PyData → Prop) : zipT [.tuple a, .tuple b] Q = Q (zipD a b) := propext Iff.rfl
theorem enumWA_l (a : List PyData) (Q : List PyData → Prop) : enumWA [.list a] Q = Q (enumD a) := propext Iff.rfl
theorem enumWA_t (a : List PyData) (Q : List PyData → Prop) : enumWA [.tuple a] Q = Q (enumD a) := propext Iff.rfl
theorem dictW_e (es : List (PyData × PyData)) (Q : List (PyData × PyData) → Prop) : dictW (.dict es) Q = (marked es = false ∧ Q es) := propext Iff.rfl
end Lq
namespace Lq
open PySem L2
/-! ### the words of q36 to q41 by equations -/
theorem runZ_e (N : Nat) (body : Rho → Wp Out) (ds : List PyData) (gs : List Gh) (Q : PyData × List Gh → Prop) : runZ N body ds gs Q = body (ds.map Sl.val ++ (ptrsFrom (N - gs.length) gs ++ (List.replicate (N - (ds.length + gs.length + gs.length)) Sl.un ++ gs.map (Sl.gh true)))) (endZ (N - gs.length) gs.length Q) := propext Iff.rfl
theorem ptrs_c (j : Nat) (g : Gh) (gs : List Gh) : ptrsFrom j (g :: gs) = .ptr j :: ptrsFrom (j + 1) gs := id rfl
theorem ptrs_n (j : Nat) : ptrsFrom j [] = [] := id rfl
theorem endZ_rs (J m : Nat) (d : PyData) (ρ : Rho) (Q : PyData × List Gh → Prop) : endZ J m Q (.rs d ρ) = ∃ gs, ρ.drop J = gs.map (Sl.gh true) ∧ gs.length = m ∧ Q (d, gs) := propext Iff.rfl
theorem endZ_nx (J m : Nat) (ρ : Rho) (Q : PyData × List Gh → Prop) : endZ J m Q (.nx ρ) = ∃ gs, ρ.drop J = gs.map (Sl.gh true) ∧ gs.length = m ∧ Q (.none, gs) := propext Iff.rfl
theorem one_gh (g : Gh) (P : List Gh → Prop) : (∃ gs, [Sl.gh true g] = gs.map (Sl.gh true) ∧ gs.length = 1 ∧ P gs) = P [g] := propext ⟨fun ⟨gs, a, b, c⟩ => by
  match gs, b with
  | [x], _ =>
    have : Sl.gh true g = Sl.gh true x := by simpa using a
    cases this
    exact c, fun h => ⟨[g], rfl, rfl, h⟩⟩
theorem thenO_rs (k : Rho → Wp Out) (d : PyData) (ρ : Rho) : thenO k (.rs d ρ) = ret (.rs d ρ) := id rfl
theorem eGh_e (i j : Nat) (ρ : Rho) (Q : PyData → Prop) : eGh i j ρ Q = slG j ρ[i]? ρ[j]? fun g => Q (ghD g) := propext Iff.rfl
theorem slG_e (j : Nat) (b : Bool) (g : Gh) (Q : Gh → Prop) : slG j (some (.ptr j)) (some (.gh b g)) Q = Q g := propext ⟨fun h => h.2, fun h => ⟨rfl, h⟩⟩
theorem ghD_l (ds : List PyData) : ghD (.lst ds) = .list ds := id rfl
theorem ghD_d (es : List (PyData × PyData)) : ghD (.dic es) = .dict es := id rfl
theorem ghD_t (es : List (PyData × PyData)) : ghD (.dit es) = .dict ((.none, .none) :: es) := id rfl
theorem zPure_e (f : Rho → Wp PyData) (ρ : Rho) (Q : PyData × Rho → Prop) : zPure f ρ Q = f ρ fun d => Q (d, ρ) := propext Iff.rfl
theorem zNil_e (ρ : Rho) (Q : List PyData × Rho → Prop) : zNil ρ Q = Q ([], ρ) := propext Iff.rfl
theorem zCons_e (f : Rho → Wp (PyData × Rho)) (k : Rho → Wp (List PyData × Rho)) (ρ : Rho) (Q : List PyData × Rho → Prop) : zCons f k ρ Q = f ρ fun r => k r.2 fun s => Q (r.1 :: s.1, s.2) := propext Iff.rfl
theorem zOp_e (o : PyData → PyData → Wp PyData) (f k : Rho → Wp (PyData × Rho)) (ρ : Rho) (Q : PyData × Rho → Prop) : zOp o f k ρ Q = f ρ fun r => k r.2 fun s => o r.1 s.1 fun d => Q (d, s.2) := propext Iff.rfl
theorem zTup_e (k : Rho → Wp (List PyData × Rho)) (ρ : Rho) (Q : PyData × Rho → Prop) : zTup k ρ Q = k ρ fun r => r.1.length ≤ sizeLine ∧ Q (.tuple r.1, r.2) := propext Iff.rfl
theorem zCall_e (o : List PyData → Wp PyData) (k : Rho → Wp (List PyData × Rho)) (ρ : Rho) (Q : PyData × Rho → Prop) : zCall o k ρ Q = k ρ fun r => o r.1 fun d => Q (d, r.2) := propext Iff.rfl
theorem zT_e (f : Rho → Wp (PyData × Rho)) (ρ : Rho) (Q : Bool × Rho → Prop) : zT f ρ Q = f ρ fun r => tru r.1 fun b => Q (b, r.2) := propext Iff.rfl
theorem zNo_e (f : Rho → Wp (Bool × Rho)) (ρ : Rho) (Q : Bool × Rho → Prop) : zNo f ρ Q = f ρ fun r => Q (!r.1, r.2) := propext Iff.rfl
theorem sRetZ_e (f : Rho → Wp (PyData × Rho)) (ρ : Rho) (Q : Out → Prop) : sRetZ f ρ Q = f ρ fun r => Q (.rs r.1 r.2) := propext Iff.rfl
theorem sExprZ_e (f : Rho → Wp (PyData × Rho)) (ρ : Rho) (Q : Out → Prop) : sExprZ f ρ Q = f ρ fun r => Q (.nx r.2) := propext Iff.rfl
theorem sSetZ_e (k : PyData → Rho → Wp Rho) (f : Rho → Wp (PyData × Rho)) (ρ : Rho) (Q : Out → Prop) : sSetZ k f ρ Q = f ρ fun r => k r.1 r.2 fun ρ' => Q (.nx ρ') := propext Iff.rfl
theorem sIfZ_e (c : Rho → Wp (Bool × Rho)) (f k : Rho → Wp Out) (ρ : Rho) (Q : Out → Prop) : sIfZ c f k ρ Q = c ρ fun r => (if r.1 = true then f r.2 else k r.2) Q := propext Iff.rfl
theorem zFn_e (m : List PyData → List Gh → Wp (PyData × List Gh)) (js : List Nat) (k : Rho → Wp (List PyData × Rho)) (ρ : Rho) (Q : PyData × Rho → Prop) : zFn m js k ρ Q = k ρ fun r => getG r.2 js fun gs => up (m r.1 gs) fun a => putG r.2 js a.2 fun ρ' => Q (a.1, ρ') := propext Iff.rfl
theorem getG1_e (ρ : Rho) (j : Nat) (Q : List Gh → Prop) : getG ρ [j] Q = slGh ρ[j]? fun g => Q [g] := propext Iff.rfl
theorem slGh_e (b : Bool) (g : Gh) (Q : Gh → Prop) : slGh (some (.gh b g)) Q = Q g := propext Iff.rfl
theorem putG1_e (ρ : Rho) (j : Nat) (g : Gh) (Q : Rho → Prop) : putG ρ [j] [g] Q = regh g ρ[j]? fun s => Q (ρ.set j s) := propext Iff.rfl
theorem regh_e (g : Gh) (b : Bool) (g0 : Gh) (Q : Sl → Prop) : regh g (some (.gh b g0)) Q = Q (.gh b g) := propext Iff.rfl
theorem zPtrs1_e (i j : Nat) (ρ : Rho) (Q : List PyData × Rho → Prop) : zPtrs [(i, j)] ρ Q = slG j ρ[i]? ρ[j]? fun _ => Q ([], ρ) := propext Iff.rfl
theorem eFnN_e (m : List PyData → List Gh → Wp (PyData × List Gh)) (g : Gh) (k : Rho → Wp (List PyData)) (ρ : Rho) (Q : PyData → Prop) : eFnN m g k ρ Q = k ρ fun ds => up (m ds [g]) fun a => Q a.1 := propext Iff.rfl
theorem sGPut_e (i j : Nat) (fk fe : Rho → Wp PyData) (ρ : Rho) (Q : Out → Prop) : sGPut i j fk fe ρ Q = fe ρ fun z => slG j ρ[i]? ρ[j]? fun g => gDic g fun es => fk ρ fun y => (es.length < sizeLine ∧ keyP y ≠ none) ∧ regh (.dic (putP es y z)) ρ[j]? fun s => Q (.nx (ρ.set j s)) := propext Iff.rfl
theorem sGApp_e (i j : Nat) (f : Rho → Wp PyData) (ρ : Rho) (Q : Out → Prop) : sGApp i j f ρ Q = slG j ρ[i]? ρ[j]? fun g => gLst g fun ds => f ρ fun d => ds.length < sizeLine ∧ regh (.lst (ds ++ [d])) ρ[j]? fun s => Q (.nx (ρ.set j s)) := propext Iff.rfl
theorem gLst_e (ds : List PyData) (Q : List PyData → Prop) : gLst (.lst ds) Q = Q ds := propext Iff.rfl
theorem gDic_e (ds : List (PyData × PyData)) (Q : List (PyData × PyData) → Prop) : gDic (.dic ds) Q = Q ds := propext Iff.rfl
theorem gDit_e (ds : List (PyData × PyData)) (Q : List (PyData × PyData) → Prop) : gDit (.dit ds) Q = Q ds := propext Iff.rfl
theorem zSetd_e (i j : Nat) (fk fe : Rho → Wp PyData) (ρ : Rho) (Q : PyData × Rho → Prop) : zSetd i j fk fe ρ Q = slG j ρ[i]? ρ[j]? fun g => gDit g fun es => fk ρ fun y => fe ρ fun z => es.length < sizeLine ∧ dgT es y fun r => (match r with
  | some d => ret (d, ρ)
  | none => bnd (regh (.dit (putP es y z)) ρ[j]?) fun s => ret (z, ρ.set j s)) Q := propext Iff.rfl
theorem zLc_e (fi : Rho → Wp (List PyData)) (k : PyData → Rho → Wp Rho) (t : Rho → Wp Bool) (f : Rho → Wp (PyData × Rho)) (vs : List Nat) (ρ : Rho) (Q : PyData × Rho → Prop) : zLc fi k t f vs ρ Q = fi ρ fun ds => (ds.length ≤ sizeLine ∧ plV ρ vs = true) ∧ wLcZ k t f vs ds (wipeR ρ vs) fun r => Q (.list r.1, restR ρ r.2 vs) := propext Iff.rfl
def isPl : Option Sl → Bool
  | some .un => true
  | some (.val _) => true
  | _ => false
theorem plV_n (ρ : Rho) : plV ρ [] = true := rfl
theorem plV_c (ρ : Rho) (v : Nat) (vs : List Nat) : plV ρ (v :: vs) = (isPl ρ[v]? && plV ρ vs) := by
  unfold plV
  rw [List.all_cons]
  rfl
theorem isPl_u : isPl (some .un) = true := id rfl
theorem isPl_v (d : PyData) : isPl (some (.val d)) = true := id rfl
theorem rest_n (ρ ρe : Rho) : restR ρ ρe [] = ρe := id rfl
theorem rest_c (ρ ρe : Rho) (v : Nat) (vs : List Nat) : restR ρ ρe (v :: vs) = (restR ρ ρe vs).set v (ρ[v]?.getD .un) := id rfl
theorem eJoined_e (k : Str → Rho → Wp Str) (ρ : Rho) (Q : PyData → Prop) : eJoined k ρ Q = k Str.empty ρ fun y => Q (.str y) := propext Iff.rfl
theorem jNil_e (a : Str) (ρ : Rho) (Q : Str → Prop) : jNil a ρ Q = Q a := propext Iff.rfl
theorem jStr_e (x : Str) (k : Str → Rho → Wp Str) (acc : Str) (ρ : Rho) (Q : Str → Prop) : jStr x k acc ρ Q = ((acc ++ x).length ≤ sizeLine ∧ k (acc ++ x) ρ Q) := propext Iff.rfl
theorem jVal_e (f : Rho → Wp PyData) (k : Str → Rho → Wp Str) (acc : Str) (ρ : Rho) (Q : Str → Prop) : jVal f k acc ρ Q = f ρ fun d => fmtW d fun y => (acc ++ y).length ≤ sizeLine ∧ k (acc ++ y) ρ Q := propext Iff.rfl
theorem fmtW_i (i : Int) (Q : Str → Prop) : fmtW (.int i) Q = (i.natAbs.log2 < 1920 ∧ Q (toString i)) := propext Iff.rfl
theorem fmtW_s (y : Str) (Q : Str → Prop) : fmtW (.str y) Q = (y.length ≤ sizeLine ∧ Q y) := propext Iff.rfl
theorem eJoin_e (f k : Rho → Wp PyData) (ρ : Rho) (Q : PyData → Prop) : eJoin f k ρ Q = f ρ fun d => strW d fun a => k ρ fun e => items e fun ds => strsW ds fun ys => (ys.map (·.length)).sum + ys.length * a.length ≤ 16777216 ∧ Q (.str (Txt.join a ys)) := propext Iff.rfl
theorem strW_e (y : Str) (Q : Str → Prop) : strW (.str y) Q = Q y := propext Iff.rfl
theorem strsW_map (ys : List Str) (Q : List Str → Prop) : strsW (ys.map .str) Q = Q ys := by
  induction ys generalizing Q with
  | nil => exact propext Iff.rfl
  | cons y ys ih =>
    show strsW (ys.map .str) (fun zs => Q (y :: zs)) = _
    rw [ih]
theorem eIndex_e (f k : Rho → Wp PyData) (ρ : Rho) (Q : PyData → Prop) : eIndex f k ρ Q = f ρ fun d => isLst d fun _ => k ρ fun e => indexW d e Q := propext Iff.rfl
theorem isLst_e (ds : List PyData) (Q : Unit → Prop) : isLst (.list ds) Q = Q () := propext Iff.rfl
/-! a comprehension whose element changes things, by an invariant -/
theorem lcz_i {β : Type} {k : PyData → Rho → Wp Rho} {f : Rho → Wp (PyData × Rho)} {vs : List Nat} (st : β → Rho) (I : Nat → List PyData → β → Prop) {ds : List PyData} {Q : List PyData × Rho → Prop}
    (hs : ∀ i d ys a, ds[i]? = some d → I i ys a → ∀ R : PyData × Rho → Prop, (∀ y a' ρ2, I (i + 1) (ys ++ [y]) a' → wipeR ρ2 vs = st a' → R (y, ρ2)) → k d (st a) fun ρ1 => f ρ1 R)
    (h1 : ∀ ys a, I ds.length ys a → Q (ys, st a)) {a : β} (h0 : I 0 [] a) : wLcZ k tAll f vs ds (st a) Q := by
  have key : ∀ (es : List PyData) (i : Nat) (ys : List PyData) (a : β), ds.drop i = es → I i ys a → i ≤ ds.length → wLcZ k tAll f vs es (st a) fun r => Q (ys ++ r.1, r.2) := by
    intro es
    induction es with
    | nil =>
      intro i ys a e h l
      have : ds.length ≤ i := by
        have := congrArg List.length e
        simp at this; omega
      have z : i = ds.length := by omega
      subst z
      show Q (ys ++ [], st a)
      rw [List.append_nil]
      exact h1 ys a h
    | cons d es ih =>
      intro i ys a e h l
      have hi : i < ds.length := by
        have := congrArg List.length e
        simp at this; omega
      have hd : ds[i]? = some d := by
        rw [← List.head?_drop, e]; rfl
      have e2 : ds.drop (i + 1) = es := by
        rw [← List.drop_drop, e]; rfl
      show k d (st a) fun ρ1 => f ρ1 fun y => wLcZ k tAll f vs es (wipeR y.2 vs) fun zs => Q (ys ++ (y.1 :: zs.1), zs.2)
      refine hs i d ys a hd h _ fun y a' ρ2 h2 e3 => ?_
      show wLcZ k tAll f vs es (wipeR ρ2 vs) _
      rw [e3]
      have := ih (i + 1) (ys ++ [y]) a' e2 h2 (by omega)
      simpa [List.append_assoc] using this
  have := key ds 0 [] a rfl h0 (Nat.zero_le _)
  simpa using this
end Lq
namespace Lq
open PySem L2
/-! ### operators on known data -/
theorem asB_b (b : Bool) : asB (.bool b) = ret b := id rfl
theorem tru_n : tru .none = ret false := id rfl
theorem tru_b (b : Bool) : tru (.bool b) = ret b := id rfl
theorem tru_i (i : Int) : tru (.int i) = ret (i != 0) := id rfl
theorem tru_s (x : Str) : tru (.str x) = gd (x.length ≤ sizeLine) ((x.length : Int) != 0) := id rfl
theorem tru_l (ds : List PyData) : tru (.list ds) = ret (!ds.isEmpty) := id rfl
theorem tru_t (ds : List PyData) : tru (.tuple ds) = ret (!ds.isEmpty) := id rfl
theorem tru_d {es : List (PyData × PyData)} (h : marked es = false) : tru (.dict es) = ret (!es.isEmpty) := by
  cases es with
  | nil => rfl
  | cons e es =>
    cases e with
    | mk a b => cases a <;> first | rfl | cases h
theorem items_l (ds : List PyData) : items (.list ds) = ret ds := id rfl
theorem items_t (ds : List PyData) : items (.tuple ds) = ret ds := id rfl
theorem intOf_i (i : Int) : intOf (.int i) = ret (some i) := id rfl
theorem len_l (ds : List PyData) : lenQ [.list ds] = ret (.int (ds.length : Int)) := id rfl
theorem len_t (ds : List PyData) : lenQ [.tuple ds] = ret (.int (ds.length : Int)) := id rfl
theorem len_s (x : Str) : lenQ [.str x] = gd (x.length ≤ sizeLine) (.int (x.length : Int)) := id rfl
theorem len_d {es : List (PyData × PyData)} (h : marked es = false) : lenQ [.dict es] = ret (.int (es.length : Int)) := by
  cases es with
  | nil => rfl
  | cons e es =>
    cases e with
    | mk a b => cases a <;> first | rfl | cases h
theorem list_l (ds : List PyData) : listQ [.list ds] = ret (.list ds) := id rfl
theorem list_t (ds : List PyData) : listQ [.tuple ds] = ret (.list ds) := id rfl
theorem list_d {es : List (PyData × PyData)} (h : marked es = false) : listQ [.dict es] = ret (.list (es.map (·.1))) := by
  cases es with
  | nil => rfl
  | cons e es =>
    cases e with
    | mk a b => cases a <;> first | rfl | cases h
theorem tuple_l (ds : List PyData) : tupleQ [.list ds] = ret (.tuple ds) := id rfl
theorem tuple_t (ds : List PyData) : tupleQ [.tuple ds] = ret (.tuple ds) := id rfl
theorem ix_t (ds : List PyData) (i : Int) : ixQ (.tuple ds) (.int i) = atW (atI ds i) := id rfl
theorem ix_l (ds : List PyData) (i : Int) : ixQ (.list ds) (.int i) = atW (atI ds i) := id rfl
theorem ix_s (x : Str) (i : Int) : ixQ (.str x) (.int i) = bnd (atW (atI x.cps.toList i)) fun c => gd (x.length ≤ sizeLine) (.str ⟨#[c]⟩) := id rfl
theorem atW_s {α : Type} (a : α) : atW (some a) = ret a := id rfl
theorem add_i (i j : Int) : addQ (.int i) (.int j) = ret (.int (i + j)) := id rfl
theorem add_s (x y : Str) : addQ (.str x) (.str y) = gd (x.length + y.length ≤ sizeLine) (.str (x ++ y)) := id rfl
theorem add_t (a b : List PyData) : addQ (.tuple a) (.tuple b) = gd (a.length + b.length ≤ sizeLine) (.tuple (a ++ b)) := id rfl
theorem add_l (a b : List PyData) : addQ (.list a) (.list b) = gd (a.length + b.length ≤ sizeLine) (.list (a ++ b)) := id rfl
theorem sub_i (i j : Int) : subQ (.int i) (.int j) = ret (.int (i - j)) := id rfl
theorem mul_i (i j : Int) : mulQ (.int i) (.int j) = gd (CMul i j) (.int (i * j)) := id rfl
theorem mod_i (i j : Int) : modQ (.int i) (.int j) = gd (0 < j) (.int (i % j)) := id rfl
theorem fdiv_i (i j : Int) : fdivQ (.int i) (.int j) = gd (CDiv i j) (.int (i / j)) := id rfl
theorem pow_i (i j : Int) : powQ (.int i) (.int j) = gd (CPow i j) (.int (i ^ j.toNat)) := id rfl
theorem neg_i (i : Int) : negQ (.int i) = ret (.int (-i)) := id rfl
theorem lt_i (i j : Int) : ltQ (.int i) (.int j) = ret (.bool (decide (i < j))) := id rfl
theorem le_i (i j : Int) : leQ (.int i) (.int j) = ret (.bool (decide (i ≤ j))) := id rfl
theorem gt_i (i j : Int) : gtQ (.int i) (.int j) = ret (.bool (decide (j < i))) := id rfl
theorem ge_i (i j : Int) : geQ (.int i) (.int j) = ret (.bool (decide (j ≤ i))) := id rfl
theorem lt_s (x y : Str) : ltQ (.str x) (.str y) = ret (.bool (decide (x.cps.toList < y.cps.toList))) := id rfl
theorem le_s (x y : Str) : leQ (.str x) (.str y) = ret (.bool (!decide (y.cps.toList < x.cps.toList))) := id rfl
theorem is_n (d : PyData) : isQ d .none = ret (.bool (isNone d)) := id rfl
theorem isNot_n (d : PyData) : isNotQ d .none = ret (.bool (!isNone d)) := id rfl
theorem isN_n : isNone .none = true := id rfl
theorem isN_b (b : Bool) : isNone (.bool b) = false := id rfl
theorem isN_i (b : Int) : isNone (.int b) = false := id rfl
theorem isN_s (b : Str) : isNone (.str b) = false := id rfl
theorem isN_l (b : List PyData) : isNone (.list b) = false := id rfl
theorem isN_t (b : List PyData) : isNone (.tuple b) = false := id rfl
theorem isN_d (b : List (PyData × PyData)) : isNone (.dict b) = false := id rfl
theorem eq_ii (i j : Int) : eqQ (.int i) (.int j) = ret (.bool (decide (i = j))) := id rfl
theorem eq_ss (i j : Str) : eqQ (.str i) (.str j) = ret (.bool (decide (i = j))) := id rfl
theorem eq_bb (i j : Bool) : eqQ (.bool i) (.bool j) = ret (.bool (decide (i = j))) := id rfl
theorem eq_is (i : Int) (j : Str) : eqQ (.int i) (.str j) = ret (.bool false) := id rfl
theorem eq_si (i : Str) (j : Int) : eqQ (.str i) (.int j) = ret (.bool false) := id rfl
theorem eq_nn : eqQ .none .none = ret (.bool true) := id rfl
theorem eq_ni (j : Int) : eqQ .none (.int j) = ret (.bool false) := id rfl
theorem eq_in (j : Int) : eqQ (.int j) .none = ret (.bool false) := id rfl
theorem eq_ns (j : Str) : eqQ .none (.str j) = ret (.bool false) := id rfl
theorem eq_sn (j : Str) : eqQ (.str j) .none = ret (.bool false) := id rfl
theorem eq_tt (a b : List PyData) : eqQ (.tuple a) (.tuple b) = gd (SeqAt.shaped (.tuple a) = true ∧ SeqAt.shaped (.tuple b) = true) (.bool (PyData.eqv (.tuple a) (.tuple b))) := id rfl
theorem eq_ll (a b : List PyData) : eqQ (.list a) (.list b) = gd (SeqAt.shaped (.list a) = true ∧ SeqAt.shaped (.list b) = true) (.bool (PyData.eqv (.list a) (.list b))) := id rfl
theorem ne_ii (i j : Int) : neQ (.int i) (.int j) = ret (.bool (!decide (i = j))) := id rfl
theorem ne_ss (i j : Str) : neQ (.str i) (.str j) = ret (.bool (!decide (i = j))) := id rfl
theorem ne_bb (i j : Bool) : neQ (.bool i) (.bool j) = ret (.bool (!decide (i = j))) := id rfl
theorem ne_is (i : Int) (j : Str) : neQ (.int i) (.str j) = ret (.bool true) := id rfl
theorem ne_si (i : Str) (j : Int) : neQ (.str i) (.int j) = ret (.bool true) := id rfl
theorem ne_nn : neQ .none .none = ret (.bool false) := id rfl
theorem ne_ni (j : Int) : neQ .none (.int j) = ret (.bool true) := id rfl
theorem ne_in (j : Int) : neQ (.int j) .none = ret (.bool true) := id rfl
theorem ne_ns (j : Str) : neQ .none (.str j) = ret (.bool true) := id rfl
theorem ne_sn (j : Str) : neQ (.str j) .none = ret (.bool true) := id rfl
theorem ne_tt (a b : List PyData) : neQ (.tuple a) (.tuple b) = gd (SeqAt.shaped (.tuple a) = true ∧ SeqAt.shaped (.tuple b) = true) (.bool (!PyData.eqv (.tuple a) (.tuple b))) := id rfl
theorem ne_ll (a b : List PyData) : neQ (.list a) (.list b) = gd (SeqAt.shaped (.list a) = true ∧ SeqAt.shaped (.list b) = true) (.bool (!PyData.eqv (.list a) (.list b))) := id rfl
theorem in_l {x : PyData} {ds : List PyData} (neg : Bool) (h : (flatD x && ds.all flatD) = true) : inQ neg x (.list ds) = ret (.bool (if neg then !inF x ds else inF x ds)) := by
  cases x <;> exact if_pos h
theorem in_t {x : PyData} {ds : List PyData} (neg : Bool) (h : flatD x = true ∧ ds.all flatD = true) : inQ neg x (.tuple ds) = ret (.bool (if neg then !inF x ds else inF x ds)) := by
  have e : inQ neg x (.tuple ds) = gd (flatD x = true ∧ ds.all flatD = true) (.bool (if neg then !inF x ds else inF x ds)) := by cases x <;> rfl
  rw [e]
  funext Q
  exact propext ⟨fun z => z.2, fun z => ⟨h, z⟩⟩
theorem ints_of : ∀ ns : List Int, intsOf (ns.map .int) = some ns
  | [] => rfl
  | n :: ns => by
    show (intsOf (ns.map .int)).map (n :: ·) = _
    rw [ints_of ns]; rfl
theorem intsW_of (ns : List Int) : intsW (ns.map .int) = ret ns := by
  unfold intsW; rw [ints_of]
theorem sum_l (ds : List PyData) : sumQ [.list ds] = bnd (intsW ds) fun ns => ret (.int ns.sum) := id rfl
theorem max_l (ds : List PyData) : maxQ [.list ds] = bnd (intsW ds) fun ns Q => 0 < ns.length ∧ ∀ m, m ∈ ns → (∀ y, y ∈ ns → y ≤ m) → Q (.int m) := id rfl
theorem max_2 (i j : Int) : maxQ [.int i, .int j] = ret (.int (if j > i then j else i)) := id rfl
theorem min_2 (i j : Int) : minQ [.int i, .int j] = ret (.int (if j < i then j else i)) := id rfl
theorem int_i (i : Int) : intQ [.int i] = ret (.int i) := id rfl
theorem int_b (b : Bool) : intQ [.bool b] = ret (.int (if b then 1 else 0)) := id rfl
theorem rng1_i (j : Int) : rng1 [.int j] = gd (-(2 ^ 62) ≤ j ∧ j < 2 ^ 62) (upto 0 j.toNat) := id rfl
theorem rng2_i (i j : Int) : rng2 [.int i, .int j] = gd (-(2 ^ 62) ≤ i ∧ i < 2 ^ 62 ∧ -(2 ^ 62) ≤ j ∧ j < 2 ^ 62) (upto i (j - i).toNat) := id rfl
theorem sl_t (ds : List PyData) (lo hi : Option Int) : slQ (.tuple ds) lo hi = ret (.tuple (cutD ds lo hi)) := id rfl
theorem sl_l (ds : List PyData) (lo hi : Option Int) : slQ (.list ds) lo hi = ret (.list (cutD ds lo hi)) := id rfl
theorem sl_s (x : Str) (lo hi : Option Int) : slQ (.str x) lo hi = gd (x.length ≤ sizeLine) (.str (cutS x lo hi)) := id rfl
theorem back_l (ds : List PyData) : backQ (.list ds) none = ret (.list ds.reverse) := id rfl
theorem back_t (ds : List PyData) : backQ (.tuple ds) none = ret (.tuple ds.reverse) := id rfl
theorem back_0 (d : PyData) (ds : List PyData) : backQ (.tuple (d :: ds)) (some 0) = ret (.tuple ds.reverse) := by
  funext Q
  exact propext ⟨fun h => h.2, fun h => ⟨⟨rfl, Nat.succ_pos _⟩, h⟩⟩
theorem dget_k {es : List (PyData × PyData)} (h : marked es = false) (k : PyData) : dgetW (.dict es) k = gd (keyP k ≠ none) (lookP es k) := by
  show (if marked es = true then dgT es.tail k else gd (keyP k ≠ none) (lookP es k)) = _
  rw [h]; rfl
theorem dget_i {es : List (PyData × PyData)} (h : marked es = false) (k : Int) : dgetW (.dict es) (.int k) = ret (lookP es (.int k)) := by
  rw [dget_k h]; funext Q; exact propext ⟨fun z => z.2, fun z => ⟨(fun e => by cases e), z⟩⟩
theorem dget_s {es : List (PyData × PyData)} (h : marked es = false) (k : Str) : dgetW (.dict es) (.str k) = ret (lookP es (.str k)) := by
  rw [dget_k h]; funext Q; exact propext ⟨fun z => z.2, fun z => ⟨(fun e => by cases e), z⟩⟩
theorem keyP_i (i : Int) : keyP (.int i) = some (.inl i) := id rfl
theorem keyP_s (i : Str) : keyP (.str i) = some (.inr i) := id rfl
theorem keyW_i (i : Int) : keyW (.int i) = ret (.inl i) := id rfl
theorem keyW_s (i : Str) : keyW (.str i) = ret (.inr i) := id rfl
theorem kD_i (i : Int) : kD (.inl i) = .int i := id rfl
theorem kD_s (i : Str) : kD (.inr i) = .str i := id rfl
theorem ty_n : tyD .none = "NoneType" := id rfl
theorem ty_b (b : Bool) : tyD (.bool b) = "bool" := id rfl
theorem ty_i (b : Int) : tyD (.int b) = "int" := id rfl
theorem ty_s (b : Str) : tyD (.str b) = "str" := id rfl
theorem ty_l (b : List PyData) : tyD (.list b) = "list" := id rfl
theorem ty_t (b : List PyData) : tyD (.tuple b) = "tuple" := id rfl
theorem ty_d (b : List (PyData × PyData)) : tyD (.dict b) = "dict" := id rfl
theorem thenO_nx (k : Rho → Wp Out) (ρ : Rho) : thenO k (.nx ρ) = k ρ := id rfl
theorem thenO_rt (k : Rho → Wp Out) (d : PyData) : thenO k (.rt d) = ret (.rt d) := id rfl
theorem thenO_bk (k : Rho → Wp Out) (ρ : Rho) : thenO k (.bk ρ) = ret (.bk ρ) := id rfl
theorem thenO_ex (k : Rho → Wp Out) (n : Str) : thenO k (.ex n) = ret (.ex n) := id rfl
theorem thenO_ct (k : Rho → Wp Out) (ρ : Rho) : thenO k (.ct ρ) = ret (.ct ρ) := id rfl
theorem endQ_rt (Q : PyData → Prop) (d : PyData) : endQ Q (.rt d) = Q d := id rfl
theorem endQ_nx (Q : PyData → Prop) (ρ : Rho) : endQ Q (.nx ρ) = Q .none := id rfl
theorem gd_true {α : Type} {c : Prop} (h : c) (a : α) : gd c a = ret a := by
  funext Q; exact propext ⟨fun z => z.2, fun z => ⟨h, z⟩⟩
end Lq
namespace Lq
open PySem L2
/-! ### reading mirrors -/
theorem ite_ap {α : Type} {c : Prop} [Decidable c] (m n : Wp α) (Q : α → Prop) : (if c then m else n) Q = if c then m Q else n Q := by split <;> rfl
theorem kit_NoneType_bool : kitB "NoneType" "bool" = some false := by decide +kernel
theorem kit_NoneType_int : kitB "NoneType" "int" = some false := by decide +kernel
theorem kit_NoneType_str : kitB "NoneType" "str" = some false := by decide +kernel
theorem kit_NoneType_list : kitB "NoneType" "list" = some false := by decide +kernel
theorem kit_NoneType_tuple : kitB "NoneType" "tuple" = some false := by decide +kernel
theorem kit_bool_bool : kitB "bool" "bool" = some true := by decide +kernel
theorem kit_bool_int : kitB "bool" "int" = some true := by decide +kernel
theorem kit_bool_str : kitB "bool" "str" = some false := by decide +kernel
theorem kit_bool_list : kitB "bool" "list" = some false := by decide +kernel
theorem kit_bool_tuple : kitB "bool" "tuple" = some false := by decide +kernel
theorem kit_int_bool : kitB "int" "bool" = some false := by decide +kernel
theorem kit_int_int : kitB "int" "int" = some true := by decide +kernel
theorem kit_int_str : kitB "int" "str" = some false := by decide +kernel
theorem kit_int_list : kitB "int" "list" = some false := by decide +kernel
theorem kit_int_tuple : kitB "int" "tuple" = some false := by decide +kernel
theorem kit_str_bool : kitB "str" "bool" = some false := by decide +kernel
theorem kit_str_int : kitB "str" "int" = some false := by decide +kernel
theorem kit_str_str : kitB "str" "str" = some true := by decide +kernel
theorem kit_str_list : kitB "str" "list" = some false := by decide +kernel
theorem kit_str_tuple : kitB "str" "tuple" = some false := by decide +kernel
theorem kit_list_bool : kitB "list" "bool" = some false := by decide +kernel
theorem kit_list_int : kitB "list" "int" = some false := by decide +kernel
theorem kit_list_str : kitB "list" "str" = some false := by decide +kernel
theorem kit_list_list : kitB "list" "list" = some true := by decide +kernel
theorem kit_list_tuple : kitB "list" "tuple" = some false := by decide +kernel
theorem kit_tuple_bool : kitB "tuple" "bool" = some false := by decide +kernel
theorem kit_tuple_int : kitB "tuple" "int" = some false := by decide +kernel
theorem kit_tuple_str : kitB "tuple" "str" = some false := by decide +kernel
theorem kit_tuple_list : kitB "tuple" "list" = some false := by decide +kernel
theorem kit_tuple_tuple : kitB "tuple" "tuple" = some true := by decide +kernel
/-! ### loops -/
section
variable {α : Type} {k : PyData → Rho → Wp Rho} {b : Rho → Wp Out} {Q : Out → Prop}
/-- a for: I holds of the number of turns and of what the state is made of -/
theorem for_i (st : α → Rho) (I : Nat → α → Prop) {ds : List PyData} (hs : ∀ i d a, ds[i]? = some d → I i a → ∀ R : Out → Prop, (∀ a', I (i + 1) a' → R (.nx (st a')) ∧ R (.ct (st a'))) → (∀ d, Q (.rt d) → R (.rt d)) → (∀ ρ, Q (.nx ρ) → R (.bk ρ)) → k d (st a) fun ρ1 => b ρ1 R)
    (h1 : ∀ a, I ds.length a → Q (.nx (st a))) {a : α} (h0 : I 0 a) : wFor k b ds (st a) Q := by
  have key : ∀ (es : List PyData) (i : Nat) (a : α), ds.drop i = es → I i a → i ≤ ds.length → wFor k b es (st a) Q := by
    intro es
    induction es with
    | nil =>
      intro i a e h l
      have : ds.length ≤ i := by
        have := congrArg List.length e
        rw [List.length_drop, List.length_nil] at this
        omega
      have e2 : i = ds.length := by omega
      subst e2
      exact h1 a h
    | cons d es ih =>
      intro i a e h l
      have l2 : i < ds.length := by
        have := congrArg List.length e
        rw [List.length_drop, List.length_cons] at this
        omega
      have e3 := List.drop_eq_getElem_cons l2
      rw [e] at e3
      have e4 := List.cons.inj e3
      have hd : ds[i]? = some d := by rw [List.getElem?_eq_getElem l2, e4.1]
      refine hs i d a hd h _ (fun a' h' => ⟨?_, ?_⟩) (fun d h => h) (fun ρ h => h)
      · exact ih (i + 1) a' e4.2.symm h' l2
      · exact ih (i + 1) a' e4.2.symm h' l2
  exact key ds 0 a (List.drop_zero) h0 (Nat.zero_le _)
/-- .. over things that stand for others -/
theorem for_of {β : Type} (e : β → PyData) (st : α → Rho) (I : Nat → α → Prop) {xs : List β} (hs : ∀ i x a, xs[i]? = some x → I i a → ∀ R : Out → Prop, (∀ a', I (i + 1) a' → R (.nx (st a')) ∧ R (.ct (st a'))) → (∀ d, Q (.rt d) → R (.rt d)) → (∀ ρ, Q (.nx ρ) → R (.bk ρ)) → k (e x) (st a) fun ρ1 => b ρ1 R)
    (h1 : ∀ a, I xs.length a → Q (.nx (st a))) {a : α} (h0 : I 0 a) : wFor k b (xs.map e) (st a) Q := by
  refine for_i st I (fun i d a hd => ?_) (fun a h => h1 a (by rwa [List.length_map] at h)) h0
  rw [List.getElem?_map] at hd
  obtain ⟨x, hx, rfl⟩ := Option.map_eq_some_iff.mp hd
  exact hs i x a hx
/-- a while: μ falls -/
theorem while_i {c : Rho → Wp Bool} (st : α → Rho) (I : α → Prop) (μ : α → Nat) (hs : ∀ a, I a → ∀ R : Out → Prop, (∀ a', I a' → μ a' < μ a → R (.nx (st a')) ∧ R (.ct (st a'))) → (∀ d, Q (.rt d) → R (.rt d)) → (∀ ρ, Q (.nx ρ) → R (.bk ρ)) → c (st a) fun t => if t = true then b (st a) R else Q (.nx (st a)))
    {a : α} (h0 : I a) : sWhile c b (st a) Q := by
  have key : ∀ (n : Nat) (a : α), I a → μ a < n → wWhile c b n (st a) Q := by
    intro n
    induction n with
    | zero => intro a _ h; omega
    | succ n ih =>
      intro a h l
      show c (st a) fun t => (if t = true then bnd (b (st a)) (endLoop (wWhile c b n)) else ret (.nx (st a))) Q
      simp only [ite_ap]
      refine hs a h _ (fun a' h' l' => ⟨?_, ?_⟩) (fun d h => h) (fun ρ h => h)
      · exact ih a' h' (by omega)
      · exact ih a' h' (by omega)
  exact ⟨μ a + 1, key _ a h0 (Nat.lt_succ_self _)⟩
end
section
variable {k : PyData → Rho → Wp Rho} {t : Rho → Wp Bool} {f : Rho → Wp PyData} {ρ : Rho}
/-- a comprehension whose outcome is known -/
theorem lc_fm (g : PyData → Option PyData) : ∀ {ds : List PyData} {Q : List PyData → Prop}, (∀ d, d ∈ ds → ∀ R : Option PyData → Prop, R (g d) → k d ρ fun ρ1 => t ρ1 fun b => if b = true then f ρ1 fun y => R (some y) else R none) → Q (ds.filterMap g) → wLc k t f ds ρ Q
  | [], Q, _, q => q
  | d :: ds, Q, h, q => by
    show k d ρ fun ρ1 => t ρ1 fun b => (if b = true then bnd (f ρ1) fun y => bnd (wLc k t f ds ρ) fun ys => ret (y :: ys) else wLc k t f ds ρ) Q
    simp only [ite_ap]
    refine h d List.mem_cons_self (fun o => match o with | some y => wLc k t f ds ρ fun ys => Q (y :: ys) | none => wLc k t f ds ρ Q) ?_
    cases e : g d with
    | none =>
      rw [List.filterMap_cons_none e] at q
      exact lc_fm g (fun d m => h d (List.mem_cons_of_mem _ m)) q
    | some y =>
      rw [List.filterMap_cons_some e] at q
      exact lc_fm g (fun d m => h d (List.mem_cons_of_mem _ m)) q
/-- a comprehension whose items are any that P allows -/
theorem lc_any (P : PyData → PyData → Prop) : ∀ {ds : List PyData} {Q : List PyData → Prop}, (∀ d, d ∈ ds → ∀ R : Option PyData → Prop, (∀ y, P d y → R (some y)) → k d ρ fun ρ1 => t ρ1 fun b => if b = true then f ρ1 fun y => R (some y) else R none) → (∀ ys, Paired P ds ys → Q ys) → wLc k t f ds ρ Q
  | [], Q, _, q => q [] .nil
  | d :: ds, Q, h, q => by
    show k d ρ fun ρ1 => t ρ1 fun b => (if b = true then bnd (f ρ1) fun y => bnd (wLc k t f ds ρ) fun ys => ret (y :: ys) else wLc k t f ds ρ) Q
    simp only [ite_ap]
    refine h d List.mem_cons_self (fun o => match o with | some y => wLc k t f ds ρ fun ys => Q (y :: ys) | none => wLc k t f ds ρ Q) fun y hy => ?_
    exact lc_any P (fun d m => h d (List.mem_cons_of_mem _ m)) fun ys hp => q _ (.cons hy hp)
/-- .. over things that stand for others -/
theorem lc_of {α : Type} (e : α → PyData) (g : α → Option PyData) : ∀ {xs : List α} {Q : List PyData → Prop}, (∀ a, a ∈ xs → ∀ R : Option PyData → Prop, R (g a) → k (e a) ρ fun ρ1 => t ρ1 fun b => if b = true then f ρ1 fun y => R (some y) else R none) → Q (xs.filterMap g) → wLc k t f (xs.map e) ρ Q
  | [], Q, _, q => q
  | a :: xs, Q, h, q => by
    show k (e a) ρ fun ρ1 => t ρ1 fun b => (if b = true then bnd (f ρ1) fun y => bnd (wLc k t f (xs.map e) ρ) fun ys => ret (y :: ys) else wLc k t f (xs.map e) ρ) Q
    simp only [ite_ap]
    refine h a List.mem_cons_self (fun o => match o with | some y => wLc k t f (xs.map e) ρ fun ys => Q (y :: ys) | none => wLc k t f (xs.map e) ρ Q) ?_
    cases h2 : g a with
    | none =>
      rw [List.filterMap_cons_none h2] at q
      exact lc_of e g (fun d m => h d (List.mem_cons_of_mem _ m)) q
    | some y =>
      rw [List.filterMap_cons_some h2] at q
      exact lc_of e g (fun d m => h d (List.mem_cons_of_mem _ m)) q
theorem lc_anyOf {α : Type} (e : α → PyData) (P : α → PyData → Prop) : ∀ {xs : List α} {Q : List PyData → Prop}, (∀ a, a ∈ xs → ∀ R : Option PyData → Prop, (∀ y, P a y → R (some y)) → k (e a) ρ fun ρ1 => t ρ1 fun b => if b = true then f ρ1 fun y => R (some y) else R none) → (∀ ys, Paired P xs ys → Q ys) → wLc k t f (xs.map e) ρ Q
  | [], Q, _, q => q [] .nil
  | a :: xs, Q, h, q => by
    show k (e a) ρ fun ρ1 => t ρ1 fun b => (if b = true then bnd (f ρ1) fun y => bnd (wLc k t f (xs.map e) ρ) fun ys => ret (y :: ys) else wLc k t f (xs.map e) ρ) Q
    simp only [ite_ap]
    refine h a List.mem_cons_self (fun o => match o with | some y => wLc k t f (xs.map e) ρ fun ys => Q (y :: ys) | none => wLc k t f (xs.map e) ρ Q) fun y hy => ?_
    exact lc_anyOf e P (fun d m => h d (List.mem_cons_of_mem _ m)) fun ys hp => q _ (.cons hy hp)
end
end Lq
namespace Lq
open PySem L2
/-! ### data: how many nodes, how deep, without dicts -/
mutual
def nodes : PyData → Nat
  | .list ds => nodesL ds + 1
  | .tuple ds => nodesL ds + 1
  | _ => 1
def nodesL : List PyData → Nat
  | [] => 0
  | d :: ds => nodes d + nodesL ds
end
mutual
def dep : PyData → Nat
  | .list ds => depL ds + 1
  | .tuple ds => depL ds + 1
  | _ => 0
def depL : List PyData → Nat
  | [] => 0
  | d :: ds => max (dep d) (depL ds)
end
mutual
/-- no dicts, texts of at most a thousand signs -/
def plain : PyData → Bool
  | .list ds => plainL ds
  | .tuple ds => plainL ds
  | .dict _ => false
  | .str x => decide (x.length ≤ 1000)
  | _ => true
def plainL : List PyData → Bool
  | [] => true
  | d :: ds => plain d && plainL ds
end
theorem nodes_pos (d : PyData) : 0 < nodes d := by cases d <;> simp only [nodes] <;> omega
theorem length_nodesL : ∀ ds : List PyData, ds.length ≤ nodesL ds
  | [] => Nat.le_refl _
  | d :: ds => by
    have := nodes_pos d
    have := length_nodesL ds
    simp only [List.length_cons, nodesL]
    omega
theorem nodesL_append : ∀ xs ys : List PyData, nodesL (xs ++ ys) = nodesL xs + nodesL ys
  | [], _ => by simp [nodesL]
  | d :: ds, ys => by
    simp only [List.cons_append, nodesL, nodesL_append ds ys]
    omega
theorem depL_append : ∀ xs ys : List PyData, depL (xs ++ ys) = max (depL xs) (depL ys)
  | [], _ => by simp [depL]
  | d :: ds, ys => by
    simp only [List.cons_append, depL, depL_append ds ys]
    omega
theorem plainL_append : ∀ xs ys : List PyData, plainL (xs ++ ys) = (plainL xs && plainL ys)
  | [], _ => by simp [plainL]
  | d :: ds, ys => by simp only [List.cons_append, plainL, plainL_append ds ys, Bool.and_assoc]
theorem plainL_iff : ∀ {ds : List PyData}, plainL ds = true ↔ ∀ d ∈ ds, plain d = true
  | [] => by simp [plainL]
  | d :: ds => by simp [plainL, plainL_iff (ds := ds)]
theorem dep_of_mem : ∀ {ds : List PyData} {d : PyData}, d ∈ ds → dep d ≤ depL ds
  | e :: ds, d, h => by
    simp only [depL]
    rcases List.mem_cons.mp h with rfl | h
    · omega
    · have := dep_of_mem h; omega
theorem nodes_of_mem : ∀ {ds : List PyData} {d : PyData}, d ∈ ds → nodes d ≤ nodesL ds
  | e :: ds, d, h => by
    simp only [nodesL]
    rcases List.mem_cons.mp h with rfl | h
    · omega
    · have := nodes_of_mem h; omega
theorem nodesL_reverse : ∀ ds : List PyData, nodesL ds.reverse = nodesL ds
  | [] => rfl
  | d :: ds => by simp only [List.reverse_cons, nodesL_append, nodesL_reverse ds, nodesL]; omega
theorem nodesL_take_drop (ds : List PyData) (n : Nat) : nodesL (ds.take n) + nodesL (ds.drop n) = nodesL ds := by
  rw [← nodesL_append, List.take_append_drop]
theorem depL_take (ds : List PyData) (n : Nat) : depL (ds.take n) ≤ depL ds := by
  have h := depL_append (ds.take n) (ds.drop n)
  rw [List.take_append_drop] at h
  omega
theorem depL_drop (ds : List PyData) (n : Nat) : depL (ds.drop n) ≤ depL ds := by
  have h := depL_append (ds.take n) (ds.drop n)
  rw [List.take_append_drop] at h
  omega
theorem plainL_take {ds : List PyData} (h : plainL ds = true) (n : Nat) : plainL (ds.take n) = true := plainL_iff.mpr fun d m => plainL_iff.mp h d (List.mem_of_mem_take m)
theorem plainL_drop {ds : List PyData} (h : plainL ds = true) (n : Nat) : plainL (ds.drop n) = true := plainL_iff.mpr fun d m => plainL_iff.mp h d (List.mem_of_mem_drop m)
/-! ### slices -/
theorem cut_from (ds : List PyData) (k : Nat) : cutD ds (some (k : Int)) none = ds.drop k := by
  unfold cutD
  rw [HT.sIx_nat, HT.sIx_none]
  by_cases h : k ≤ ds.length
  · rw [Nat.min_eq_left h, List.take_of_length_le]
    rw [List.length_drop]; omega
  · rw [Nat.min_eq_right (by omega), List.drop_of_length_le (Nat.le_refl _), List.drop_of_length_le (by omega)]
    simp
theorem cut_upto (ds : List PyData) (k : Nat) : cutD ds none (some (k : Int)) = ds.take k := by
  unfold cutD
  rw [HT.sIx_nat, HT.sIx_none, List.drop_zero, Nat.sub_zero]
  by_cases h : k ≤ ds.length
  · rw [Nat.min_eq_left h]
  · rw [Nat.min_eq_right (by omega), List.take_of_length_le (Nat.le_refl _), List.take_of_length_le (by omega)]
theorem cut_from1 (ds : List PyData) (k : Nat) : cutD ds (some ((k : Int) + 1)) none = ds.drop (k + 1) := by
  rw [show (k : Int) + 1 = ((k + 1 : Nat) : Int) by omega]
  exact cut_from ds (k + 1)
theorem cut_1 (ds : List PyData) : cutD ds (some 1) none = ds.drop 1 := cut_from ds 1
theorem at_of_nat {α : Type} {xs : List α} {k : Nat} {x : α} (h : xs[k]? = some x) : atI xs (k : Int) = some x := by
  have l : k < xs.length := (List.getElem?_eq_some_iff.mp h).1
  unfold atI ixN
  rw [if_pos (by omega), if_pos (by omega)]
  simpa using h
theorem at_zero {α : Type} {x : α} {xs : List α} : atI (x :: xs) 0 = some x := at_of_nat (k := 0) rfl
theorem at_one {α : Type} {x y : α} {xs : List α} : atI (x :: y :: xs) 1 = some y := at_of_nat (k := 1) rfl
theorem at_two {α : Type} {x y z : α} {xs : List α} : atI (x :: y :: z :: xs) 2 = some z := at_of_nat (k := 2) rfl
theorem at_three {α : Type} {x y z u : α} {xs : List α} : atI (x :: y :: z :: u :: xs) 3 = some u := at_of_nat (k := 3) rfl
theorem at_nat {α : Type} (xs : List α) (k : Nat) : atI xs (k : Int) = xs[k]? := by
  by_cases h : k < xs.length
  · rw [List.getElem?_eq_getElem h]; exact at_of_nat (List.getElem?_eq_getElem h)
  · unfold atI ixN
    rw [if_pos (by omega), if_neg (by omega), List.getElem?_eq_none (by omega)]; rfl
theorem sz_0 : (0 ≤ sizeLine) = True := eq_true (by decide)
theorem sz_1 : (1 ≤ sizeLine) = True := eq_true (by decide)
theorem sz_2 : (2 ≤ sizeLine) = True := eq_true (by decide)
theorem sz_3 : (3 ≤ sizeLine) = True := eq_true (by decide)
theorem sz_4 : (4 ≤ sizeLine) = True := eq_true (by decide)
theorem sz_5 : (5 ≤ sizeLine) = True := eq_true (by decide)
theorem sz_6 : (6 ≤ sizeLine) = True := eq_true (by decide)
theorem sz_7 : (7 ≤ sizeLine) = True := eq_true (by decide)
theorem sz_8 : (8 ≤ sizeLine) = True := eq_true (by decide)
theorem sz_9 : (9 ≤ sizeLine) = True := eq_true (by decide)
theorem sz_10 : (10 ≤ sizeLine) = True := eq_true (by decide)
theorem sz_11 : (11 ≤ sizeLine) = True := eq_true (by decide)
theorem sz_12 : (12 ≤ sizeLine) = True := eq_true (by decide)
theorem sz_13 : (13 ≤ sizeLine) = True := eq_true (by decide)
theorem sz_14 : (14 ≤ sizeLine) = True := eq_true (by decide)
theorem sz_15 : (15 ≤ sizeLine) = True := eq_true (by decide)
theorem sz_16 : (16 ≤ sizeLine) = True := eq_true (by decide)
theorem sz_17 : (17 ≤ sizeLine) = True := eq_true (by decide)
theorem sz_18 : (18 ≤ sizeLine) = True := eq_true (by decide)
theorem sz_19 : (19 ≤ sizeLine) = True := eq_true (by decide)
theorem sz_20 : (20 ≤ sizeLine) = True := eq_true (by decide)
theorem z_succ (n : Nat) : (((n + 1 : Nat) : Int) = 0) = False := eq_false (by omega)
theorem z_succ_pos (n : Nat) : ((0 : Int) < ((n + 1 : Nat) : Int)) = True := eq_true (by omega)
theorem z_zero_pos : ((0 : Int) < ((0 : Nat) : Int)) = False := eq_false (by omega)
theorem z_pred (n : Nat) : ((n + 1 : Nat) : Int) - 1 = (n : Int) := by omega
theorem z_zero : (((0 : Nat) : Int) = 0) = True := eq_true (by omega)
theorem ixN_nat {n k : Nat} (h : k < n) : ixN n (k : Int) = some k := by
  unfold ixN
  rw [if_pos (by omega), if_pos (by omega), Int.toNat_natCast]
theorem upto_get {lo : Int} {n i : Nat} (h : i < n) : (upto lo n)[i]? = some (.int (lo + i)) := by simp [upto, h]
theorem upto_mem {lo : Int} {n : Nat} {d : PyData} (h : d ∈ upto lo n) : ∃ i : Nat, i < n ∧ d = .int (lo + i) := by
  obtain ⟨i, hi, rfl⟩ := List.mem_map.mp h
  exact ⟨i, List.mem_range.mp hi, rfl⟩
theorem upto_len {lo : Int} {n : Nat} : (upto lo n).length = n := by simp [upto]
theorem filterMap_none {α β : Type} (xs : List α) : xs.filterMap (fun _ => (none : Option β)) = [] := by
  induction xs with
  | nil => rfl
  | cons x xs ih => rw [List.filterMap_cons_none rfl, ih]
end Lq
namespace Lq
open PySem L2
theorem upto_zero (n : Nat) : upto 0 n = (List.range n).map fun (i : Nat) => PyData.int (i : Int) := by
  unfold upto
  refine List.map_congr_left fun i _ => ?_
  rw [Int.zero_add]
/-- a for over range(n) -/
theorem for_up {α : Type} {k : PyData → Rho → Wp Rho} {b : Rho → Wp Out} {Q : Out → Prop} (st : α → Rho) (I : Nat → α → Prop) {n : Nat} (hs : ∀ i a, i < n → I i a → ∀ R : Out → Prop, (∀ a', I (i + 1) a' → R (.nx (st a')) ∧ R (.ct (st a'))) → (∀ d, Q (.rt d) → R (.rt d)) → (∀ ρ, Q (.nx ρ) → R (.bk ρ)) → k (.int (i : Int)) (st a) fun ρ1 => b ρ1 R)
    (h1 : ∀ a, I n a → Q (.nx (st a))) {a : α} (h0 : I 0 a) : wFor k b (upto 0 n) (st a) Q := by
  rw [upto_zero]
  refine for_of (fun (i : Nat) => PyData.int (i : Int)) st I (fun i x a hx => ?_) (fun a h => h1 a (by rwa [List.length_range] at h)) h0
  have hl : i < n := by have := (List.getElem?_eq_some_iff.mp hx).1; rwa [List.length_range] at this
  have e : x = i := by rw [List.getElem?_range hl] at hx; exact (Option.some.inj hx).symm
  subst e
  exact hs x a hl
/-! ### expressions whose value is known -/
def Ev (f : Rho → Wp PyData) (ρ : Rho) (d : PyData) : Prop := ∀ Q : PyData → Prop, Q d → f ρ Q
def Evs (f : Rho → Wp (List PyData)) (ρ : Rho) (ds : List PyData) : Prop := ∀ Q : List PyData → Prop, Q ds → f ρ Q
theorem ev_c {ρ : Rho} {d : PyData} : Ev (eC d) ρ d := fun _ q => q
theorem ev_v {ρ : Rho} {i : Nat} {d : PyData} (h : ρ[i]? = some (.val d)) : Ev (eVar i) ρ d := fun Q q => by
  unfold eVar
  rw [h]; exact q
theorem evs_nil {ρ : Rho} : Evs aNil ρ [] := fun _ q => q
theorem evs_cons {ρ : Rho} {f : Rho → Wp PyData} {k : Rho → Wp (List PyData)} {d : PyData} {ds : List PyData} (h : Ev f ρ d) (r : Evs k ρ ds) : Evs (aCons f k) ρ (d :: ds) := fun _ q => h _ (r _ q)
theorem ev_tup {ρ : Rho} {k : Rho → Wp (List PyData)} {ds : List PyData} (h : Evs k ρ ds) (l : Nat.ble ds.length 1000 = true) : Ev (eTup k) ρ (.tuple ds) := fun _ q => h _ ⟨Nat.le_trans (Nat.le_of_ble_eq_true l) (by decide), q⟩
theorem ev_addT {ρ : Rho} {f k : Rho → Wp PyData} {a b : List PyData} (h : Ev f ρ (.tuple a)) (r : Ev k ρ (.tuple b)) (l : Nat.ble (a.length + b.length) 1000 = true) : Ev (eOp addQ f k) ρ (.tuple (a ++ b)) := fun _ q => h _ (r _ ⟨Nat.le_trans (Nat.le_of_ble_eq_true l) (by decide), q⟩)
theorem ev_take {ρ : Rho} {f : Rho → Wp PyData} {a : List PyData} (n : Nat) (h : Ev f ρ (.tuple a)) : Ev (eSl f noPart (aPart (eC (.int (n : Int))))) ρ (.tuple (a.take n)) := fun Q q => h _ (by
  show Q (.tuple (cutD a none (some (n : Int))))
  rw [cut_upto]; exact q)
theorem seq_ev {ρ : Rho} {f : Rho → Wp PyData} {k : Rho → Wp Out} {i : Nat} {d : PyData} {Q : Out → Prop} (h : Ev f ρ d) (r : k (ρ.set i (.val d)) Q) : sSeq (sSet (gN i) f) k ρ Q := h _ r
theorem seq_ev2 {ρ : Rho} {f : Rho → Wp PyData} {k : Rho → Wp Out} {i : Nat} {d : PyData} {Q : Out → Prop} (h : Ev f ρ d) (hi : i < ρ.length) (r : ∀ ρ' : Rho, ρ'.length = ρ.length → (∀ j, j ≠ i → ρ'[j]? = ρ[j]?) → ρ'[i]? = some (.val d) → k ρ' Q) : sSeq (sSet (gN i) f) k ρ Q :=
  h _ (r _ (List.length_set ..) (fun j n => List.getElem?_set_ne fun e => n e.symm) (by rw [List.getElem?_set_self hi]))
theorem op_ev {ρ : Rho} {o : PyData → PyData → Wp PyData} {f k : Rho → Wp PyData} {d e : PyData} {Q : PyData → Prop} (h : Ev f ρ d) (r : Ev k ρ e) (q : o d e Q) : eOp o f k ρ Q := h _ (r _ q)
/-! ### dicts as lists of pairs -/
def putsP (es : List (PyData × PyData)) : List (PyData × PyData) → List (PyData × PyData)
  | [] => es
  | p :: ps => putsP (putP es p.1 p.2) ps
section
variable {k : PyData → Rho → Wp Rho} {t : Rho → Wp Bool} {fk fv : Rho → Wp PyData} {ρ : Rho}
/-- a dict comprehension whose entries are known -/
theorem dc_puts (g : PyData → Option (PyData × PyData)) : ∀ {ds : List PyData} {es : List (PyData × PyData)} {Q : List (PyData × PyData) → Prop}, (∀ d, d ∈ ds → ∀ R : Option (PyData × PyData) → Prop, R (g d) → k d ρ fun ρ1 => t ρ1 fun b => if b = true then fk ρ1 fun y => fv ρ1 fun z => keyW y fun j => R (some (kD j, z)) else R none) →
    Q (putsP es (ds.filterMap g)) → wDc k t fk fv ds ρ es Q
  | [], es, Q, _, q => q
  | d :: ds, es, Q, h, q => by
    show k d ρ fun ρ1 => t ρ1 fun b => (if b = true then bnd (fk ρ1) fun y => bnd (fv ρ1) fun z => bnd (keyW y) fun j => wDc k t fk fv ds ρ (putP es (kD j) z) else wDc k t fk fv ds ρ es) Q
    simp only [ite_ap]
    refine h d List.mem_cons_self (fun o => match o with | some p => wDc k t fk fv ds ρ (putP es p.1 p.2) Q | none => wDc k t fk fv ds ρ es Q) ?_
    cases e : g d with
    | none =>
      rw [List.filterMap_cons_none e] at q
      exact dc_puts g (fun d m => h d (List.mem_cons_of_mem _ m)) q
    | some p =>
      rw [List.filterMap_cons_some e] at q
      exact dc_puts g (fun d m => h d (List.mem_cons_of_mem _ m)) q
end
theorem puts_new : ∀ (ps : List (PyData × PyData)) (es : List (PyData × PyData)), (es ++ ps).Pairwise (fun a b => keqb a.1 b.1 = false) → putsP es ps = es ++ ps
  | [], es, _ => by simp [putsP]
  | p :: ps, es, h => by
    have h1 : (es.any fun e => keqb e.1 p.1) = false := by
      rw [List.any_eq_false]
      intro e m
      rw [List.pairwise_append] at h
      rw [h.2.2 e m p List.mem_cons_self]
      exact Bool.false_ne_true
    have e1 : putP es p.1 p.2 = es ++ [p] := by
      unfold putP
      rw [h1, if_neg Bool.false_ne_true]
    show putsP (putP es p.1 p.2) ps = es ++ p :: ps
    rw [e1, puts_new ps (es ++ [p]) (by rw [List.append_assoc]; exact h), List.append_assoc]
    rfl
/-- each key once, in the order of its first appearance -/
def firsts (acc : List PyData) : List PyData → List PyData
  | [] => acc
  | d :: ds => firsts (if (acc.any fun e => keqb e d) = true then acc else acc ++ [d]) ds
theorem put_keys (es : List (PyData × PyData)) (k v : PyData) : (putP es k v).map (·.1) = if ((es.map (·.1)).any fun e => keqb e k) = true then es.map (·.1) else es.map (·.1) ++ [k] := by
  unfold putP
  rw [List.any_map]
  show (if (es.any fun e => keqb e.1 k) = true then _ else _ : List (PyData × PyData)).map (·.1) = if (es.any fun e => keqb e.1 k) = true then _ else _
  split
  · rw [List.map_map]
    refine List.map_congr_left fun e _ => ?_
    show (if keqb e.1 k = true then (e.1, v) else e).1 = e.1
    split <;> rfl
  · simp
theorem puts_keys : ∀ (ps es : List (PyData × PyData)), (putsP es ps).map (·.1) = firsts (es.map (·.1)) (ps.map (·.1))
  | [], es => rfl
  | p :: ps, es => by
    show (putsP (putP es p.1 p.2) ps).map (·.1) = firsts _ (p.1 :: ps.map (·.1))
    rw [puts_keys ps, put_keys]; rfl
theorem firsts_nil : ∀ (ds acc : List PyData), firsts acc ds = [] ↔ acc = [] ∧ ds = []
  | [], acc => by simp [firsts]
  | d :: ds, acc => by
    show firsts (if _ then _ else _) ds = [] ↔ _
    rw [firsts_nil ds]
    constructor
    · intro h
      split at h
      · rename_i hh
        rw [h.1] at hh; simp at hh
      · simp at h
    · intro h; simp at h
theorem filterMap_all {α β : Type} (f : α → Option β) (g : α → β) (h : ∀ x, f x = some (g x)) (xs : List α) : xs.filterMap f = xs.map g := by
  induction xs with
  | nil => rfl
  | cons x xs ih => rw [List.filterMap_cons_some (h x), ih]; rfl
theorem marked_map {α : Type} {f : α → PyData × PyData} {xs : List α} (h : ∀ x, (f x).1 ≠ .none) : marked (xs.map f) = false := by
  cases xs with
  | nil => rfl
  | cons x xs =>
    show marked (f x :: _) = false
    have := h x
    cases e : f x with
    | mk a b =>
      rw [e] at this
      cases a <;> first | rfl | exact absurd rfl this
end Lq
namespace Lq
open PySem L2
local macro_rules | `(tactic| walk_at "wp") => `(tactic| (try simp only [runQ_e, runQP_e, endQ_rt_e, endQ_nx_e, sSeq_e, sNil_e, thenO_nx, thenO_rt, thenO_bk, thenO_ct, thenO_ex, bnd_e, ret_e, gd_e, bad_e, eVar_e, eOwn_e, slV_e, slO_e, eC_e, eOp_e, eTup_e, aNil_e, aCons_e, sSet_e, gN_e, gT_e, gsCons_e, gsNil_e, sRet_e, sIf_e, sExpr_e, tT_e, tTru_e, tNo_e, tBoth_e, tEither_e, eBoth_e, eEither_e, eNo_e, eIf_e, eCall_e, eFn_e, eFnP_e, slP_e, eSl_e, aPart_e, noPart_e, eIsi_e, isiD, eTy_e, tyQ_e, ty_n, ty_b, ty_i, ty_s, ty_l, ty_t, ty_d, eGet1_e, eGet2_e, eDget_e, eDin_e, sDnew_e, sPut_e, slD_e, sNew_e, lLst_e, slL_e, sApp_e, eL_e, sPop_e, sExt_e, sSetIx_e, lList_e, iSeq_e, iCall_e, eNeg_e, eChain_e, eBack_e, sFrz_e, frzR, frzS, sPutT_e, slDT_e, sDnewT_e, ite_ap, sFor_e, fLc_e, fDc_e, eD_e, tAll_e, asB_b, tru_n, tru_b, tru_i, tru_s, tru_l, tru_t, items_l, items_t, intOf_i, len_l, len_t, len_s, list_l, list_t, tuple_l, tuple_t, ix_t, ix_l, ix_s, atW_s, add_i, add_s, add_t, add_l, sub_i, mul_i, mod_i, fdiv_i, neg_i, pow_i, eRg1_e, rgW_e, Int.sub_zero, lt_i, le_i, gt_i, ge_i, lt_s, le_s, is_n, isNot_n, isN_n, isN_b, isN_i, isN_s, isN_l, isN_t, isN_d, eq_ii, eq_ss, eq_bb, eq_is, eq_si, eq_nn, eq_ni, eq_in, eq_ns, eq_sn, eq_tt, eq_ll, ne_ii, ne_ss, ne_bb, ne_is, ne_si, ne_nn, ne_ni, ne_in, ne_ns, ne_sn, ne_tt, ne_ll, sum_l, intsW_of, max_2, min_2, int_i, int_b, rng1_i, rng2_i, sl_t, sl_l, sl_s, back_t, back_l, back_0, keyP_i, keyP_s, keyW_i, keyW_s, kD_i, kD_s, List.map_cons, List.map_nil, List.length_cons, List.length_nil, List.cons_append, List.nil_append, List.replicate_succ, List.replicate_zero, List.getElem?_cons_zero, List.getElem?_cons_succ, List.set_cons_zero, List.set_cons_succ, List.reverse_cons, List.reverse_nil, Nat.zero_add, Nat.reduceSub, Nat.reduceAdd, reduceIte, if_true, if_false, Bool.not_true, Bool.not_false, Bool.true_eq_false, Bool.false_eq_true, ite_true, ite_false, String.reduceEq, ne_eq, not_false_eq_true, not_true_eq_false, reduceCtorEq, true_and, and_true, noOwn, isOwn, wipeR, List.all_cons, List.all_nil, Bool.and_self, at_zero, at_one, at_two, at_three, cut_1, cut_from, cut_from1, cut_upto, decide_true, decide_false, Int.toNat_natCast, upto_len, z_succ, z_succ_pos, z_pred, z_zero, z_zero_pos, List.drop_succ_cons, List.drop_zero, List.isEmpty_cons, List.isEmpty_nil, List.getLast?_concat, List.dropLast_concat, sz_0, sz_1, sz_2, sz_3, sz_4, sz_5, sz_6, sz_7, sz_8, sz_9, sz_10, sz_11, sz_12, sz_13, sz_14, sz_15, sz_16, sz_17, sz_18, sz_19, sz_20, kit_NoneType_bool, kit_NoneType_int, kit_NoneType_str, kit_NoneType_list, kit_NoneType_tuple, kit_bool_bool, kit_bool_int, kit_bool_str, kit_bool_list, kit_bool_tuple, kit_int_bool, kit_int_int, kit_int_str, kit_int_list, kit_int_tuple, kit_str_bool, kit_str_int, kit_str_str, kit_str_list, kit_str_tuple, kit_list_bool, kit_list_int, kit_list_str, kit_list_list, kit_list_tuple, kit_tuple_bool, kit_tuple_int, kit_tuple_str, kit_tuple_list, kit_tuple_tuple, sAugadd, sAugsub, sAug, eDisp_e, ppCons_e, ppNil_e, eListVals_e, lAdd_e, fLcD_e, lZip_e, zipT_e, dictW_e, enumWA_l, enumWA_t, eIsi2_e, runZ_e, ptrs_c, ptrs_n, endZ_rs, endZ_nx, one_gh, thenO_rs, eGh_e, slG_e, ghD_l, ghD_d, ghD_t, zPure_e, zNil_e, zCons_e, zOp_e, zTup_e, zCall_e, zT_e, zNo_e, sRetZ_e, sExprZ_e, sSetZ_e, sIfZ_e, zFn_e, getG1_e, slGh_e, putG1_e, regh_e, zPtrs1_e, eFnN_e, sGPut_e, sGApp_e, gLst_e, gDic_e, gDit_e, zSetd_e, zLc_e, plV_n, plV_c, isPl_u, isPl_v, rest_n, rest_c, eJoined_e, jNil_e, jStr_e, jVal_e, fmtW_i, fmtW_s, eJoin_e, strW_e, eIndex_e, isLst_e, Option.getD_some, slO_d, slO_t, iStr_e, signsW_e, zipWl_e, zipWt_e, enumWl_e, allQl_e, anyQl_e, inS1_e]))
/-! ### _law_same of a thing and itself -/
theorem same_self : ∀ (n : Nat) (d : PyData) (Q : PyData → Prop), dep d < n → nodes d ≤ 2 ^ 24 → plain d = true → Q (.bool true) → m_l_same n [d, d] Q
  | 0, _, _, h, _, _, _ => by omega
  | n + 1, d, Q, h, hn, hp, q => by
    show runQ 3 (b_l_same (m_l_same n)) [d, d] Q
    cases d with
    | none => (simp only [b_l_same]; walk_at "wp"); exact q
    | bool b => (simp only [b_l_same]; walk_at "wp"); exact q
    | int i => (simp only [b_l_same]; walk_at "wp"); exact q
    | str x => (simp only [b_l_same]; walk_at "wp"); exact q
    | dict es => simp [plain] at hp
    | tuple ds =>
      simp only [dep, nodes, plain] at h hn hp
      (simp only [b_l_same]; walk_at "wp")
      have hl := length_nodesL ds
      refine ⟨by omega, by simp only [sizeLine]; omega, lc_fm (fun _ => none) (fun d m R r => ?_) (by rw [filterMap_none]; exact q)⟩
      obtain ⟨i, hi, rfl⟩ := upto_mem m
      have hx : atI ds (0 + (i : Int)) = some ds[i] := by rw [Int.zero_add]; exact at_of_nat (List.getElem?_eq_getElem hi)
      have hm := List.getElem_mem hi
      walk_at "wp"
      simp only [hx]
      exact up_of (same_self n _ _ (by have := dep_of_mem hm; omega) (by have := nodes_of_mem hm; omega) (plainL_iff.mp hp _ hm) r)
    | list ds =>
      simp only [dep, nodes, plain] at h hn hp
      (simp only [b_l_same]; walk_at "wp")
      have hl := length_nodesL ds
      refine ⟨by omega, by simp only [sizeLine]; omega, lc_fm (fun _ => none) (fun d m R r => ?_) (by rw [filterMap_none]; exact q)⟩
      obtain ⟨i, hi, rfl⟩ := upto_mem m
      have hx : atI ds (0 + (i : Int)) = some ds[i] := by rw [Int.zero_add]; exact at_of_nat (List.getElem?_eq_getElem hi)
      have hm := List.getElem_mem hi
      walk_at "wp"
      simp only [hx]
      exact up_of (same_self n _ _ (by have := dep_of_mem hm; omega) (by have := nodes_of_mem hm; omega) (plainL_iff.mp hp _ hm) r)
end Lq
namespace Lq
open PySem L2
local macro_rules | `(tactic| walk_at "wp") => `(tactic| (try simp only [runQ_e, runQP_e, endQ_rt_e, endQ_nx_e, sSeq_e, sNil_e, thenO_nx, thenO_rt, thenO_bk, thenO_ct, thenO_ex, bnd_e, ret_e, gd_e, bad_e, eVar_e, eOwn_e, slV_e, slO_e, eC_e, eOp_e, eTup_e, aNil_e, aCons_e, sSet_e, gN_e, gT_e, gsCons_e, gsNil_e, sRet_e, sIf_e, sExpr_e, tT_e, tTru_e, tNo_e, tBoth_e, tEither_e, eBoth_e, eEither_e, eNo_e, eIf_e, eCall_e, eFn_e, eFnP_e, slP_e, eSl_e, aPart_e, noPart_e, eIsi_e, isiD, eTy_e, tyQ_e, ty_n, ty_b, ty_i, ty_s, ty_l, ty_t, ty_d, eGet1_e, eGet2_e, eDget_e, eDin_e, sDnew_e, sPut_e, slD_e, sNew_e, lLst_e, slL_e, sApp_e, eL_e, sPop_e, sExt_e, sSetIx_e, lList_e, iSeq_e, iCall_e, eNeg_e, eChain_e, eBack_e, sFrz_e, frzR, frzS, sPutT_e, slDT_e, sDnewT_e, ite_ap, sFor_e, fLc_e, fDc_e, eD_e, tAll_e, asB_b, tru_n, tru_b, tru_i, tru_s, tru_l, tru_t, items_l, items_t, intOf_i, len_l, len_t, len_s, list_l, list_t, tuple_l, tuple_t, ix_t, ix_l, ix_s, atW_s, add_i, add_s, add_t, add_l, sub_i, mul_i, mod_i, fdiv_i, neg_i, pow_i, eRg1_e, rgW_e, Int.sub_zero, lt_i, le_i, gt_i, ge_i, lt_s, le_s, is_n, isNot_n, isN_n, isN_b, isN_i, isN_s, isN_l, isN_t, isN_d, eq_ii, eq_ss, eq_bb, eq_is, eq_si, eq_nn, eq_ni, eq_in, eq_ns, eq_sn, eq_tt, eq_ll, ne_ii, ne_ss, ne_bb, ne_is, ne_si, ne_nn, ne_ni, ne_in, ne_ns, ne_sn, ne_tt, ne_ll, sum_l, intsW_of, max_2, min_2, int_i, int_b, rng1_i, rng2_i, sl_t, sl_l, sl_s, back_t, back_l, back_0, keyP_i, keyP_s, keyW_i, keyW_s, kD_i, kD_s, List.map_cons, List.map_nil, List.length_cons, List.length_nil, List.cons_append, List.nil_append, List.replicate_succ, List.replicate_zero, List.getElem?_cons_zero, List.getElem?_cons_succ, List.set_cons_zero, List.set_cons_succ, List.reverse_cons, List.reverse_nil, Nat.zero_add, Nat.reduceSub, Nat.reduceAdd, reduceIte, if_true, if_false, Bool.not_true, Bool.not_false, Bool.true_eq_false, Bool.false_eq_true, ite_true, ite_false, String.reduceEq, ne_eq, not_false_eq_true, not_true_eq_false, reduceCtorEq, true_and, and_true, noOwn, isOwn, wipeR, List.all_cons, List.all_nil, Bool.and_self, at_zero, at_one, at_two, at_three, cut_1, cut_from, cut_from1, cut_upto, decide_true, decide_false, Int.toNat_natCast, upto_len, z_succ, z_succ_pos, z_pred, z_zero, z_zero_pos, List.drop_succ_cons, List.drop_zero, List.isEmpty_cons, List.isEmpty_nil, List.getLast?_concat, List.dropLast_concat, sz_0, sz_1, sz_2, sz_3, sz_4, sz_5, sz_6, sz_7, sz_8, sz_9, sz_10, sz_11, sz_12, sz_13, sz_14, sz_15, sz_16, sz_17, sz_18, sz_19, sz_20, kit_NoneType_bool, kit_NoneType_int, kit_NoneType_str, kit_NoneType_list, kit_NoneType_tuple, kit_bool_bool, kit_bool_int, kit_bool_str, kit_bool_list, kit_bool_tuple, kit_int_bool, kit_int_int, kit_int_str, kit_int_list, kit_int_tuple, kit_str_bool, kit_str_int, kit_str_str, kit_str_list, kit_str_tuple, kit_list_bool, kit_list_int, kit_list_str, kit_list_list, kit_list_tuple, kit_tuple_bool, kit_tuple_int, kit_tuple_str, kit_tuple_list, kit_tuple_tuple, sAugadd, sAugsub, sAug, eDisp_e, ppCons_e, ppNil_e, eListVals_e, lAdd_e, fLcD_e, lZip_e, zipT_e, dictW_e, enumWA_l, enumWA_t, eIsi2_e, runZ_e, ptrs_c, ptrs_n, endZ_rs, endZ_nx, one_gh, thenO_rs, eGh_e, slG_e, ghD_l, ghD_d, ghD_t, zPure_e, zNil_e, zCons_e, zOp_e, zTup_e, zCall_e, zT_e, zNo_e, sRetZ_e, sExprZ_e, sSetZ_e, sIfZ_e, zFn_e, getG1_e, slGh_e, putG1_e, regh_e, zPtrs1_e, eFnN_e, sGPut_e, sGApp_e, gLst_e, gDic_e, gDit_e, zSetd_e, zLc_e, plV_n, plV_c, isPl_u, isPl_v, rest_n, rest_c, eJoined_e, jNil_e, jStr_e, jVal_e, fmtW_i, fmtW_s, eJoin_e, strW_e, eIndex_e, isLst_e, Option.getD_some, slO_d, slO_t, iStr_e, signsW_e, zipWl_e, zipWt_e, enumWl_e, allQl_e, anyQl_e, inS1_e]))
/-! ### whole numbers, arities -/
def isI : PyData → Bool
  | .int _ => true
  | _ => false
theorem m_is_int {d : PyData} {Q : PyData → Prop} (hd : plain d = true) (q : Q (.bool (isI d))) : M_l_is_integer [d] Q := by
  unfold M_l_is_integer
  cases d <;> first | (simp only [b_l_is_integer]; walk_at "wp"; exact q) | (simp [plain] at hd)
def arOf (cs : List (Str × Nat)) (w : Str) : Option Nat := (cs.find? fun c => decide (c.1 = w)).map (·.2)
def arD (cs : List (Str × Nat)) (w : Str) : PyData := match arOf cs w with
  | some n => .int (n : Int)
  | none => .none
mutual
/-- a term over constructors -/
def isT (cs : List (Str × Nat)) : PyData → Bool
  | .int i => decide (0 ≤ i)
  | .tuple (.str w :: ds) => decide (arOf cs w = some ds.length) && isTs cs ds
  | _ => false
def isTs (cs : List (Str × Nat)) : List PyData → Bool
  | [] => true
  | d :: ds => isT cs d && isTs cs ds
end
theorem isTs_append {cs : List (Str × Nat)} : ∀ xs ys : List PyData, isTs cs (xs ++ ys) = (isTs cs xs && isTs cs ys)
  | [], _ => by simp [isTs]
  | d :: ds, ys => by simp only [List.cons_append, isTs, isTs_append ds ys, Bool.and_assoc]
theorem isTs_all {cs : List (Str × Nat)} : ∀ ds : List PyData, isTs cs ds = ds.all (isT cs)
  | [] => rfl
  | d :: ds => by simp only [isTs, isTs_all ds, List.all_cons]
theorem filterMap_len_zero {α : Type} (p : α → Bool) (xs : List α) : ((xs.filterMap fun x => if p x = true then none else some x).length = 0) ↔ xs.all p = true := by
  induction xs with
  | nil => simp
  | cons x xs ih =>
    cases h : p x with
    | true => rw [List.filterMap_cons_none (by simp [h]), ih]; simp [h]
    | false => rw [List.filterMap_cons_some (b := x) (by simp [h])]; simp [h]
/-! ### the program's is_term -/
def csD (cs : List (Str × Nat)) : List (PyData × PyData) := cs.map fun c => (.str c.1, .int (c.2 : Int))
theorem look_csD (w : Str) : ∀ cs : List (Str × Nat), (lookP (csD cs) (.str w)).getD .none = arD cs w
  | [] => rfl
  | c :: cs => by
    unfold lookP csD arD arOf
    rw [List.map_cons, List.find?_cons, List.find?_cons]
    by_cases h : c.1 = w
    · simp [keqb, h]
    · have := look_csD w cs
      unfold lookP csD arD arOf at this
      simpa [keqb, h] using this
theorem puts_csD {cs : List (Str × Nat)} (h : (cs.map (·.1)).Nodup) : putsP [] (csD cs) = csD cs := by
  rw [puts_new (csD cs) [] ?_]; rfl
  rw [List.nil_append]
  unfold csD
  rw [List.pairwise_map]
  unfold List.Nodup at h
  rw [List.pairwise_map] at h
  refine h.imp fun {a b} n => ?_
  simp [keqb, n]
end Lq
namespace Lq
open PySem L2
local macro_rules | `(tactic| walk_at "wp") => `(tactic| (try simp only [runQ_e, runQP_e, endQ_rt_e, endQ_nx_e, sSeq_e, sNil_e, thenO_nx, thenO_rt, thenO_bk, thenO_ct, thenO_ex, bnd_e, ret_e, gd_e, bad_e, eVar_e, eOwn_e, slV_e, slO_e, eC_e, eOp_e, eTup_e, aNil_e, aCons_e, sSet_e, gN_e, gT_e, gsCons_e, gsNil_e, sRet_e, sIf_e, sExpr_e, tT_e, tTru_e, tNo_e, tBoth_e, tEither_e, eBoth_e, eEither_e, eNo_e, eIf_e, eCall_e, eFn_e, eFnP_e, slP_e, eSl_e, aPart_e, noPart_e, eIsi_e, isiD, eTy_e, tyQ_e, ty_n, ty_b, ty_i, ty_s, ty_l, ty_t, ty_d, eGet1_e, eGet2_e, eDget_e, eDin_e, sDnew_e, sPut_e, slD_e, sNew_e, lLst_e, slL_e, sApp_e, eL_e, sPop_e, sExt_e, sSetIx_e, lList_e, iSeq_e, iCall_e, eNeg_e, eChain_e, eBack_e, sFrz_e, frzR, frzS, sPutT_e, slDT_e, sDnewT_e, ite_ap, sFor_e, fLc_e, fDc_e, eD_e, tAll_e, asB_b, tru_n, tru_b, tru_i, tru_s, tru_l, tru_t, items_l, items_t, intOf_i, len_l, len_t, len_s, list_l, list_t, tuple_l, tuple_t, ix_t, ix_l, ix_s, atW_s, add_i, add_s, add_t, add_l, sub_i, mul_i, mod_i, fdiv_i, neg_i, pow_i, eRg1_e, rgW_e, Int.sub_zero, lt_i, le_i, gt_i, ge_i, lt_s, le_s, is_n, isNot_n, isN_n, isN_b, isN_i, isN_s, isN_l, isN_t, isN_d, eq_ii, eq_ss, eq_bb, eq_is, eq_si, eq_nn, eq_ni, eq_in, eq_ns, eq_sn, eq_tt, eq_ll, ne_ii, ne_ss, ne_bb, ne_is, ne_si, ne_nn, ne_ni, ne_in, ne_ns, ne_sn, ne_tt, ne_ll, sum_l, intsW_of, max_2, min_2, int_i, int_b, rng1_i, rng2_i, sl_t, sl_l, sl_s, back_t, back_l, back_0, keyP_i, keyP_s, keyW_i, keyW_s, kD_i, kD_s, List.map_cons, List.map_nil, List.length_cons, List.length_nil, List.cons_append, List.nil_append, List.replicate_succ, List.replicate_zero, List.getElem?_cons_zero, List.getElem?_cons_succ, List.set_cons_zero, List.set_cons_succ, List.reverse_cons, List.reverse_nil, Nat.zero_add, Nat.reduceSub, Nat.reduceAdd, reduceIte, if_true, if_false, Bool.not_true, Bool.not_false, Bool.true_eq_false, Bool.false_eq_true, ite_true, ite_false, String.reduceEq, ne_eq, not_false_eq_true, not_true_eq_false, reduceCtorEq, true_and, and_true, noOwn, isOwn, wipeR, List.all_cons, List.all_nil, Bool.and_self, at_zero, at_one, at_two, at_three, cut_1, cut_from, cut_from1, cut_upto, decide_true, decide_false, Int.toNat_natCast, upto_len, z_succ, z_succ_pos, z_pred, z_zero, z_zero_pos, List.drop_succ_cons, List.drop_zero, List.isEmpty_cons, List.isEmpty_nil, List.getLast?_concat, List.dropLast_concat, sz_0, sz_1, sz_2, sz_3, sz_4, sz_5, sz_6, sz_7, sz_8, sz_9, sz_10, sz_11, sz_12, sz_13, sz_14, sz_15, sz_16, sz_17, sz_18, sz_19, sz_20, kit_NoneType_bool, kit_NoneType_int, kit_NoneType_str, kit_NoneType_list, kit_NoneType_tuple, kit_bool_bool, kit_bool_int, kit_bool_str, kit_bool_list, kit_bool_tuple, kit_int_bool, kit_int_int, kit_int_str, kit_int_list, kit_int_tuple, kit_str_bool, kit_str_int, kit_str_str, kit_str_list, kit_str_tuple, kit_list_bool, kit_list_int, kit_list_str, kit_list_list, kit_list_tuple, kit_tuple_bool, kit_tuple_int, kit_tuple_str, kit_tuple_list, kit_tuple_tuple, sAugadd, sAugsub, sAug, eDisp_e, ppCons_e, ppNil_e, eListVals_e, lAdd_e, fLcD_e, lZip_e, zipT_e, dictW_e, enumWA_l, enumWA_t, eIsi2_e, runZ_e, ptrs_c, ptrs_n, endZ_rs, endZ_nx, one_gh, thenO_rs, eGh_e, slG_e, ghD_l, ghD_d, ghD_t, zPure_e, zNil_e, zCons_e, zOp_e, zTup_e, zCall_e, zT_e, zNo_e, sRetZ_e, sExprZ_e, sSetZ_e, sIfZ_e, zFn_e, getG1_e, slGh_e, putG1_e, regh_e, zPtrs1_e, eFnN_e, sGPut_e, sGApp_e, gLst_e, gDic_e, gDit_e, zSetd_e, zLc_e, plV_n, plV_c, isPl_u, isPl_v, rest_n, rest_c, eJoined_e, jNil_e, jStr_e, jVal_e, fmtW_i, fmtW_s, eJoin_e, strW_e, eIndex_e, isLst_e, Option.getD_some, slO_d, slO_t, iStr_e, signsW_e, zipWl_e, zipWt_e, enumWl_e, allQl_e, anyQl_e, inS1_e]))
/-! ### the variables of a term, each as often as it occurs -/
mutual
def occD : PyData → List PyData
  | .int i => [.int i]
  | .tuple (_ :: ds) => occL ds
  | _ => []
def occL : List PyData → List PyData
  | [] => []
  | d :: ds => occD d ++ occL ds
end
theorem occL_append : ∀ xs ys : List PyData, occL (xs ++ ys) = occL xs ++ occL ys
  | [], _ => by simp [occL]
  | d :: ds, ys => by simp only [List.cons_append, occL, occL_append ds ys, List.append_assoc]
mutual
theorem occD_len : ∀ d : PyData, (occD d).length ≤ nodes d
  | .int i => by simp [occD, nodes]
  | .tuple [] => by simp [occD]
  | .tuple (v :: ds) => by
    have := occL_len ds
    simp only [occD, nodes, nodesL]
    omega
  | .none => by simp [occD]
  | .bool _ => by simp [occD]
  | .str _ => by simp [occD]
  | .list _ => by simp [occD]
  | .dict _ => by simp [occD]
theorem occL_len : ∀ ds : List PyData, (occL ds).length ≤ nodesL ds
  | [] => by simp [occL]
  | d :: ds => by
    have := occD_len d
    have := occL_len ds
    simp only [occL, nodesL, List.length_append]
    omega
end
mutual
theorem occD_ints : ∀ d : PyData, ∀ x ∈ occD d, ∃ i : Int, x = .int i
  | .int i, x, h => ⟨i, by simpa [occD] using h⟩
  | .tuple [], x, h => by simp [occD] at h
  | .tuple (v :: ds), x, h => occL_ints ds x (by simpa [occD] using h)
  | .none, x, h => by simp [occD] at h
  | .bool _, x, h => by simp [occD] at h
  | .str _, x, h => by simp [occD] at h
  | .list _, x, h => by simp [occD] at h
  | .dict _, x, h => by simp [occD] at h
theorem occL_ints : ∀ ds : List PyData, ∀ x ∈ occL ds, ∃ i : Int, x = .int i
  | [], x, h => by simp [occL] at h
  | d :: ds, x, h => by
    simp only [occL, List.mem_append] at h
    exact h.elim (occD_ints d x) (occL_ints ds x)
end
/-- a leaf's number, or a word and parts -/
def termish : PyData → Bool
  | .int _ => true
  | .tuple (.str _ :: _) => true
  | _ => false
mutual
/-- of the form of a term, over whatever words -/
def isTm : PyData → Bool
  | .int _ => true
  | .tuple (.str _ :: ds) => isTms ds
  | _ => false
def isTms : List PyData → Bool
  | [] => true
  | d :: ds => isTm d && isTms ds
end
mutual
theorem isTm_of {cs : List (Str × Nat)} : ∀ d : PyData, isT cs d = true → isTm d = true
  | .int i, _ => rfl
  | .tuple [], h => by simp [isT] at h
  | .tuple (.str w :: ds), h => by
    simp only [isT, Bool.and_eq_true] at h
    exact isTms_of ds h.2
  | .tuple (.none :: _), h => by simp [isT] at h
  | .tuple (.bool _ :: _), h => by simp [isT] at h
  | .tuple (.int _ :: _), h => by simp [isT] at h
  | .tuple (.list _ :: _), h => by simp [isT] at h
  | .tuple (.tuple _ :: _), h => by simp [isT] at h
  | .tuple (.dict _ :: _), h => by simp [isT] at h
  | .none, h => by simp [isT] at h
  | .bool _, h => by simp [isT] at h
  | .str _, h => by simp [isT] at h
  | .list _, h => by simp [isT] at h
  | .dict _, h => by simp [isT] at h
theorem isTms_of {cs : List (Str × Nat)} : ∀ ds : List PyData, isTs cs ds = true → isTms ds = true
  | [], _ => rfl
  | d :: ds, h => by
    simp only [isTs, Bool.and_eq_true] at h
    simp only [isTms, Bool.and_eq_true]
    exact ⟨isTm_of d h.1, isTms_of ds h.2⟩
end
theorem isTms_append : ∀ xs ys : List PyData, isTms (xs ++ ys) = (isTms xs && isTms ys)
  | [], _ => by simp [isTms]
  | d :: ds, ys => by simp only [List.cons_append, isTms, isTms_append ds ys, Bool.and_assoc]
theorem isTms_mem : ∀ {ds : List PyData}, isTms ds = true → ∀ d ∈ ds, isTm d = true
  | d :: ds, h, e, m => by
    simp only [isTms, Bool.and_eq_true] at h
    rcases List.mem_cons.mp m with rfl | m
    · exact h.1
    · exact isTms_mem h.2 e m
theorem isTms_reverse {ds : List PyData} (h : isTms ds = true) : isTms ds.reverse = true := by
  induction ds with
  | nil => rfl
  | cons d ds ih =>
    simp only [isTms, Bool.and_eq_true] at h
    rw [List.reverse_cons, isTms_append, ih h.2]
    simp [isTms, h.1]
theorem isTm_cases {d : PyData} (h : isTm d = true) : (∃ i, d = .int i) ∨ ∃ w ds, d = .tuple (.str w :: ds) ∧ isTms ds = true := by
  cases d with
  | int i => exact .inl ⟨i, rfl⟩
  | tuple ds =>
    cases ds with
    | nil => simp [isTm] at h
    | cons v ds => cases v with
      | str w => exact .inr ⟨w, ds, rfl, by simpa [isTm] using h⟩
      | none => simp [isTm] at h
      | bool _ => simp [isTm] at h
      | int _ => simp [isTm] at h
      | list _ => simp [isTm] at h
      | tuple _ => simp [isTm] at h
      | dict _ => simp [isTm] at h
  | none => simp [isTm] at h
  | bool _ => simp [isTm] at h
  | str _ => simp [isTm] at h
  | list _ => simp [isTm] at h
  | dict _ => simp [isTm] at h
theorem take_next {α : Type} {xs : List α} {i : Nat} {x : α} (h : xs[i]? = some x) : xs.take (i + 1) = xs.take i ++ [x] := by
  rw [List.take_succ, h]; rfl
theorem m_l_occ : ∀ (n : Nat) (d : PyData) (Q : PyData → Prop), isTm d = true → dep d < n → nodes d ≤ 2 ^ 20 → Q (.list (occD d)) → m_l_occurrences M_l_is_integer n [d] Q
  | 0, _, _, _, h, _, _ => by omega
  | n + 1, d, Q, ht, h, hn, q => by
    show runQ 3 (b_l_occurrences M_l_is_integer (m_l_occurrences M_l_is_integer n)) [d] Q
    simp only [b_l_occurrences]
    have hint : ∀ (d : PyData) (Q : PyData → Prop), (isTm d = true) → Q (.bool (isI d)) → M_l_is_integer [d] Q := fun d Q h q => by
      unfold M_l_is_integer
      rcases isTm_cases h with ⟨i, rfl⟩ | ⟨w, ds, rfl, _⟩
      · (simp only [b_l_is_integer]; walk_at "wp"; exact q)
      · (simp only [b_l_is_integer]; walk_at "wp"; exact q)
    rcases isTm_cases ht with ⟨i, rfl⟩ | ⟨w, ds, rfl, hd⟩
    · walk_at "wp"
      refine up_of (hint _ _ ht ?_)
      simp only [isI]
      walk_at "wp"
      exact q
    · simp only [dep, depL, nodes, nodesL] at h hn
      walk_at "wp"
      refine up_of (hint _ _ ht ?_)
      simp only [isI]
      walk_at "wp"
      refine for_i (st := fun a : List PyData × Sl => [.val (.tuple (.str w :: ds)), .val (.list a.1), a.2]) (I := fun i a => a.1 = occL (ds.take i)) ?_ ?_ (a := ([], .un)) rfl
      · rintro i x ⟨row, s⟩ hx hI R hR hrt hbk
        simp only at hI
        subst hI
        have hm := List.mem_of_getElem? hx
        walk_at "wp"
        refine up_of (m_l_occ n x _ (isTms_mem hd x hm) (by have := dep_of_mem hm; omega) (by have := nodes_of_mem hm; omega) ?_)
        walk_at "wp"
        have e : occL (ds.take (i + 1)) = occL (ds.take i) ++ occD x := by rw [take_next hx, occL_append]; simp [occL]
        have l1 := occL_len (ds.take (i + 1))
        have l2 := nodesL_take_drop ds (i + 1)
        rw [e, List.length_append] at l1
        exact ⟨by simp only [sizeLine]; omega, (hR (_, .val x) e.symm).1⟩
      · rintro ⟨row, s⟩ hI
        simp only at hI
        subst hI
        walk_at "wp"
        rw [List.take_length]
        simpa [occD] using q
theorem mem_firsts {d : PyData} : ∀ {ds acc : List PyData}, d ∈ firsts acc ds → d ∈ acc ∨ d ∈ ds
  | [], acc, h => .inl h
  | e :: ds, acc, h => by
    rcases mem_firsts (ds := ds) h with h | h
    · split at h
      · exact .inl h
      · rcases List.mem_append.mp h with h | h
        · exact .inl h
        · exact .inr (by simpa using .inl (List.mem_singleton.mp h))
    · exact .inr (List.mem_cons_of_mem _ h)
theorem marked_fst {es : List (PyData × PyData)} (h : ∀ d ∈ es.map (·.1), d ≠ .none) : marked es = false := by
  cases es with
  | nil => rfl
  | cons e es =>
    have := h e.1 (by simp)
    cases e with
    | mk a b => cases a <;> first | rfl | exact absurd rfl this
end Lq
namespace Lq
open PySem L2
local macro_rules | `(tactic| walk_at "wp") => `(tactic| (try simp only [runQ_e, runQP_e, endQ_rt_e, endQ_nx_e, sSeq_e, sNil_e, thenO_nx, thenO_rt, thenO_bk, thenO_ct, thenO_ex, bnd_e, ret_e, gd_e, bad_e, eVar_e, eOwn_e, slV_e, slO_e, eC_e, eOp_e, eTup_e, aNil_e, aCons_e, sSet_e, gN_e, gT_e, gsCons_e, gsNil_e, sRet_e, sIf_e, sExpr_e, tT_e, tTru_e, tNo_e, tBoth_e, tEither_e, eBoth_e, eEither_e, eNo_e, eIf_e, eCall_e, eFn_e, eFnP_e, slP_e, eSl_e, aPart_e, noPart_e, eIsi_e, isiD, eTy_e, tyQ_e, ty_n, ty_b, ty_i, ty_s, ty_l, ty_t, ty_d, eGet1_e, eGet2_e, eDget_e, eDin_e, sDnew_e, sPut_e, slD_e, sNew_e, lLst_e, slL_e, sApp_e, eL_e, sPop_e, sExt_e, sSetIx_e, lList_e, iSeq_e, iCall_e, eNeg_e, eChain_e, eBack_e, sFrz_e, frzR, frzS, sPutT_e, slDT_e, sDnewT_e, ite_ap, sFor_e, fLc_e, fDc_e, eD_e, tAll_e, asB_b, tru_n, tru_b, tru_i, tru_s, tru_l, tru_t, items_l, items_t, intOf_i, len_l, len_t, len_s, list_l, list_t, tuple_l, tuple_t, ix_t, ix_l, ix_s, atW_s, add_i, add_s, add_t, add_l, sub_i, mul_i, mod_i, fdiv_i, neg_i, pow_i, eRg1_e, rgW_e, Int.sub_zero, lt_i, le_i, gt_i, ge_i, lt_s, le_s, is_n, isNot_n, isN_n, isN_b, isN_i, isN_s, isN_l, isN_t, isN_d, eq_ii, eq_ss, eq_bb, eq_is, eq_si, eq_nn, eq_ni, eq_in, eq_ns, eq_sn, eq_tt, eq_ll, ne_ii, ne_ss, ne_bb, ne_is, ne_si, ne_nn, ne_ni, ne_in, ne_ns, ne_sn, ne_tt, ne_ll, sum_l, intsW_of, max_2, min_2, int_i, int_b, rng1_i, rng2_i, sl_t, sl_l, sl_s, back_t, back_l, back_0, keyP_i, keyP_s, keyW_i, keyW_s, kD_i, kD_s, List.map_cons, List.map_nil, List.length_cons, List.length_nil, List.cons_append, List.nil_append, List.replicate_succ, List.replicate_zero, List.getElem?_cons_zero, List.getElem?_cons_succ, List.set_cons_zero, List.set_cons_succ, List.reverse_cons, List.reverse_nil, Nat.zero_add, Nat.reduceSub, Nat.reduceAdd, reduceIte, if_true, if_false, Bool.not_true, Bool.not_false, Bool.true_eq_false, Bool.false_eq_true, ite_true, ite_false, String.reduceEq, ne_eq, not_false_eq_true, not_true_eq_false, reduceCtorEq, true_and, and_true, noOwn, isOwn, wipeR, List.all_cons, List.all_nil, Bool.and_self, at_zero, at_one, at_two, at_three, cut_1, cut_from, cut_from1, cut_upto, decide_true, decide_false, Int.toNat_natCast, upto_len, z_succ, z_succ_pos, z_pred, z_zero, z_zero_pos, List.drop_succ_cons, List.drop_zero, List.isEmpty_cons, List.isEmpty_nil, List.getLast?_concat, List.dropLast_concat, sz_0, sz_1, sz_2, sz_3, sz_4, sz_5, sz_6, sz_7, sz_8, sz_9, sz_10, sz_11, sz_12, sz_13, sz_14, sz_15, sz_16, sz_17, sz_18, sz_19, sz_20, kit_NoneType_bool, kit_NoneType_int, kit_NoneType_str, kit_NoneType_list, kit_NoneType_tuple, kit_bool_bool, kit_bool_int, kit_bool_str, kit_bool_list, kit_bool_tuple, kit_int_bool, kit_int_int, kit_int_str, kit_int_list, kit_int_tuple, kit_str_bool, kit_str_int, kit_str_str, kit_str_list, kit_str_tuple, kit_list_bool, kit_list_int, kit_list_str, kit_list_list, kit_list_tuple, kit_tuple_bool, kit_tuple_int, kit_tuple_str, kit_tuple_list, kit_tuple_tuple, sAugadd, sAugsub, sAug, eDisp_e, ppCons_e, ppNil_e, eListVals_e, lAdd_e, fLcD_e, lZip_e, zipT_e, dictW_e, enumWA_l, enumWA_t, eIsi2_e, runZ_e, ptrs_c, ptrs_n, endZ_rs, endZ_nx, one_gh, thenO_rs, eGh_e, slG_e, ghD_l, ghD_d, ghD_t, zPure_e, zNil_e, zCons_e, zOp_e, zTup_e, zCall_e, zT_e, zNo_e, sRetZ_e, sExprZ_e, sSetZ_e, sIfZ_e, zFn_e, getG1_e, slGh_e, putG1_e, regh_e, zPtrs1_e, eFnN_e, sGPut_e, sGApp_e, gLst_e, gDic_e, gDit_e, zSetd_e, zLc_e, plV_n, plV_c, isPl_u, isPl_v, rest_n, rest_c, eJoined_e, jNil_e, jStr_e, jVal_e, fmtW_i, fmtW_s, eJoin_e, strW_e, eIndex_e, isLst_e, Option.getD_some, slO_d, slO_t, iStr_e, signsW_e, zipWl_e, zipWt_e, enumWl_e, allQl_e, anyQl_e, inS1_e]))
/-! ### draws -/
theorem draw_i {n : Int} {Q : PyData → Prop} (h0 : 0 < n) (h1 : n < 2 ^ 63) (h : ∀ k : Nat, (k : Int) < n → Q (.int k)) : up (mDraw [.int n]) Q :=
  up_of ⟨⟨h0, h1⟩, fun d d0 d1 => by
    obtain ⟨k, rfl⟩ := Int.eq_ofNat_of_zero_le d0
    exact h k d1⟩
theorem at_any {α : Type} {xs : List α} {k : Nat} {Q : α → Prop} (hk : k < xs.length) (h : ∀ x ∈ xs, Q x) : atW (atI xs (k : Int)) Q := by
  rw [at_nat, List.getElem?_eq_getElem hk]
  exact h _ (List.getElem_mem hk)
theorem at_get {α : Type} {xs : List α} {k : Nat} {Q : α → Prop} (hk : k < xs.length) (h : Q xs[k]) : atW (atI xs (k : Int)) Q := by
  rw [at_nat, List.getElem?_eq_getElem hk]
  exact h
/-! ### a thing bent -/
mutual
/-- no dicts, texts of at most m signs -/
def pl (m : Nat) : PyData → Bool
  | .list ds => pls m ds
  | .tuple ds => pls m ds
  | .dict _ => false
  | .str x => decide (x.length ≤ m)
  | _ => true
def pls (m : Nat) : List PyData → Bool
  | [] => true
  | d :: ds => pl m d && pls m ds
end
theorem pls_iff {m : Nat} : ∀ {ds : List PyData}, pls m ds = true ↔ ∀ d ∈ ds, pl m d = true
  | [] => by simp [pls]
  | d :: ds => by simp [pls, pls_iff (ds := ds)]
mutual
theorem pl_mono {m k : Nat} (h : m ≤ k) : ∀ d : PyData, pl m d = true → pl k d = true
  | .none, _ => rfl
  | .bool _, _ => rfl
  | .int _, _ => rfl
  | .str x, q => by simp only [pl, decide_eq_true_iff] at *; omega
  | .list ds, q => by simp only [pl] at *; exact pls_mono h ds q
  | .tuple ds, q => by simp only [pl] at *; exact pls_mono h ds q
  | .dict _, q => by simp [pl] at q
theorem pls_mono {m k : Nat} (h : m ≤ k) : ∀ d : List PyData, pls m d = true → pls k d = true
  | [], _ => rfl
  | d :: ds, q => by
    simp only [pls, Bool.and_eq_true] at *
    exact ⟨pl_mono h d q.1, pls_mono h ds q.2⟩
end
mutual
theorem plain_pl : ∀ d : PyData, plain d = pl 1000 d
  | .none => rfl
  | .bool _ => rfl
  | .int _ => rfl
  | .str x => rfl
  | .list ds => by simp only [plain, pl]; exact plainL_pls ds
  | .tuple ds => by simp only [plain, pl]; exact plainL_pls ds
  | .dict _ => rfl
theorem plainL_pls : ∀ d : List PyData, plainL d = pls 1000 d
  | [] => rfl
  | d :: ds => by simp only [plainL, pls, plain_pl d, plainL_pls ds]
end
theorem plain_of {m : Nat} {d : PyData} (h : m ≤ 1000) (q : pl m d = true) : plain d = true := by rw [plain_pl]; exact pl_mono h d q
theorem str_add_len (x y : Str) : (x ++ y).length = x.length + y.length := by
  show (x.cps ++ y.cps).size = x.cps.size + y.cps.size
  rw [Array.size_append]
theorem cut_str_len (x : Str) (lo hi : Option Int) : (cutS x lo hi).length ≤ x.length := by
  unfold cutS
  show (List.toArray _).size ≤ x.cps.size
  rw [List.size_toArray, List.length_take, List.length_drop, Array.length_toList]
  omega
mutual
/-- signs that a text can show, ints of at most so much -/
def tx (b : Nat) : PyData → Bool
  | .list ds => txs b ds
  | .tuple ds => txs b ds
  | .dict _ => false
  | .str x => x.cps.toList.all fun c => decide (c < 16 ^ 8)
  | .int i => decide (i.natAbs ≤ 2 * b)
  | _ => true
def txs (b : Nat) : List PyData → Bool
  | [] => true
  | d :: ds => tx b d && txs b ds
end
theorem txs_iff {m : Nat} : ∀ {ds : List PyData}, txs m ds = true ↔ ∀ d ∈ ds, tx m d = true
  | [] => by simp [txs]
  | d :: ds => by simp [txs, txs_iff (ds := ds)]
mutual
theorem tx_mono {m k : Nat} (h : m ≤ k) : ∀ d : PyData, tx m d = true → tx k d = true
  | .none, _ => rfl
  | .bool _, _ => rfl
  | .int _, q => by simp only [tx, decide_eq_true_iff] at *; omega
  | .str x, q => q
  | .list ds, q => by simp only [tx] at *; exact txs_mono h ds q
  | .tuple ds, q => by simp only [tx] at *; exact txs_mono h ds q
  | .dict _, q => by simp [tx] at q
theorem txs_mono {m k : Nat} (h : m ≤ k) : ∀ d : List PyData, txs m d = true → txs k d = true
  | [], _ => rfl
  | d :: ds, q => by
    simp only [txs, Bool.and_eq_true] at *
    exact ⟨tx_mono h d q.1, txs_mono h ds q.2⟩
end
theorem tx_app {x y : Str} (hx : (x.cps.toList.all fun c => decide (c < 16 ^ 8)) = true) (hy : (y.cps.toList.all fun c => decide (c < 16 ^ 8)) = true) : ((x ++ y).cps.toList.all fun c => decide (c < 16 ^ 8)) = true := by
  show ((x.cps ++ y.cps).toList.all _) = true
  rw [Array.toList_append, List.all_append, hx, hy]; rfl
theorem tx_cut {x : Str} (lo hi : Option Int) (hx : (x.cps.toList.all fun c => decide (c < 16 ^ 8)) = true) : ((cutS x lo hi).cps.toList.all fun c => decide (c < 16 ^ 8)) = true := by
  rw [List.all_eq_true] at *
  intro c hc
  refine hx c ?_
  unfold cutS at hc
  exact List.mem_of_mem_drop (List.mem_of_mem_take hc)
/-- what a bent thing may be -/
structure BentOf (m : Nat) (d d' : PyData) : Prop where
  tx : ∀ b, tx b d = true → tx (b + 1) d' = true
  pl : pl (m + 1) d' = true
  dep : dep d' ≤ dep d + 1
  nodes : nodes d' ≤ 2 * nodes d + 8
theorem nodesL_set (ds : List PyData) (i : Nat) (d : PyData) : nodesL (ds.set i d) ≤ nodesL ds + nodes d := by
  induction ds generalizing i with
  | nil => simp [nodesL]
  | cons e ds ih =>
    cases i with
    | zero => simp only [List.set_cons_zero, nodesL]; omega
    | succ i => have := ih i; simp only [List.set_cons_succ, nodesL]; omega
theorem mem_set {ds : List PyData} {i : Nat} {d e : PyData} (h : e ∈ ds.set i d) : e ∈ ds ∨ e = d := List.mem_or_eq_of_mem_set h
theorem depL_le {ds : List PyData} {n : Nat} (h : ∀ d ∈ ds, dep d ≤ n) : depL ds ≤ n := by
  induction ds with
  | nil => exact Nat.zero_le _
  | cons d ds ih =>
    have h1 := h d List.mem_cons_self
    have h2 := ih fun e m => h e (List.mem_cons_of_mem _ m)
    simp only [depL]; omega
theorem nodes_two : ∀ {L : List PyData} {i j : Nat} (hi : i < L.length) (hj : j < L.length), i ≠ j → nodes L[i] + nodes L[j] ≤ nodesL L
  | d :: L, 0, 0, _, _, h => absurd rfl h
  | d :: L, 0, j + 1, hi, hj, h => by
    have := nodes_of_mem (List.getElem_mem (l := L) (n := j) (by simpa using hj))
    simp only [List.getElem_cons_zero, List.getElem_cons_succ, nodesL]; omega
  | d :: L, i + 1, 0, hi, hj, h => by
    have := nodes_of_mem (List.getElem_mem (l := L) (n := i) (by simpa using hi))
    simp only [List.getElem_cons_zero, List.getElem_cons_succ, nodesL]; omega
  | d :: L, i + 1, j + 1, hi, hj, h => by
    have := nodes_two (L := L) (i := i) (j := j) (by simpa using hi) (by simpa using hj) (by omega)
    simp only [List.getElem_cons_succ, nodesL]; omega
/-- splitting a list at a place -/
theorem nodes_split {ds : List PyData} {k : Nat} (h : k < ds.length) : nodesL (ds.take k) + (nodes ds[k] + nodesL (ds.drop (k + 1))) = nodesL ds := by
  have e := nodesL_take_drop ds k
  rw [List.drop_eq_getElem_cons h] at e
  simpa only [nodesL] using e
theorem bent_splice {m : Nat} {L : List PyData} {j : Nat} (hj : j < L.length) {e : PyData} (he : BentOf m L[j] e) (hp : pls m L = true) : BentOf m (.tuple L) (.tuple (L.take j ++ [e] ++ L.drop (j + 1))) := by
  have h1 := nodes_split hj
  refine ⟨fun b hb => ?_, ?_, ?_, ?_⟩
  · simp only [tx] at hb ⊢
    refine txs_iff.mpr fun d hd => ?_
    rcases List.mem_append.mp hd with hd | hd
    · rcases List.mem_append.mp hd with hd | hd
      · exact tx_mono (Nat.le_succ b) _ (txs_iff.mp hb d (List.mem_of_mem_take hd))
      · rw [List.mem_singleton.mp hd]; exact he.tx b (txs_iff.mp hb _ (List.getElem_mem hj))
    · exact tx_mono (Nat.le_succ b) _ (txs_iff.mp hb d (List.mem_of_mem_drop hd))
  · simp only [pl]
    refine pls_iff.mpr fun d hd => ?_
    rcases List.mem_append.mp hd with hd | hd
    · rcases List.mem_append.mp hd with hd | hd
      · exact pl_mono (Nat.le_succ m) _ (pls_iff.mp hp d (List.mem_of_mem_take hd))
      · rw [List.mem_singleton.mp hd]; exact he.pl
    · exact pl_mono (Nat.le_succ m) _ (pls_iff.mp hp d (List.mem_of_mem_drop hd))
  · simp only [dep]
    refine Nat.succ_le_succ (depL_le fun d hd => ?_)
    rcases List.mem_append.mp hd with hd | hd
    · rcases List.mem_append.mp hd with hd | hd
      · have := dep_of_mem (List.mem_of_mem_take hd); omega
      · rw [List.mem_singleton.mp hd]
        have := he.dep
        have := dep_of_mem (List.getElem_mem hj); omega
    · have := dep_of_mem (List.mem_of_mem_drop hd); omega
  · have := he.nodes
    simp only [nodes, nodesL_append, nodesL]
    omega
theorem bent_sub {m : Nat} {L L' : List PyData} (h : ∀ d ∈ L', d ∈ L) (hn : nodesL L' ≤ 2 * nodesL L) (hp : pls m L = true) : BentOf m (.tuple L) (.tuple L') ∧ BentOf m (.tuple L) (.list L') := by
  have h1 : pls (m + 1) L' = true := pls_iff.mpr fun d hd => pl_mono (Nat.le_succ m) _ (pls_iff.mp hp d (h d hd))
  have h2 : depL L' ≤ depL L := depL_le fun d hd => dep_of_mem (h d hd)
  have h3 : ∀ b, txs b L = true → txs (b + 1) L' = true := fun b hb => txs_iff.mpr fun d hd => tx_mono (Nat.le_succ b) _ (txs_iff.mp hb d (h d hd))
  exact ⟨⟨fun b hb => by simp only [tx] at hb ⊢; exact h3 b hb, by simpa only [pl] using h1, by simp only [dep]; omega, by simp only [nodes]; omega⟩, ⟨fun b hb => by simp only [tx] at hb ⊢; exact h3 b hb, by simpa only [pl] using h1, by simp only [dep]; omega, by simp only [nodes]; omega⟩⟩
end Lq
namespace Lq
open PySem L2
/-! ### drawn terms as data -/
mutual
theorem tmD_isTm : ∀ t : Cf.Tm, isTm (tmD t) = true
  | .var n => rfl
  | .node w ps => by simp only [tmD, isTm]; exact tmsD_isTms ps
theorem tmsD_isTms : ∀ t : List Cf.Tm, isTms (tmsD t) = true
  | [] => rfl
  | t :: ts => by simp only [tmsD, isTms, tmD_isTm t, tmsD_isTms ts, Bool.and_self]
end
theorem tmsD_map : ∀ ts : List Cf.Tm, tmsD ts = ts.map tmD
  | [] => rfl
  | t :: ts => by simp only [tmsD, tmsD_map ts, List.map_cons]
structure TmBd (d : Nat) (x : PyData) : Prop where
  dep : dep x ≤ d
  nodes : nodes x + 2 ≤ 2 ^ (d + 1)
  pl : pl 12 x = true
theorem over_bd {cs : List (Str × Nat)} {ns : List Int} (ok : Cf.ConsOk cs) : ∀ (d : Nat) (t : Cf.Tm), Cf.TmOver cs ns d t → TmBd d (tmD t)
  | 0, _, h => by cases h
  | d + 1, .var n, _ => ⟨Nat.zero_le _, by simp only [tmD, nodes]; have := Nat.one_le_two_pow (n := d); rw [Nat.pow_succ, Nat.pow_succ]; omega, rfl⟩
  | d + 1, .node w ps, h => by
    obtain ⟨hm, hp⟩ := h
    have ha := ok.ar _ hm
    have hw := (ok.word _ hm).2.1
    simp only at ha hw
    have ih := fun p m => over_bd ok d p (hp p m)
    have hN : nodesL (tmsD ps) + 2 * ps.length ≤ ps.length * 2 ^ (d + 1) := by
      clear hm ha
      induction ps with
      | nil => simp [tmsD, nodesL]
      | cons p ps ih2 =>
        have a := (ih p List.mem_cons_self).nodes
        have b := ih2 (fun q m => hp q (List.mem_cons_of_mem _ m)) fun q m => ih q (List.mem_cons_of_mem _ m)
        simp only [tmsD, nodesL, List.length_cons, Nat.succ_mul]
        omega
    have hD : depL (tmsD ps) ≤ d := by
      rw [tmsD_map]
      refine depL_le fun x hx => ?_
      obtain ⟨p, m, rfl⟩ := List.mem_map.mp hx
      exact (ih p m).dep
    have hP : pls 12 (tmsD ps) = true := by
      rw [tmsD_map]
      refine pls_iff.mpr fun x hx => ?_
      obtain ⟨p, m, rfl⟩ := List.mem_map.mp hx
      exact (ih p m).pl
    refine ⟨by simp only [tmD, dep, depL]; omega, ?_, by simp [tmD, pl, pls, hP, hw]⟩
    simp only [tmD, nodes, nodesL]
    have e : 2 ^ (d + 1 + 1) = 2 * 2 ^ (d + 1) := by rw [Nat.pow_succ]; omega
    have one : 2 ≤ 2 ^ (d + 1) := by rw [Nat.pow_succ]; have := Nat.one_le_two_pow (n := d); omega
    rw [e]
    generalize 2 ^ (d + 1) = M at *
    have h3 : ps.length = 0 ∨ ps.length = 1 ∨ ps.length = 2 := by omega
    rcases h3 with h3 | h3 | h3 <;> rw [h3] at hN <;> omega
end Lq
namespace Lq
open PySem L2
local macro_rules | `(tactic| walk_at "wp") => `(tactic| (try simp only [runQ_e, runQP_e, endQ_rt_e, endQ_nx_e, sSeq_e, sNil_e, thenO_nx, thenO_rt, thenO_bk, thenO_ct, thenO_ex, bnd_e, ret_e, gd_e, bad_e, eVar_e, eOwn_e, slV_e, slO_e, eC_e, eOp_e, eTup_e, aNil_e, aCons_e, sSet_e, gN_e, gT_e, gsCons_e, gsNil_e, sRet_e, sIf_e, sExpr_e, tT_e, tTru_e, tNo_e, tBoth_e, tEither_e, eBoth_e, eEither_e, eNo_e, eIf_e, eCall_e, eFn_e, eFnP_e, slP_e, eSl_e, aPart_e, noPart_e, eIsi_e, isiD, eTy_e, tyQ_e, ty_n, ty_b, ty_i, ty_s, ty_l, ty_t, ty_d, eGet1_e, eGet2_e, eDget_e, eDin_e, sDnew_e, sPut_e, slD_e, sNew_e, lLst_e, slL_e, sApp_e, eL_e, sPop_e, sExt_e, sSetIx_e, lList_e, iSeq_e, iCall_e, eNeg_e, eChain_e, eBack_e, sFrz_e, frzR, frzS, sPutT_e, slDT_e, sDnewT_e, ite_ap, sFor_e, fLc_e, fDc_e, eD_e, tAll_e, asB_b, tru_n, tru_b, tru_i, tru_s, tru_l, tru_t, items_l, items_t, intOf_i, len_l, len_t, len_s, list_l, list_t, tuple_l, tuple_t, ix_t, ix_l, ix_s, atW_s, add_i, add_s, add_t, add_l, sub_i, mul_i, mod_i, fdiv_i, neg_i, pow_i, eRg1_e, rgW_e, Int.sub_zero, lt_i, le_i, gt_i, ge_i, lt_s, le_s, is_n, isNot_n, isN_n, isN_b, isN_i, isN_s, isN_l, isN_t, isN_d, eq_ii, eq_ss, eq_bb, eq_is, eq_si, eq_nn, eq_ni, eq_in, eq_ns, eq_sn, eq_tt, eq_ll, ne_ii, ne_ss, ne_bb, ne_is, ne_si, ne_nn, ne_ni, ne_in, ne_ns, ne_sn, ne_tt, ne_ll, sum_l, intsW_of, max_2, min_2, int_i, int_b, rng1_i, rng2_i, sl_t, sl_l, sl_s, back_t, back_l, back_0, keyP_i, keyP_s, keyW_i, keyW_s, kD_i, kD_s, List.map_cons, List.map_nil, List.length_cons, List.length_nil, List.cons_append, List.nil_append, List.replicate_succ, List.replicate_zero, List.getElem?_cons_zero, List.getElem?_cons_succ, List.set_cons_zero, List.set_cons_succ, List.reverse_cons, List.reverse_nil, Nat.zero_add, Nat.reduceSub, Nat.reduceAdd, reduceIte, if_true, if_false, Bool.not_true, Bool.not_false, Bool.true_eq_false, Bool.false_eq_true, ite_true, ite_false, String.reduceEq, ne_eq, not_false_eq_true, not_true_eq_false, reduceCtorEq, true_and, and_true, noOwn, isOwn, wipeR, List.all_cons, List.all_nil, Bool.and_self, at_zero, at_one, at_two, at_three, cut_1, cut_from, cut_from1, cut_upto, decide_true, decide_false, Int.toNat_natCast, upto_len, z_succ, z_succ_pos, z_pred, z_zero, z_zero_pos, List.drop_succ_cons, List.drop_zero, List.isEmpty_cons, List.isEmpty_nil, List.getLast?_concat, List.dropLast_concat, sz_0, sz_1, sz_2, sz_3, sz_4, sz_5, sz_6, sz_7, sz_8, sz_9, sz_10, sz_11, sz_12, sz_13, sz_14, sz_15, sz_16, sz_17, sz_18, sz_19, sz_20, kit_NoneType_bool, kit_NoneType_int, kit_NoneType_str, kit_NoneType_list, kit_NoneType_tuple, kit_bool_bool, kit_bool_int, kit_bool_str, kit_bool_list, kit_bool_tuple, kit_int_bool, kit_int_int, kit_int_str, kit_int_list, kit_int_tuple, kit_str_bool, kit_str_int, kit_str_str, kit_str_list, kit_str_tuple, kit_list_bool, kit_list_int, kit_list_str, kit_list_list, kit_list_tuple, kit_tuple_bool, kit_tuple_int, kit_tuple_str, kit_tuple_list, kit_tuple_tuple, sAugadd, sAugsub, sAug, eDisp_e, ppCons_e, ppNil_e, eListVals_e, lAdd_e, fLcD_e, lZip_e, zipT_e, dictW_e, enumWA_l, enumWA_t, eIsi2_e, runZ_e, ptrs_c, ptrs_n, endZ_rs, endZ_nx, one_gh, thenO_rs, eGh_e, slG_e, ghD_l, ghD_d, ghD_t, zPure_e, zNil_e, zCons_e, zOp_e, zTup_e, zCall_e, zT_e, zNo_e, sRetZ_e, sExprZ_e, sSetZ_e, sIfZ_e, zFn_e, getG1_e, slGh_e, putG1_e, regh_e, zPtrs1_e, eFnN_e, sGPut_e, sGApp_e, gLst_e, gDic_e, gDit_e, zSetd_e, zLc_e, plV_n, plV_c, isPl_u, isPl_v, rest_n, rest_c, eJoined_e, jNil_e, jStr_e, jVal_e, fmtW_i, fmtW_s, eJoin_e, strW_e, eIndex_e, isLst_e, Option.getD_some, slO_d, slO_t, iStr_e, signsW_e, zipWl_e, zipWt_e, enumWl_e, allQl_e, anyQl_e, inS1_e]))
/-! ### terms: occurrences, sizes, renaming, over the mirrors -/
mutual
theorem occD_tm : ∀ t : Cf.Tm, occD (tmD t) = t.occ.map .int
  | .var n => rfl
  | .node w ps => by simp only [tmD, occD, occL_tms ps]; rfl
theorem occL_tms : ∀ ts : List Cf.Tm, occL (tmsD ts) = (Cf.Tm.occs ts).map .int
  | [] => rfl
  | t :: ts => by
    simp only [tmsD, occL, occD_tm t, occL_tms ts]
    show _ = (t.occ ++ Cf.Tm.occs ts).map PyData.int
    rw [List.map_append]
end
mutual
theorem dep_tm : ∀ t : Cf.Tm, dep (tmD t) ≤ t.high
  | .var n => Nat.zero_le _
  | .node w ps => by
    have := depL_tms ps
    simp only [tmD, dep, depL]
    show _ ≤ 1 + Cf.Tm.highs ps
    omega
theorem depL_tms : ∀ ts : List Cf.Tm, depL (tmsD ts) ≤ Cf.Tm.highs ts
  | [] => Nat.zero_le _
  | t :: ts => by
    have a := dep_tm t
    have b := depL_tms ts
    simp only [tmsD, depL]
    show _ ≤ max t.high (Cf.Tm.highs ts)
    omega
end
mutual
theorem nodes_tm : ∀ t : Cf.Tm, nodes (tmD t) ≤ 2 * t.size
  | .var n => by simp only [tmD, nodes]; exact Nat.le_succ 1
  | .node w ps => by
    have := nodesL_tms ps
    simp only [tmD, nodes, nodesL]
    show _ ≤ 2 * (1 + Cf.Tm.sizes ps)
    omega
theorem nodesL_tms : ∀ ts : List Cf.Tm, nodesL (tmsD ts) ≤ 2 * Cf.Tm.sizes ts
  | [] => Nat.zero_le _
  | t :: ts => by
    have a := nodes_tm t
    have b := nodesL_tms ts
    simp only [tmsD, nodesL]
    show _ ≤ 2 * (t.size + Cf.Tm.sizes ts)
    omega
end
theorem m_isI_tm {t : Cf.Tm} {Q : PyData → Prop} (q : Q (.bool (match t with | .var _ => true | .node _ _ => false))) : M_l_is_integer [tmD t] Q := by
  unfold M_l_is_integer
  cases t with
  | var n => (simp only [b_l_is_integer, tmD]; walk_at "wp"; exact q)
  | node w ps => (simp only [b_l_is_integer, tmD]; walk_at "wp"; exact q)
theorem inF_ints (n : Int) (acc : List Int) : inF (.int n) (acc.map .int) = decide (n ∈ acc) := by
  unfold inF
  induction acc with
  | nil => rfl
  | cons m acc ih =>
    rw [List.map_cons, List.any_cons, ih]
    show ((m == n) || decide (n ∈ acc)) = decide (n ∈ m :: acc)
    by_cases e : n = m
    · subst e; simp
    · have e' : ¬ m = n := fun z => e z.symm
      simp [e, e']
theorem flat_ints (acc : List Int) : (acc.map PyData.int).all flatD = true := by simp [flatD]
theorem m_unlike {ns : List Int} {Q : PyData → Prop} (hl : ns.length ≤ 2 ^ 20) (q : Q (.list ((Cf.firsts ns).map .int))) : M_l_unlike [.list (ns.map .int)] Q := by
  unfold M_l_unlike
  simp only [b_l_unlike]
  walk_at "wp"
  generalize hd : PyData.list (ns.map PyData.int) = d0
  clear hd
  refine for_of PyData.int (st := fun a : List Int × Sl => [.val d0, .lst (a.1.map .int), a.2]) (I := fun i a => a.1 = Cf.firsts (ns.take i)) ?_ ?_ (a := ([], .un)) rfl
  · rintro i n ⟨acc, s⟩ hx hI R hR hrt hbk
    simp only at hI
    walk_at "wp"
    rw [in_l true (by simp [flatD])]
    walk_at "wp"
    rw [inF_ints]
    have ft := Cf.firsts_take hx
    have l1 := Cf.firsts_len (ns.take i)
    rw [← hI] at ft l1
    have l2 : (ns.take i).length ≤ ns.length := by rw [List.length_take]; omega
    unfold Cf.addNew at ft
    by_cases hm : n ∈ acc
    · rw [if_pos hm] at ft
      simp only [hm]
      walk_at "wp"
      exact (hR (acc, .val (.int n)) ft.symm).1
    · rw [if_neg hm] at ft
      simp only [hm]
      walk_at "wp"
      refine ⟨by simp only [List.length_map, sizeLine]; omega, ?_⟩
      have := (hR (acc ++ [n], .val (.int n)) ft.symm).1
      simpa using this
  · rintro ⟨acc, s⟩ hI
    simp only at hI
    rw [List.take_length] at hI
    subst hI
    walk_at "wp"
    exact q
theorem m_occT {t : Cf.Tm} {Q : PyData → Prop} (h : t.high < 12) (hs : t.size ≤ 2 ^ 19) (q : Q (.list (t.occ.map .int))) : M_l_occurrences [tmD t] Q := by
  unfold M_l_occurrences
  exact m_l_occ 12 _ _ (tmD_isTm t) (by have := dep_tm t; omega) (by have := nodes_tm t; omega) (by rw [occD_tm]; exact q)
theorem m_numbers2 {d0 : PyData} {ts : List Cf.Tm} {Q : PyData → Prop} (hd : d0 = .tuple (tmsD ts) ∨ d0 = .list (tmsD ts)) (h : ∀ t ∈ ts, t.high < 12) (hs : Cf.Tm.sizes ts ≤ 2 ^ 19) (q : Q (.list ((Cf.firsts (Cf.Tm.occs ts)).map .int))) : M_l_numbers [d0] Q := by
  unfold M_l_numbers
  simp only [b_l_numbers]
  rcases hd with rfl | rfl
  · walk_at "wp"
    generalize PyData.tuple (tmsD ts) = d0
    rw [tmsD_map]
    refine for_of tmD (st := fun a : List Int × Sl => [.val d0, .val (.list (a.1.map .int)), a.2]) (I := fun i a => a.1 = Cf.Tm.occs (ts.take i)) ?_ ?_ (a := ([], .un)) rfl
    · rintro i t ⟨acc, s⟩ hx hI R hR hrt hbk
      simp only at hI
      have hm := List.mem_of_getElem? hx
      have hz := Cf.Tm.size_mem hm
      walk_at "wp"
      refine up_of (m_occT (h t hm) (by omega) ?_)
      walk_at "wp"
      have e := Cf.Tm.occs_take hx
      rw [← hI] at e
      have l1 := Cf.Tm.occs_len (ts.take (i + 1))
      have l2 : Cf.Tm.sizes (ts.take (i + 1)) + Cf.Tm.sizes (ts.drop (i + 1)) = Cf.Tm.sizes ts := by rw [← Cf.Tm.sizes_append, List.take_append_drop]
      rw [e, List.length_append] at l1
      refine ⟨by simp only [List.length_map, sizeLine]; omega, ?_⟩
      have := (hR (acc ++ t.occ, .val (tmD t)) e.symm).1
      simpa using this
    · rintro ⟨acc, s⟩ hI
      simp only at hI
      rw [List.take_length] at hI
      subst hI
      walk_at "wp"
      exact up_of (m_unlike (by have := Cf.Tm.occs_len ts; omega) q)
  · walk_at "wp"
    generalize PyData.list (tmsD ts) = d0
    rw [tmsD_map]
    refine for_of tmD (st := fun a : List Int × Sl => [.val d0, .val (.list (a.1.map .int)), a.2]) (I := fun i a => a.1 = Cf.Tm.occs (ts.take i)) ?_ ?_ (a := ([], .un)) rfl
    · rintro i t ⟨acc, s⟩ hx hI R hR hrt hbk
      simp only at hI
      have hm := List.mem_of_getElem? hx
      have hz := Cf.Tm.size_mem hm
      walk_at "wp"
      refine up_of (m_occT (h t hm) (by omega) ?_)
      walk_at "wp"
      have e := Cf.Tm.occs_take hx
      rw [← hI] at e
      have l1 := Cf.Tm.occs_len (ts.take (i + 1))
      have l2 : Cf.Tm.sizes (ts.take (i + 1)) + Cf.Tm.sizes (ts.drop (i + 1)) = Cf.Tm.sizes ts := by rw [← Cf.Tm.sizes_append, List.take_append_drop]
      rw [e, List.length_append] at l1
      refine ⟨by simp only [List.length_map, sizeLine]; omega, ?_⟩
      have := (hR (acc ++ t.occ, .val (tmD t)) e.symm).1
      simpa using this
    · rintro ⟨acc, s⟩ hI
      simp only at hI
      rw [List.take_length] at hI
      subst hI
      walk_at "wp"
      exact up_of (m_unlike (by have := Cf.Tm.occs_len ts; omega) q)
theorem m_numbers {ts : List Cf.Tm} {Q : PyData → Prop} (h : ∀ t ∈ ts, t.high < 12) (hs : Cf.Tm.sizes ts ≤ 2 ^ 19) (q : Q (.list ((Cf.firsts (Cf.Tm.occs ts)).map .int))) : M_l_numbers [.tuple (tmsD ts)] Q := m_numbers2 (.inl rfl) h hs q
mutual
/-- a term with data in the place of its variables -/
def rplD (f : Int → PyData) : Cf.Tm → PyData
  | .var n => f n
  | .node w ps => .tuple (.str w :: rplsD f ps)
def rplsD (f : Int → PyData) : List Cf.Tm → List PyData
  | [] => []
  | t :: ts => rplD f t :: rplsD f ts
end
theorem rplsD_map (f : Int → PyData) : ∀ ts : List Cf.Tm, rplsD f ts = ts.map (rplD f)
  | [] => rfl
  | t :: ts => by simp only [rplsD, rplsD_map f ts, List.map_cons]
mutual
theorem rplD_sub (g : Int → Cf.Tm) : ∀ t : Cf.Tm, rplD (fun n => tmD (g n)) t = tmD (t.sub g)
  | .var n => rfl
  | .node w ps => by simp only [rplD, rplsD_sub g ps]; rfl
theorem rplsD_sub (g : Int → Cf.Tm) : ∀ ts : List Cf.Tm, rplsD (fun n => tmD (g n)) ts = tmsD (Cf.Tm.subs g ts)
  | [] => rfl
  | t :: ts => by simp only [rplsD, rplD_sub g t, rplsD_sub g ts]; rfl
end
/-- what a dict holds at a number, else the number -/
def atD (es : List (PyData × PyData)) (i : Int) : PyData := (lookP es (.int i)).getD (.int i)
theorem filterMap_some {α β : Type} (g : α → β) (xs : List α) : xs.filterMap (fun x => some (g x)) = xs.map g := filterMap_all _ g (fun _ => rfl) xs
theorem m_repl {es : List (PyData × PyData)} (hm : marked es = false) : ∀ (n : Nat) (t : Cf.Tm) (Q : PyData → Prop), t.high ≤ n → t.size ≤ 2 ^ 19 → Q (rplD (atD es) t) → m_l_replace M_l_is_integer n [tmD t, .dict es] Q
  | 0, t, _, h, _, _ => by have := t.high_pos; omega
  | n + 1, t, Q, h, hs, q => by
    show runQ 3 (b_l_replace M_l_is_integer (m_l_replace M_l_is_integer n)) [tmD t, .dict es] Q
    simp only [b_l_replace]
    cases t with
    | var i =>
      walk_at "wp"
      refine up_of (m_isI_tm ?_)
      walk_at "wp"
      simp only [tmD, dget_i hm, ret]
      simp only [rplD, atD] at q
      cases hl : lookP es (.int i) with
      | none => rw [hl] at q; walk_at "wp"; simp only [Option.isSome_none, Bool.false_eq_true, if_false]; walk_at "wp"; exact q
      | some v => rw [hl] at q; walk_at "wp"; simp only [Option.isSome_some, if_true]; walk_at "wp"; exact q
    | node w ps =>
      have hs1 : 1 + Cf.Tm.sizes ps ≤ 2 ^ 19 := hs
      have hh : 1 + Cf.Tm.highs ps ≤ n + 1 := h
      have hl := Cf.Tm.sizes_len ps
      walk_at "wp"
      refine up_of (m_isI_tm ?_)
      walk_at "wp"
      simp only [tmD]
      walk_at "wp"
      rw [tmsD_map]
      refine ⟨by simp only [List.length_map, sizeLine]; omega, ?_⟩
      refine lc_of tmD (fun p => some (rplD (atD es) p)) (fun p m R r => ?_) ?_
      · walk_at "wp"
        exact up_of (m_repl hm n p _ (by have := Cf.Tm.high_mem m; omega) (by have := Cf.Tm.size_mem m; omega) r)
      · rw [filterMap_some]
        simp only [rplD, rplsD_map] at q
        refine ⟨by simp only [List.length_map, sizeLine]; omega, ?_⟩
        exact q
end Lq
namespace Lq
open PySem L2
local macro_rules | `(tactic| walk_at "wp") => `(tactic| (try simp only [runQ_e, runQP_e, endQ_rt_e, endQ_nx_e, sSeq_e, sNil_e, thenO_nx, thenO_rt, thenO_bk, thenO_ct, thenO_ex, bnd_e, ret_e, gd_e, bad_e, eVar_e, eOwn_e, slV_e, slO_e, eC_e, eOp_e, eTup_e, aNil_e, aCons_e, sSet_e, gN_e, gT_e, gsCons_e, gsNil_e, sRet_e, sIf_e, sExpr_e, tT_e, tTru_e, tNo_e, tBoth_e, tEither_e, eBoth_e, eEither_e, eNo_e, eIf_e, eCall_e, eFn_e, eFnP_e, slP_e, eSl_e, aPart_e, noPart_e, eIsi_e, isiD, eTy_e, tyQ_e, ty_n, ty_b, ty_i, ty_s, ty_l, ty_t, ty_d, eGet1_e, eGet2_e, eDget_e, eDin_e, sDnew_e, sPut_e, slD_e, sNew_e, lLst_e, slL_e, sApp_e, eL_e, sPop_e, sExt_e, sSetIx_e, lList_e, iSeq_e, iCall_e, eNeg_e, eChain_e, eBack_e, sFrz_e, frzR, frzS, sPutT_e, slDT_e, sDnewT_e, ite_ap, sFor_e, fLc_e, fDc_e, eD_e, tAll_e, asB_b, tru_n, tru_b, tru_i, tru_s, tru_l, tru_t, items_l, items_t, intOf_i, len_l, len_t, len_s, list_l, list_t, tuple_l, tuple_t, ix_t, ix_l, ix_s, atW_s, add_i, add_s, add_t, add_l, sub_i, mul_i, mod_i, fdiv_i, neg_i, pow_i, eRg1_e, rgW_e, Int.sub_zero, lt_i, le_i, gt_i, ge_i, lt_s, le_s, is_n, isNot_n, isN_n, isN_b, isN_i, isN_s, isN_l, isN_t, isN_d, eq_ii, eq_ss, eq_bb, eq_is, eq_si, eq_nn, eq_ni, eq_in, eq_ns, eq_sn, eq_tt, eq_ll, ne_ii, ne_ss, ne_bb, ne_is, ne_si, ne_nn, ne_ni, ne_in, ne_ns, ne_sn, ne_tt, ne_ll, sum_l, intsW_of, max_2, min_2, int_i, int_b, rng1_i, rng2_i, sl_t, sl_l, sl_s, back_t, back_l, back_0, keyP_i, keyP_s, keyW_i, keyW_s, kD_i, kD_s, List.map_cons, List.map_nil, List.length_cons, List.length_nil, List.cons_append, List.nil_append, List.replicate_succ, List.replicate_zero, List.getElem?_cons_zero, List.getElem?_cons_succ, List.set_cons_zero, List.set_cons_succ, List.reverse_cons, List.reverse_nil, Nat.zero_add, Nat.reduceSub, Nat.reduceAdd, reduceIte, if_true, if_false, Bool.not_true, Bool.not_false, Bool.true_eq_false, Bool.false_eq_true, ite_true, ite_false, String.reduceEq, ne_eq, not_false_eq_true, not_true_eq_false, reduceCtorEq, true_and, and_true, noOwn, isOwn, wipeR, List.all_cons, List.all_nil, Bool.and_self, at_zero, at_one, at_two, at_three, cut_1, cut_from, cut_from1, cut_upto, decide_true, decide_false, Int.toNat_natCast, upto_len, z_succ, z_succ_pos, z_pred, z_zero, z_zero_pos, List.drop_succ_cons, List.drop_zero, List.isEmpty_cons, List.isEmpty_nil, List.getLast?_concat, List.dropLast_concat, sz_0, sz_1, sz_2, sz_3, sz_4, sz_5, sz_6, sz_7, sz_8, sz_9, sz_10, sz_11, sz_12, sz_13, sz_14, sz_15, sz_16, sz_17, sz_18, sz_19, sz_20, kit_NoneType_bool, kit_NoneType_int, kit_NoneType_str, kit_NoneType_list, kit_NoneType_tuple, kit_bool_bool, kit_bool_int, kit_bool_str, kit_bool_list, kit_bool_tuple, kit_int_bool, kit_int_int, kit_int_str, kit_int_list, kit_int_tuple, kit_str_bool, kit_str_int, kit_str_str, kit_str_list, kit_str_tuple, kit_list_bool, kit_list_int, kit_list_str, kit_list_list, kit_list_tuple, kit_tuple_bool, kit_tuple_int, kit_tuple_str, kit_tuple_list, kit_tuple_tuple, sAugadd, sAugsub, sAug, eDisp_e, ppCons_e, ppNil_e, eListVals_e, lAdd_e, fLcD_e, lZip_e, zipT_e, dictW_e, enumWA_l, enumWA_t, eIsi2_e, runZ_e, ptrs_c, ptrs_n, endZ_rs, endZ_nx, one_gh, thenO_rs, eGh_e, slG_e, ghD_l, ghD_d, ghD_t, zPure_e, zNil_e, zCons_e, zOp_e, zTup_e, zCall_e, zT_e, zNo_e, sRetZ_e, sExprZ_e, sSetZ_e, sIfZ_e, zFn_e, getG1_e, slGh_e, putG1_e, regh_e, zPtrs1_e, eFnN_e, sGPut_e, sGApp_e, gLst_e, gDic_e, gDit_e, zSetd_e, zLc_e, plV_n, plV_c, isPl_u, isPl_v, rest_n, rest_c, eJoined_e, jNil_e, jStr_e, jVal_e, fmtW_i, fmtW_s, eJoin_e, strW_e, eIndex_e, isLst_e, Option.getD_some, slO_d, slO_t, iStr_e, signsW_e, zipWl_e, zipWt_e, enumWl_e, allQl_e, anyQl_e, inS1_e]))
/-! ### tuples of terms renamed -/
def numD (k : Nat) : List Int → List (PyData × PyData)
  | [] => []
  | n :: ns => (.int n, .int (k : Int)) :: numD (k + 1) ns
theorem numD_snoc : ∀ (xs : List Int) (k : Nat) (n : Int), numD k (xs ++ [n]) = numD k xs ++ [(.int n, .int ((k + xs.length : Nat) : Int))]
  | [], k, n => rfl
  | x :: xs, k, n => by
    show (.int x, .int (k : Int)) :: numD (k + 1) (xs ++ [n]) = _
    rw [numD_snoc xs (k + 1) n, List.length_cons]
    have e : k + 1 + xs.length = k + (xs.length + 1) := by omega
    rw [e]; rfl
theorem numD_len : ∀ (xs : List Int) (k : Nat), (numD k xs).length = xs.length
  | [], _ => rfl
  | x :: xs, k => congrArg (· + 1) (numD_len xs (k + 1))
theorem numD_any : ∀ (xs : List Int) (k : Nat) (n : Int), ((numD k xs).any fun e => keqb e.1 (.int n)) = decide (n ∈ xs)
  | [], _, _ => rfl
  | x :: xs, k, n => by
    show (decide (x = n) || (numD (k + 1) xs).any _) = _
    rw [numD_any xs]
    by_cases e : n = x
    · subst e; simp
    · have e' : ¬ x = n := fun z => e z.symm
      simp [e, e']
theorem numD_marked (xs : List Int) (k : Nat) : marked (numD k xs) = false := by cases xs <;> rfl
theorem at_numD : ∀ (xs : List Int) (k : Nat) (n : Int), atD (numD k xs) n = .int (Cf.posFrom k xs n)
  | [], _, _ => rfl
  | x :: xs, k, n => by
    have ih := at_numD xs (k + 1) n
    unfold atD lookP at *
    show (((numD k (x :: xs)).find? fun e => keqb e.1 (.int n)).map (·.2)).getD (.int n) = .int (if n = x then (k : Int) else Cf.posFrom (k + 1) xs n)
    rw [show numD k (x :: xs) = (.int x, .int (k : Int)) :: numD (k + 1) xs from rfl, List.find?_cons]
    show ((match decide (x = n) with | true => some _ | false => _ : Option (PyData × PyData)).map (·.2)).getD (.int n) = _
    by_cases e : n = x
    · subst e
      rw [decide_eq_true rfl, if_pos rfl]; rfl
    · rw [decide_eq_false fun z => e z.symm, if_neg e]
      exact ih
theorem m_renum {ts : List Cf.Tm} {Q : PyData → Prop} (h : ∀ t ∈ ts, t.high < 12) (hs : Cf.Tm.sizes ts ≤ 2 ^ 18) (q : Q (.tuple (tmsD (Cf.tidy ts)))) : M_l_renumbered [.tuple (tmsD ts)] Q := by
  unfold M_l_renumbered
  simp only [b_l_renumbered]
  walk_at "wp"
  refine up_of (m_numbers h (by omega) ?_)
  walk_at "wp"
  have l1 := Cf.firsts_len (Cf.Tm.occs ts)
  have l2 := Cf.Tm.occs_len ts
  have l3 := Cf.Tm.sizes_len ts
  have nd := Cf.firsts_nd (Cf.Tm.occs ts)
  have hq : tmsD (Cf.tidy ts) = ts.map (rplD (atD (numD 0 (Cf.firsts (Cf.Tm.occs ts))))) := by
    rw [tmsD_map]
    unfold Cf.tidy Cf.ren
    rw [List.map_map]
    refine List.map_congr_left fun t _ => ?_
    show tmD (t.sub _) = _
    rw [← rplD_sub]
    congr 1
    funext n
    rw [at_numD]; rfl
  rw [hq] at q
  clear hq
  generalize hns : Cf.firsts (Cf.Tm.occs ts) = ns at *
  generalize hd : PyData.tuple (tmsD ts) = d0
  refine ⟨by simp only [List.length_map]; omega, ?_⟩
  rw [List.length_map]
  refine for_up (st := fun a : List (PyData × PyData) × Sl => [.val d0, .val (.list (ns.map .int)), .dic a.1, a.2, .un]) (I := fun i a => a.1 = numD 0 (ns.take i)) ?_ ?_ (a := ([], .un)) rfl
  · rintro i ⟨es, s⟩ hi hI R hR hrt hbk
    simp only at hI
    subst hI
    have hx := List.getElem?_eq_getElem hi
    walk_at "wp"
    simp only [at_nat, List.getElem?_map, hx, Option.map_some]
    walk_at "wp"
    have hn : ns[i] ∉ ns.take i := by
      intro m
      have := (List.nodup_iff_pairwise_ne.mp nd)
      obtain ⟨j, hj, e⟩ := List.getElem_of_mem m
      rw [List.length_take] at hj
      rw [List.getElem_take] at e
      exact (List.pairwise_iff_getElem.mp this j i (by omega) hi (by omega)) e
    have e1 : putP (numD 0 (ns.take i)) (.int ns[i]) (.int (i : Int)) = numD 0 (ns.take (i + 1)) := by
      unfold putP
      rw [numD_any, decide_eq_false hn, if_neg Bool.false_ne_true, take_next hx, numD_snoc, List.length_take]
      have : 0 + min i ns.length = i := by omega
      rw [this]
    rw [e1]
    exact ⟨by rw [numD_len, List.length_take]; simp only [sizeLine]; omega, (hR (numD 0 (ns.take (i + 1)), .val (.int i)) rfl).1⟩
  · rintro ⟨es, s⟩ hI
    simp only at hI
    rw [List.take_length] at hI
    subst hI
    walk_at "wp"
    rw [← hd]
    walk_at "wp"
    rw [tmsD_map]
    refine ⟨by rw [List.length_map]; simp only [sizeLine]; omega, ?_⟩
    refine lc_of tmD (fun t => some (rplD (atD (numD 0 ns)) t)) (fun t m R r => ?_) (by rw [filterMap_some]; exact q)
    walk_at "wp"
    unfold M_l_replace
    exact up_of (m_repl (numD_marked ns 0) 12 t _ (by have := h t m; omega) (by have := Cf.Tm.size_mem m; omega) r)
end Lq
namespace Lq
open PySem L2
/-! ### bounds of drawn terms, cuts (also in m_mak, m_tpl) -/
theorem over_high {cs : List (Str × Nat)} {ns : List Int} (ok : Cf.ConsOk cs) : ∀ (d : Nat) (t : Cf.Tm), Cf.TmOver cs ns d t → t.high ≤ d
  | 0, _, h => h.elim
  | d + 1, .var n, _ => by show 1 ≤ d + 1; omega
  | d + 1, .node w ps, h => by
    have : ∀ qs : List Cf.Tm, (∀ q ∈ qs, q.high ≤ d) → Cf.Tm.highs qs ≤ d := by
      intro qs
      induction qs with
      | nil => intro _; exact Nat.zero_le _
      | cons q qs ih =>
        intro h
        have a := h q List.mem_cons_self
        have b := ih fun x m => h x (List.mem_cons_of_mem _ m)
        show max q.high (Cf.Tm.highs qs) ≤ d
        omega
    have := this ps fun q m => over_high ok d q (h.2 q m)
    show 1 + Cf.Tm.highs ps ≤ d + 1
    omega
theorem over_size {cs : List (Str × Nat)} {ns : List Int} (ok : Cf.ConsOk cs) : ∀ (d : Nat) (t : Cf.Tm), Cf.TmOver cs ns d t → t.size + 1 ≤ 2 ^ d
  | 0, _, h => h.elim
  | d + 1, .var n, _ => by show 1 + 1 ≤ 2 ^ (d + 1); rw [Nat.pow_succ]; have := Nat.one_le_two_pow (n := d); omega
  | d + 1, .node w ps, h => by
    have ha := ok.ar _ h.1
    simp only at ha
    have ih := fun q m => over_size ok d q (h.2 q m)
    have : ∀ qs : List Cf.Tm, (∀ q ∈ qs, q.size + 1 ≤ 2 ^ d) → Cf.Tm.sizes qs + qs.length ≤ qs.length * 2 ^ d := by
      intro qs
      induction qs with
      | nil => intro _; simp [Cf.Tm.sizes]
      | cons q qs ih =>
        intro h
        have a := h q List.mem_cons_self
        have b := ih fun x m => h x (List.mem_cons_of_mem _ m)
        show q.size + Cf.Tm.sizes qs + (qs.length + 1) ≤ (qs.length + 1) * 2 ^ d
        rw [Nat.succ_mul]
        omega
    have h3 := this ps ih
    show 1 + Cf.Tm.sizes ps + 1 ≤ 2 ^ (d + 1)
    have e : 2 ^ (d + 1) = 2 * 2 ^ d := by rw [Nat.pow_succ]; omega
    rw [e]
    have one := Nat.one_le_two_pow (n := d)
    generalize 2 ^ d = M at *
    have h4 : ps.length = 0 ∨ ps.length = 1 ∨ ps.length = 2 := by omega
    rcases h4 with h4 | h4 | h4 <;> rw [h4] at h3 <;> omega
theorem at_succ {α : Type} (x : α) (xs : List α) (k : Nat) : atI (x :: xs) ((k : Int) + 1) = atI xs (k : Int) := by
  rw [at_nat, show (k : Int) + 1 = ((k + 1 : Nat) : Int) by omega, at_nat]; rfl
theorem paired_at {α β : Type} {G : α → β → Prop} : ∀ {xs : List α} {ys : List β} {i : Nat} {x : α} {y : β}, Paired G xs ys → xs[i]? = some x → ys[i]? = some y → G x y
  | _, _, _, _, _, .nil, h, _ => by simp at h
  | _, _, 0, _, _, .cons h _, a, b => by simp at a b; subst a; subst b; exact h
  | _, _, i + 1, x, y, .cons _ t, a, b => paired_at (i := i) t (by simpa using a) (by simpa using b)
/-! ### cuts -/
theorem seq_cut {f k : Rho → Wp Out} {ρ : Rho} {Q : Out → Prop} (J : Rho → Prop) (hk : ∀ ρ', J ρ' → k ρ' Q) (hf : ∀ R : Out → Prop, (∀ ρ', J ρ' → R (.nx ρ')) → f ρ R) : sSeq f k ρ Q := hf _ fun ρ' h => hk ρ' h
theorem paired_of {α β : Type} {G : α → β → Prop} {e : β → PyData} : ∀ {xs : List α} {ys : List PyData}, Paired (fun a y => ∃ b, G a b ∧ y = e b) xs ys → ∃ bs, Paired G xs bs ∧ ys = bs.map e
  | _, _, .nil => ⟨[], .nil, rfl⟩
  | _, _, .cons ⟨b, h, e1⟩ t => by
    obtain ⟨bs, h2, e2⟩ := paired_of t
    exact ⟨b :: bs, .cons h h2, by rw [e1, e2]; rfl⟩
theorem paired_all {α β : Type} {G : α → β → Prop} {P : β → Prop} (h : ∀ a b, G a b → P b) : ∀ {xs : List α} {ys : List β}, Paired G xs ys → ∀ y ∈ ys, P y
  | _, _, .nil, y, m => by cases m
  | _, _, .cons h1 t, y, m => by
    rcases List.mem_cons.mp m with rfl | m
    · exact h _ _ h1
    · exact paired_all h t y m
theorem lc_upto {k : PyData → Rho → Wp Rho} {t : Rho → Wp Bool} {f : Rho → Wp PyData} {ρ : Rho} {n : Nat} {Q : List PyData → Prop} {β : Type} (e : β → PyData) (G : Nat → β → Prop) (h : ∀ i, i < n → ∀ R : Option PyData → Prop, (∀ b, G i b → R (some (e b))) → k (.int (i : Int)) ρ fun ρ1 => t ρ1 fun b => if b = true then f ρ1 fun y => R (some y) else R none)
    (q : ∀ bs : List β, bs.length = n → (∀ b ∈ bs, ∃ i, G i b) → Paired G (List.range n) bs → Q (bs.map e)) : wLc k t f (upto 0 n) ρ Q := by
  rw [upto_zero]
  refine lc_anyOf (fun (i : Nat) => PyData.int (i : Int)) (fun i y => ∃ b, G i b ∧ y = e b) (fun i m R r => h i (List.mem_range.mp m) R fun b g => r _ ⟨b, g, rfl⟩) fun ys hp => ?_
  obtain ⟨bs, h2, rfl⟩ := paired_of hp
  exact q bs (by rw [← Paired.length h2, List.length_range]) (paired_all (fun a b g => ⟨a, g⟩) h2) h2
theorem lc_list {k : PyData → Rho → Wp Rho} {t : Rho → Wp Bool} {f : Rho → Wp PyData} {ρ : Rho} {α β : Type} {xs : List α} {Q : List PyData → Prop} (d : α → PyData) (e : β → PyData) (G : α → β → Prop) (h : ∀ a, a ∈ xs → ∀ R : Option PyData → Prop, (∀ b, G a b → R (some (e b))) → k (d a) ρ fun ρ1 => t ρ1 fun b => if b = true then f ρ1 fun y => R (some y) else R none)
    (q : ∀ bs : List β, bs.length = xs.length → Paired G xs bs → Q (bs.map e)) : wLc k t f (xs.map d) ρ Q := by
  refine lc_anyOf d (fun a y => ∃ b, G a b ∧ y = e b) (fun a m R r => h a m R fun b g => r _ ⟨b, g, rfl⟩) fun ys hp => ?_
  obtain ⟨bs, h2, rfl⟩ := paired_of hp
  exact q bs (Paired.length h2).symm h2
theorem seq_cut2 {f k : Rho → Wp Out} {ρ : Rho} {Q : Out → Prop} (J : Rho → Prop) (hk : ∀ ρ', J ρ' → k ρ' Q) (hf : ∀ R : Out → Prop, (∀ ρ', J ρ' → R (.nx ρ')) → (∀ d, Q (.rt d) → R (.rt d)) → f ρ R) : sSeq f k ρ Q := hf _ (fun ρ' h => hk ρ' h) fun _ q => q
end Lq
namespace Lq
open PySem L2
open Cf (Tm)
/-! ### what two terms have in common -/
mutual
/-- where two terms part, from the left -/
def prs : Tm → Tm → List (Tm × Tm)
  | .var n, q => [(.var n, q)]
  | .node w ps, .var m => [(.node w ps, .var m)]
  | .node w ps, .node v qs => if w = v ∧ ps.length = qs.length then prss ps qs else [(.node w ps, .node v qs)]
def prss : List Tm → List Tm → List (Tm × Tm)
  | p :: ps, q :: qs => prs p q ++ prss ps qs
  | [], _ => []
  | _ :: _, [] => []
end
mutual
def phi (ix : Tm × Tm → Int) : Tm → Tm → Tm
  | .var n, q => .var (ix (.var n, q))
  | .node w ps, .var m => .var (ix (.node w ps, .var m))
  | .node w ps, .node v qs => if w = v ∧ ps.length = qs.length then .node w (phis ix ps qs) else .var (ix (.node w ps, .node v qs))
def phis (ix : Tm × Tm → Int) : List Tm → List Tm → List Tm
  | p :: ps, q :: qs => phi ix p q :: phis ix ps qs
  | [], _ => []
  | _ :: _, [] => []
end
mutual
theorem phi_congr {ix iy : Tm × Tm → Int} : ∀ p q : Tm, (∀ x ∈ prs p q, ix x = iy x) → phi ix p q = phi iy p q
  | .var n, q, h => by simp only [phi]; rw [h _ (List.mem_singleton.mpr rfl)]
  | .node w ps, .var m, h => by simp only [phi]; rw [h _ (List.mem_singleton.mpr rfl)]
  | .node w ps, .node v qs, h => by
    simp only [phi]
    simp only [prs] at h
    split
    · rename_i e
      rw [if_pos e] at h
      rw [phis_congr ps qs h]
    · rename_i e
      rw [if_neg e] at h
      rw [h _ (List.mem_singleton.mpr rfl)]
theorem phis_congr {ix iy : Tm × Tm → Int} : ∀ ps qs : List Tm, (∀ x ∈ prss ps qs, ix x = iy x) → phis ix ps qs = phis iy ps qs
  | [], _, _ => rfl
  | _ :: _, [], _ => rfl
  | p :: ps, q :: qs, h => by
    simp only [phis]
    rw [phi_congr p q fun x m => h x (List.mem_append_left _ m), phis_congr ps qs fun x m => h x (List.mem_append_right _ m)]
end
mutual
theorem phi_fst {ix : Tm × Tm → Int} {h : Int → Tm} : ∀ p q : Tm, (∀ x ∈ prs p q, h (ix x) = x.1) → (phi ix p q).sub h = p
  | .var n, q, k => by simp only [phi]; exact k _ (List.mem_singleton.mpr rfl)
  | .node w ps, .var m, k => by simp only [phi]; exact k _ (List.mem_singleton.mpr rfl)
  | .node w ps, .node v qs, k => by
    simp only [phi]
    simp only [prs] at k
    split
    · rename_i e
      rw [if_pos e] at k
      show Tm.node w (Tm.subs h (phis ix ps qs)) = _
      rw [phis_fst ps qs e.2 k]
    · rename_i e
      rw [if_neg e] at k
      exact k _ (List.mem_singleton.mpr rfl)
theorem phis_fst {ix : Tm × Tm → Int} {h : Int → Tm} : ∀ ps qs : List Tm, ps.length = qs.length → (∀ x ∈ prss ps qs, h (ix x) = x.1) → Tm.subs h (phis ix ps qs) = ps
  | [], _, _, _ => rfl
  | _ :: _, [], e, _ => by cases e
  | p :: ps, q :: qs, e, k => by
    show (phi ix p q).sub h :: Tm.subs h (phis ix ps qs) = _
    rw [phi_fst p q fun x m => k x (List.mem_append_left _ m), phis_fst ps qs (Nat.succ.inj e) fun x m => k x (List.mem_append_right _ m)]
end
mutual
theorem phi_snd {ix : Tm × Tm → Int} {h : Int → Tm} : ∀ p q : Tm, (∀ x ∈ prs p q, h (ix x) = x.2) → (phi ix p q).sub h = q
  | .var n, q, k => by simp only [phi]; exact k _ (List.mem_singleton.mpr rfl)
  | .node w ps, .var m, k => by simp only [phi]; exact k _ (List.mem_singleton.mpr rfl)
  | .node w ps, .node v qs, k => by
    simp only [phi]
    simp only [prs] at k
    split
    · rename_i e
      rw [if_pos e] at k
      show Tm.node w (Tm.subs h (phis ix ps qs)) = _
      rw [phis_snd ps qs e.2 k, e.1]
    · rename_i e
      rw [if_neg e] at k
      exact k _ (List.mem_singleton.mpr rfl)
theorem phis_snd {ix : Tm × Tm → Int} {h : Int → Tm} : ∀ ps qs : List Tm, ps.length = qs.length → (∀ x ∈ prss ps qs, h (ix x) = x.2) → Tm.subs h (phis ix ps qs) = qs
  | [], [], _, _ => rfl
  | [], _ :: _, e, _ => by cases e
  | _ :: _, [], e, _ => by cases e
  | p :: ps, q :: qs, e, k => by
    show (phi ix p q).sub h :: Tm.subs h (phis ix ps qs) = _
    rw [phi_snd p q fun x m => k x (List.mem_append_left _ m), phis_snd ps qs (Nat.succ.inj e) fun x m => k x (List.mem_append_right _ m)]
end
mutual
theorem phi_gen {ix : Tm × Tm → Int} {f g : Int → Tm} : ∀ o : Tm, phi ix (o.sub f) (o.sub g) = o.sub fun n => phi ix (f n) (g n)
  | .var n => rfl
  | .node w ps => by
    show phi ix (.node w (Tm.subs f ps)) (.node w (Tm.subs g ps)) = .node w _
    simp only [phi]
    rw [if_pos (by rw [Tm.subs_map, Tm.subs_map, List.length_map, List.length_map]; first | exact ⟨trivial, rfl⟩ | exact ⟨rfl, rfl⟩), phis_gen ps]
theorem phis_gen {ix : Tm × Tm → Int} {f g : Int → Tm} : ∀ ps : List Tm, phis ix (Tm.subs f ps) (Tm.subs g ps) = Tm.subs (fun n => phi ix (f n) (g n)) ps
  | [] => rfl
  | p :: ps => by
    show phi ix (p.sub f) (p.sub g) :: phis ix (Tm.subs f ps) (Tm.subs g ps) = _
    rw [phi_gen p, phis_gen ps]
    rfl
end
mutual
theorem phi_occ {ix : Tm × Tm → Int} : ∀ p q : Tm, (phi ix p q).occ = (prs p q).map ix
  | .var n, q => by simp only [phi, prs]; rfl
  | .node w ps, .var m => by simp only [phi, prs]; rfl
  | .node w ps, .node v qs => by
    simp only [phi, prs]
    split
    · show Tm.occs (phis ix ps qs) = _
      exact phis_occ ps qs
    · rfl
theorem phis_occ {ix : Tm × Tm → Int} : ∀ ps qs : List Tm, Tm.occs (phis ix ps qs) = (prss ps qs).map ix
  | [], _ => by simp only [phis, prss]; rfl
  | _ :: _, [] => by simp only [phis, prss]; rfl
  | p :: ps, q :: qs => by
    simp only [phis, prss, List.map_append]
    show (phi ix p q).occ ++ Tm.occs (phis ix ps qs) = _
    rw [phi_occ p q, phis_occ ps qs]
end
theorem prss_zip : ∀ ps qs : List Tm, prss ps qs = (List.zipWith prs ps qs).flatten
  | [], _ => by simp [prss]
  | _ :: _, [] => by simp [prss]
  | p :: ps, q :: qs => by simp [prss, prss_zip ps qs]
theorem phis_zip (ix : Tm × Tm → Int) : ∀ ps qs : List Tm, phis ix ps qs = List.zipWith (phi ix) ps qs
  | [], _ => by simp [phis]
  | _ :: _, [] => by simp [phis]
  | p :: ps, q :: qs => by simp [phis, phis_zip ix ps qs]
/-! pairs in the order in which they come first -/
open Classical in
noncomputable def addN (acc : List (Tm × Tm)) (x : Tm × Tm) : List (Tm × Tm) := if x ∈ acc then acc else acc ++ [x]
noncomputable def addAll (acc xs : List (Tm × Tm)) : List (Tm × Tm) := xs.foldl addN acc
open Classical in
noncomputable def ixN' : List (Tm × Tm) → Tm × Tm → Nat
  | [], _ => 0
  | y :: ys, x => if y = x then 0 else ixN' ys x + 1
noncomputable def ixOf (s : List (Tm × Tm)) (x : Tm × Tm) : Int := (ixN' s x : Nat)
theorem addAll_app (acc xs ys : List (Tm × Tm)) : addAll acc (xs ++ ys) = addAll (addAll acc xs) ys := List.foldl_append
theorem addN_pre (acc : List (Tm × Tm)) (x : Tm × Tm) : ∃ r, addN acc x = acc ++ r := by
  unfold addN
  split
  · exact ⟨[], by simp⟩
  · exact ⟨[x], rfl⟩
theorem addAll_pre : ∀ (xs acc : List (Tm × Tm)), ∃ r, addAll acc xs = acc ++ r
  | [], acc => ⟨[], by simp [addAll]⟩
  | x :: xs, acc => by
    obtain ⟨r, h⟩ := addN_pre acc x
    obtain ⟨r', h'⟩ := addAll_pre xs (addN acc x)
    refine ⟨r ++ r', ?_⟩
    show addAll (addN acc x) xs = _
    rw [h', h, List.append_assoc]
theorem addN_mem {acc : List (Tm × Tm)} {x y : Tm × Tm} : y ∈ addN acc x ↔ y ∈ acc ∨ y = x := by
  unfold addN
  split
  · rename_i h
    exact ⟨.inl, fun z => z.elim id fun e => e ▸ h⟩
  · rw [List.mem_append, List.mem_singleton]
theorem addAll_mem : ∀ (xs acc : List (Tm × Tm)) (y : Tm × Tm), y ∈ addAll acc xs ↔ y ∈ acc ∨ y ∈ xs
  | [], acc, y => by simp [addAll]
  | x :: xs, acc, y => by
    show y ∈ addAll (addN acc x) xs ↔ _
    rw [addAll_mem xs, addN_mem, List.mem_cons, or_assoc]
theorem addN_len (acc : List (Tm × Tm)) (x : Tm × Tm) : (addN acc x).length ≤ acc.length + 1 := by
  unfold addN
  split
  · omega
  · simp
theorem addAll_len : ∀ (xs acc : List (Tm × Tm)), (addAll acc xs).length ≤ acc.length + xs.length
  | [], acc => by simp [addAll]
  | x :: xs, acc => by
    have := addAll_len xs (addN acc x)
    have := addN_len acc x
    show (addAll (addN acc x) xs).length ≤ acc.length + (xs.length + 1)
    omega
theorem ix_app {x : Tm × Tm} : ∀ {s : List (Tm × Tm)} (r : List (Tm × Tm)), x ∈ s → ixN' (s ++ r) x = ixN' s x
  | y :: ys, r, h => by
    simp only [List.cons_append, ixN']
    split
    · rfl
    · rename_i e
      rw [ix_app r ((List.mem_cons.mp h).resolve_left fun z => e z.symm)]
theorem ix_new {x : Tm × Tm} : ∀ {s : List (Tm × Tm)} (r : List (Tm × Tm)), x ∉ s → ixN' (s ++ x :: r) x = s.length
  | [], r, _ => by simp [ixN']
  | y :: ys, r, h => by
    simp only [List.cons_append, ixN', List.length_cons]
    rw [if_neg fun z => h (by rw [z]; exact List.mem_cons_self), ix_new r fun m => h (List.mem_cons_of_mem _ m)]
theorem ix_get {x : Tm × Tm} : ∀ {s : List (Tm × Tm)}, x ∈ s → s[ixN' s x]? = some x
  | y :: ys, h => by
    simp only [ixN']
    split
    · rename_i e; rw [e]; rfl
    · rename_i e
      rw [List.getElem?_cons_succ]
      exact ix_get ((List.mem_cons.mp h).resolve_left fun z => e z.symm)
theorem ix_lt {x : Tm × Tm} {s : List (Tm × Tm)} (h : x ∈ s) : ixN' s x < s.length := (List.getElem?_eq_some_iff.mp (ix_get h)).1
theorem ix_more {xs acc : List (Tm × Tm)} {x : Tm × Tm} (h : x ∈ acc) : ixOf (addAll acc xs) x = ixOf acc x := by
  obtain ⟨r, e⟩ := addAll_pre xs acc
  unfold ixOf
  rw [e, ix_app r h]
def rngI (k : Nat) : List Int := (List.range k).map fun (i : Nat) => (i : Int)
theorem rngI_mem {k i : Nat} : (i : Int) ∈ rngI k ↔ i < k := by
  unfold rngI
  rw [List.mem_map]
  constructor
  · rintro ⟨j, m, e⟩
    have := List.mem_range.mp m
    omega
  · intro h
    exact ⟨i, List.mem_range.mpr h, rfl⟩
theorem firsts_ix : ∀ (xs acc : List (Tm × Tm)), (xs.map (ixOf (addAll acc xs))).foldl Cf.addNew (rngI acc.length) = rngI (addAll acc xs).length
  | [], acc => rfl
  | x :: xs, acc => by
    have e : addAll acc (x :: xs) = addAll (addN acc x) xs := rfl
    rw [e]
    have mx : x ∈ addN acc x := addN_mem.mpr (.inr rfl)
    have h1 : ixOf (addAll (addN acc x) xs) x = ixOf (addN acc x) x := ix_more mx
    have h2 : Cf.addNew (rngI acc.length) (ixOf (addN acc x) x) = rngI (addN acc x).length := by
      unfold addN Cf.addNew ixOf
      split
      · rename_i h
        rw [if_pos (rngI_mem.mpr (ix_lt h))]
      · rename_i h
        rw [ix_new [] h, if_neg (fun m => Nat.lt_irrefl _ (rngI_mem.mp m))]
        unfold rngI
        rw [List.length_append, List.length_singleton, List.range_succ, List.map_append]
        rfl
    show (xs.map _).foldl Cf.addNew (Cf.addNew (rngI acc.length) (ixOf (addAll (addN acc x) xs) x)) = _
    rw [h1, h2]
    exact firsts_ix xs (addN acc x)
theorem pos_rng : ∀ (m k : Nat) (n : Int), Cf.posFrom k ((List.range' k m).map fun (i : Nat) => (i : Int)) n = n
  | 0, k, n => rfl
  | m + 1, k, n => by
    rw [List.range'_succ, List.map_cons]
    show (if n = (k : Int) then (k : Int) else Cf.posFrom (k + 1) _ n) = n
    split
    · rename_i e; exact e.symm
    · exact pos_rng m (k + 1) n
mutual
theorem sub_id : ∀ t : Tm, t.sub .var = t
  | .var n => rfl
  | .node w ps => by show Tm.node w (Tm.subs .var ps) = _; rw [subs_id ps]
theorem subs_id : ∀ ts : List Tm, Tm.subs .var ts = ts
  | [] => rfl
  | t :: ts => by show t.sub .var :: Tm.subs .var ts = _; rw [sub_id t, subs_id ts]
end
/-- numbered as they come first: tidy -/
theorem tidy_phi (p q : Tm) : Cf.tidy [phi (ixOf (addAll [] (prs p q))) p q] = [phi (ixOf (addAll [] (prs p q))) p q] := by
  have e : Cf.firsts (Tm.occs [phi (ixOf (addAll [] (prs p q))) p q]) = rngI (addAll [] (prs p q)).length := by
    show Cf.firsts ((phi _ p q).occ ++ []) = _
    rw [List.append_nil, phi_occ]
    exact firsts_ix (prs p q) []
  unfold Cf.tidy
  rw [e]
  show [Cf.ren _ _] = _
  congr 1
  unfold Cf.ren
  have f : (fun n => Tm.var (Cf.posFrom 0 (rngI (addAll [] (prs p q)).length) n)) = Tm.var := by
    funext n
    unfold rngI
    rw [List.range_eq_range', pos_rng]
  rw [f, sub_id]
/-- the substitutions that lead back -/
noncomputable def bk1 (s : List (Tm × Tm)) (n : Int) : Tm := (s[n.toNat]?.map (·.1)).getD (.var n)
noncomputable def bk2 (s : List (Tm × Tm)) (n : Int) : Tm := (s[n.toNat]?.map (·.2)).getD (.var n)
theorem bk1_ix {s : List (Tm × Tm)} {x : Tm × Tm} (h : x ∈ s) : bk1 s (ixOf s x) = x.1 := by
  unfold bk1 ixOf
  rw [Int.toNat_natCast, ix_get h]; rfl
theorem bk2_ix {s : List (Tm × Tm)} {x : Tm × Tm} (h : x ∈ s) : bk2 s (ixOf s x) = x.2 := by
  unfold bk2 ixOf
  rw [Int.toNat_natCast, ix_get h]; rfl
/-- the common form of two terms -/
noncomputable def lgg (p q : Tm) : Tm := phi (ixOf (addAll [] (prs p q))) p q
theorem lgg_fst (p q : Tm) : ∃ θ, (lgg p q).sub θ = p := ⟨bk1 (addAll [] (prs p q)), phi_fst p q fun x m => bk1_ix ((addAll_mem _ _ _).mpr (.inr m))⟩
theorem lgg_snd (p q : Tm) : ∃ θ, (lgg p q).sub θ = q := ⟨bk2 (addAll [] (prs p q)), phi_snd p q fun x m => bk2_ix ((addAll_mem _ _ _).mpr (.inr m))⟩
theorem lgg_gen {o p q : Tm} (h1 : ∃ θ, o.sub θ = p) (h2 : ∃ θ, o.sub θ = q) : ∃ θ, o.sub θ = lgg p q := by
  obtain ⟨f, rfl⟩ := h1
  obtain ⟨g, rfl⟩ := h2
  unfold lgg
  exact ⟨_, (phi_gen o).symm⟩
theorem lgg_tidy (p q : Tm) : Cf.tidy [lgg p q] = [lgg p q] := tidy_phi p q
mutual
theorem prs_len : ∀ p q : Tm, (prs p q).length ≤ p.size
  | .var n, q => by simp only [prs]; exact Nat.le_refl 1
  | .node w ps, .var m => by
    simp only [prs]
    exact Tm.size_pos _
  | .node w ps, .node v qs => by
    simp only [prs]
    split
    · have := prss_len ps qs
      show _ ≤ 1 + Tm.sizes ps
      omega
    · exact Tm.size_pos _
theorem prss_len : ∀ ps qs : List Tm, (prss ps qs).length ≤ Tm.sizes ps
  | [], _ => by simp [prss]
  | _ :: _, [] => by simp [prss]
  | p :: ps, q :: qs => by
    have a := prs_len p q
    have b := prss_len ps qs
    simp only [prss, List.length_append]
    show _ ≤ p.size + Tm.sizes ps
    omega
end
end Lq
namespace Lq
open PySem L2
local macro_rules | `(tactic| walk_at "wp") => `(tactic| (try simp only [runQ_e, runQP_e, endQ_rt_e, endQ_nx_e, sSeq_e, sNil_e, thenO_nx, thenO_rt, thenO_bk, thenO_ct, thenO_ex, bnd_e, ret_e, gd_e, bad_e, eVar_e, eOwn_e, slV_e, slO_e, eC_e, eOp_e, eTup_e, aNil_e, aCons_e, sSet_e, gN_e, gT_e, gsCons_e, gsNil_e, sRet_e, sIf_e, sExpr_e, tT_e, tTru_e, tNo_e, tBoth_e, tEither_e, eBoth_e, eEither_e, eNo_e, eIf_e, eCall_e, eFn_e, eFnP_e, slP_e, eSl_e, aPart_e, noPart_e, eIsi_e, isiD, eTy_e, tyQ_e, ty_n, ty_b, ty_i, ty_s, ty_l, ty_t, ty_d, eGet1_e, eGet2_e, eDget_e, eDin_e, sDnew_e, sPut_e, slD_e, sNew_e, lLst_e, slL_e, sApp_e, eL_e, sPop_e, sExt_e, sSetIx_e, lList_e, iSeq_e, iCall_e, eNeg_e, eChain_e, eBack_e, sFrz_e, frzR, frzS, sPutT_e, slDT_e, sDnewT_e, ite_ap, sFor_e, fLc_e, fDc_e, eD_e, tAll_e, asB_b, tru_n, tru_b, tru_i, tru_s, tru_l, tru_t, items_l, items_t, intOf_i, len_l, len_t, len_s, list_l, list_t, tuple_l, tuple_t, ix_t, ix_l, ix_s, atW_s, add_i, add_s, add_t, add_l, sub_i, mul_i, mod_i, fdiv_i, neg_i, pow_i, eRg1_e, rgW_e, Int.sub_zero, lt_i, le_i, gt_i, ge_i, lt_s, le_s, is_n, isNot_n, isN_n, isN_b, isN_i, isN_s, isN_l, isN_t, isN_d, eq_ii, eq_ss, eq_bb, eq_is, eq_si, eq_nn, eq_ni, eq_in, eq_ns, eq_sn, eq_tt, eq_ll, ne_ii, ne_ss, ne_bb, ne_is, ne_si, ne_nn, ne_ni, ne_in, ne_ns, ne_sn, ne_tt, ne_ll, sum_l, intsW_of, max_2, min_2, int_i, int_b, rng1_i, rng2_i, sl_t, sl_l, sl_s, back_t, back_l, back_0, keyP_i, keyP_s, keyW_i, keyW_s, kD_i, kD_s, List.map_cons, List.map_nil, List.length_cons, List.length_nil, List.cons_append, List.nil_append, List.replicate_succ, List.replicate_zero, List.getElem?_cons_zero, List.getElem?_cons_succ, List.set_cons_zero, List.set_cons_succ, List.reverse_cons, List.reverse_nil, Nat.zero_add, Nat.reduceSub, Nat.reduceAdd, reduceIte, if_true, if_false, Bool.not_true, Bool.not_false, Bool.true_eq_false, Bool.false_eq_true, ite_true, ite_false, String.reduceEq, ne_eq, not_false_eq_true, not_true_eq_false, reduceCtorEq, true_and, and_true, noOwn, isOwn, wipeR, List.all_cons, List.all_nil, Bool.and_self, at_zero, at_one, at_two, at_three, cut_1, cut_from, cut_from1, cut_upto, decide_true, decide_false, Int.toNat_natCast, upto_len, z_succ, z_succ_pos, z_pred, z_zero, z_zero_pos, List.drop_succ_cons, List.drop_zero, List.isEmpty_cons, List.isEmpty_nil, List.getLast?_concat, List.dropLast_concat, sz_0, sz_1, sz_2, sz_3, sz_4, sz_5, sz_6, sz_7, sz_8, sz_9, sz_10, sz_11, sz_12, sz_13, sz_14, sz_15, sz_16, sz_17, sz_18, sz_19, sz_20, kit_NoneType_bool, kit_NoneType_int, kit_NoneType_str, kit_NoneType_list, kit_NoneType_tuple, kit_bool_bool, kit_bool_int, kit_bool_str, kit_bool_list, kit_bool_tuple, kit_int_bool, kit_int_int, kit_int_str, kit_int_list, kit_int_tuple, kit_str_bool, kit_str_int, kit_str_str, kit_str_list, kit_str_tuple, kit_list_bool, kit_list_int, kit_list_str, kit_list_list, kit_list_tuple, kit_tuple_bool, kit_tuple_int, kit_tuple_str, kit_tuple_list, kit_tuple_tuple, sAugadd, sAugsub, sAug, eDisp_e, ppCons_e, ppNil_e, eListVals_e, lAdd_e, fLcD_e, lZip_e, zipT_e, dictW_e, enumWA_l, enumWA_t, eIsi2_e, runZ_e, ptrs_c, ptrs_n, endZ_rs, endZ_nx, one_gh, thenO_rs, eGh_e, slG_e, ghD_l, ghD_d, ghD_t, zPure_e, zNil_e, zCons_e, zOp_e, zTup_e, zCall_e, zT_e, zNo_e, sRetZ_e, sExprZ_e, sSetZ_e, sIfZ_e, zFn_e, getG1_e, slGh_e, putG1_e, regh_e, zPtrs1_e, eFnN_e, sGPut_e, sGApp_e, gLst_e, gDic_e, gDit_e, zSetd_e, zLc_e, plV_n, plV_c, isPl_u, isPl_v, rest_n, rest_c, eJoined_e, jNil_e, jStr_e, jVal_e, fmtW_i, fmtW_s, eJoin_e, strW_e, eIndex_e, isLst_e, Option.getD_some, slO_d, slO_t, iStr_e, signsW_e, zipWl_e, zipWt_e, enumWl_e, allQl_e, anyQl_e, inS1_e]))
/-! ### terms as texts: different terms, different texts -/
theorem str_ext {a b : Str} (h : a.cps.toList = b.cps.toList) : a = b := by
  cases a; cases b
  congr
  exact Array.toList_inj.mp h
theorem str_app (a b : Str) : (a ++ b).cps.toList = a.cps.toList ++ b.cps.toList := by
  show (a.cps ++ b.cps).toList = _
  simp
theorem str_len (a : Str) : a.length = a.cps.toList.length := by simp [Str.length]
theorem str_of (s : String) : (Str.ofString s).cps.toList = s.toList.map Char.toNat := by rw [Str.ofString_eq_toList]
theorem str_empty : Str.empty.cps.toList = [] := rfl
/-- a number's signs -/
def dg (n : Int) : List Nat := (toString n).toList.map Char.toNat
theorem dg_nat (n : Nat) : dg (n : Int) = (Nat.toDigits 10 n).map Char.toNat := by
  show (n.repr).toList.map Char.toNat = _
  rw [Nat.repr_eq_ofList_toDigits, String.toList_ofList]
theorem dg_all (n : Nat) : ∀ c ∈ dg (n : Int), 48 ≤ c ∧ c ≤ 57 := by
  rw [dg_nat]
  intro c m
  obtain ⟨x, hx, rfl⟩ := List.mem_map.mp m
  have := Nat.isDigit_of_mem_toDigits (by decide) (by decide) hx
  unfold Char.isDigit at this
  simp only [Bool.and_eq_true, decide_eq_true_eq] at this
  exact ⟨this.1, this.2⟩
theorem char_inj : ∀ {xs ys : List Char}, xs.map Char.toNat = ys.map Char.toNat → xs = ys
  | [], [], _ => rfl
  | [], _ :: _, h => by simp at h
  | _ :: _, [], h => by simp at h
  | x :: xs, y :: ys, h => by
    simp only [List.map_cons, List.cons.injEq] at h
    rw [char_inj h.2, Char.toNat_inj.mp h.1]
theorem dg_inj {m n : Nat} (h : dg (m : Int) = dg (n : Int)) : m = n := by
  have h' : (m.repr).toList = (n.repr).toList := char_inj h
  exact Nat.repr_inj.mp (String.toList_inj.mp h')
theorem digits_len : ∀ (k n : Nat), n < 10 ^ (k + 1) → (Nat.toDigits 10 n).length ≤ k + 1
  | 0, n, h => by rw [Nat.toDigits_of_lt_base (by simpa using h)]; simp
  | k + 1, n, h => by
    rw [Nat.toDigits_eq_if (by decide)]
    split
    · simp
    · rw [List.length_append]
      have := digits_len k (n / 10) (by rw [Nat.pow_succ] at h; omega)
      simp only [List.length_cons, List.length_nil]
      omega
theorem dg_len {n : Nat} (h : n < 10 ^ 10) : (dg (n : Int)).length ≤ 10 := by
  rw [dg_nat, List.length_map]
  exact digits_len 9 n h
theorem dg_ne (n : Nat) : dg (n : Int) ≠ [] := by
  rw [dg_nat, Nat.toDigits_eq_if (by decide)]
  split <;> simp
mutual
/-- the signs of a term -/
def wr : Cf.Tm → List Nat
  | .var n => 120 :: dg n
  | .node w [] => w.cps.toList
  | .node w (p :: ps) => w.cps.toList ++ 40 :: (wr p ++ wrc ps)
def wrc : List Cf.Tm → List Nat
  | [] => [41]
  | p :: ps => 44 :: (wr p ++ wrc ps)
end
mutual
/-- a term over constructors, variables from 0 to m -/
def WfT (cs : List (Str × Nat)) (m : Nat) : Cf.Tm → Prop
  | .var n => ∃ k : Nat, n = (k : Int) ∧ k < m
  | .node w ps => (w, ps.length) ∈ cs ∧ WfTs cs m ps
def WfTs (cs : List (Str × Nat)) (m : Nat) : List Cf.Tm → Prop
  | [] => True
  | p :: ps => WfT cs m p ∧ WfTs cs m ps
end
theorem wfts_iff {cs : List (Str × Nat)} {m : Nat} : ∀ {ts : List Cf.Tm}, WfTs cs m ts ↔ ∀ t ∈ ts, WfT cs m t
  | [] => by simp [WfTs]
  | p :: ps => by simp [WfTs, wfts_iff (ts := ps)]
theorem span_eq {P : Nat → Prop} : ∀ {xs ys r s : List Nat}, (∀ c ∈ xs, P c) → (∀ c ∈ ys, P c) → (∀ c t, r = c :: t → ¬ P c) → (∀ c t, s = c :: t → ¬ P c) → xs ++ r = ys ++ s → xs = ys ∧ r = s
  | [], [], r, s, _, _, _, _, h => ⟨rfl, h⟩
  | [], y :: ys, r, s, _, hy, hr, _, h => absurd (hy y List.mem_cons_self) (hr y (ys ++ s) h)
  | x :: xs, [], r, s, hx, _, _, hs, h => absurd (hx x List.mem_cons_self) (hs x (xs ++ r) h.symm)
  | x :: xs, y :: ys, r, s, hx, hy, hr, hs, h => by
    simp only [List.cons_append, List.cons.injEq] at h
    obtain ⟨a, b⟩ := span_eq (fun c m => hx c (List.mem_cons_of_mem _ m)) (fun c m => hy c (List.mem_cons_of_mem _ m)) hr hs h.2
    exact ⟨by rw [h.1, a], b⟩
/-- a term ends here -/
def Stp (r : List Nat) : Prop := ∀ c t, r = c :: t → c = 44 ∨ c = 41
theorem stp_c (ps : List Cf.Tm) (r : List Nat) : Stp (wrc ps ++ r) := fun c t h => by
  cases ps with
  | nil => simp only [wrc, List.cons_append, List.cons.injEq] at h; exact .inr h.1.symm
  | cons p ps => simp only [wrc, List.cons_append, List.cons.injEq] at h; exact .inl h.1.symm
theorem word_span {cs : List (Str × Nat)} (ok : Cf.ConsOk cs) {w v : Str} {a b : Nat} (hw : (w, a) ∈ cs) (hv : (v, b) ∈ cs) {r s : List Nat} (hr : ∀ c t, r = c :: t → c < 97) (hs : ∀ c t, s = c :: t → c < 97) (h : w.cps.toList ++ r = v.cps.toList ++ s) : w = v ∧ r = s := by
  obtain ⟨e1, e2⟩ := span_eq (P := fun c => 97 ≤ c) (fun c m => ((ok.word _ hw).2.2 c m).1) (fun c m => ((ok.word _ hv).2.2 c m).1) (fun c t e => by have := hr c t e; omega) (fun c t e => by have := hs c t e; omega) h
  exact ⟨str_ext e1, e2⟩
theorem stp_lt {r : List Nat} (h : Stp r) : ∀ c t, r = c :: t → c < 97 := fun c t e => by rcases h c t e with z | z <;> omega
theorem var_word {cs : List (Str × Nat)} (ok : Cf.ConsOk cs) {w : Str} {a k : Nat} (hw : (w, a) ∈ cs) {r s : List Nat} (hs : ∀ c t, s = c :: t → c = 44 ∨ c = 41 ∨ c = 40) (h : 120 :: (dg (k : Int) ++ r) = w.cps.toList ++ s) : False := by
  have h' : [120] ++ (dg (k : Int) ++ r) = w.cps.toList ++ s := h
  obtain ⟨c, t, e⟩ : ∃ c t, dg (k : Int) = c :: t := by
    cases e : dg (k : Int) with
    | nil => exact absurd e (dg_ne k)
    | cons c t => exact ⟨c, t, rfl⟩
  have hc := dg_all k c (by rw [e]; exact List.mem_cons_self)
  obtain ⟨_, e2⟩ := span_eq (P := fun c => 97 ≤ c) (fun c m => by rw [List.mem_singleton.mp m]; omega) (fun c m => ((ok.word _ hw).2.2 c m).1) (fun d u z => by
    rw [e] at z
    simp only [List.cons_append, List.cons.injEq] at z
    omega) (fun d u z => by rcases hs d u z with z | z | z <;> omega) h'
  rw [e] at e2
  have := hs c (t ++ r) e2.symm
  omega
mutual
theorem wr_inj {cs : List (Str × Nat)} {m : Nat} (ok : Cf.ConsOk cs) : ∀ (t u : Cf.Tm) (r s : List Nat), WfT cs m t → WfT cs m u → Stp r → Stp s → wr t ++ r = wr u ++ s → t = u ∧ r = s
  | .var n, .var n', r, s, ⟨k, e1, _⟩, ⟨k', e2, _⟩, hr, hs, h => by
    subst e1; subst e2
    simp only [wr, List.cons_append, List.cons.injEq, true_and] at h
    obtain ⟨a, b⟩ := span_eq (P := fun c => 48 ≤ c ∧ c ≤ 57) (dg_all k) (dg_all k') (fun c t e => by rcases hr c t e with z | z <;> omega) (fun c t e => by rcases hs c t e with z | z <;> omega) h
    exact ⟨by rw [dg_inj a], b⟩
  | .var n, .node w [], r, s, ⟨k, e1, _⟩, hu, hr, hs, h => by
    subst e1
    simp only [wr, List.cons_append] at h
    exact (var_word ok hu.1 (fun c t e => by rcases hs c t e with z | z <;> simp [z]) h).elim
  | .var n, .node w (q :: qs), r, s, ⟨k, e1, _⟩, hu, hr, hs, h => by
    subst e1
    simp only [wr, List.cons_append, List.append_assoc] at h
    exact (var_word ok hu.1 (fun c t e => by simp only [List.cons.injEq] at e; omega) h).elim
  | .node w [], .var n, r, s, ht, ⟨k, e1, _⟩, hr, hs, h => by
    subst e1
    simp only [wr, List.cons_append] at h
    exact (var_word ok ht.1 (fun c t e => by rcases hr c t e with z | z <;> simp [z]) h.symm).elim
  | .node w (p :: ps), .var n, r, s, ht, ⟨k, e1, _⟩, hr, hs, h => by
    subst e1
    simp only [wr, List.cons_append, List.append_assoc] at h
    exact (var_word ok ht.1 (fun c t e => by simp only [List.cons.injEq] at e; omega) h.symm).elim
  | .node w [], .node v [], r, s, ht, hu, hr, hs, h => by
    simp only [wr] at h
    obtain ⟨a, b⟩ := word_span ok ht.1 hu.1 (stp_lt hr) (stp_lt hs) h
    exact ⟨by rw [a], b⟩
  | .node w [], .node v (q :: qs), r, s, ht, hu, hr, hs, h => by
    simp only [wr, List.append_assoc, List.cons_append] at h
    obtain ⟨a, b⟩ := word_span ok ht.1 hu.1 (stp_lt hr) (fun c t e => by simp only [List.cons.injEq] at e; omega) h
    have := hr _ _ b
    omega
  | .node w (p :: ps), .node v [], r, s, ht, hu, hr, hs, h => by
    simp only [wr, List.append_assoc, List.cons_append] at h
    obtain ⟨a, b⟩ := word_span ok ht.1 hu.1 (fun c t e => by simp only [List.cons.injEq] at e; omega) (stp_lt hs) h
    have := hs _ _ b.symm
    omega
  | .node w (p :: ps), .node v (q :: qs), r, s, ht, hu, hr, hs, h => by
    simp only [wr, List.append_assoc, List.cons_append] at h
    obtain ⟨a, b⟩ := word_span ok ht.1 hu.1 (fun c t e => by simp only [List.cons.injEq] at e; omega) (fun c t e => by simp only [List.cons.injEq] at e; omega) h
    simp only [List.cons.injEq, true_and] at b
    obtain ⟨c1, c2⟩ := wr_inj ok p q _ _ ht.2.1 hu.2.1 (stp_c ps r) (stp_c qs s) b
    obtain ⟨d1, d2⟩ := wrc_inj ok ps qs r s ht.2.2 hu.2.2 c2
    exact ⟨by rw [a, c1, d1], d2⟩
theorem wrc_inj {cs : List (Str × Nat)} {m : Nat} (ok : Cf.ConsOk cs) : ∀ (ps qs : List Cf.Tm) (r s : List Nat), WfTs cs m ps → WfTs cs m qs → wrc ps ++ r = wrc qs ++ s → ps = qs ∧ r = s
  | [], [], r, s, _, _, h => by simp only [wrc, List.cons_append, List.cons.injEq, true_and] at h; exact ⟨rfl, h⟩
  | [], _ :: _, r, s, _, _, h => by simp [wrc] at h
  | _ :: _, [], r, s, _, _, h => by simp [wrc] at h
  | p :: ps, q :: qs, r, s, hp, hq, h => by
    simp only [wrc, List.cons_append, List.append_assoc, List.cons.injEq, true_and] at h
    obtain ⟨c1, c2⟩ := wr_inj ok p q _ _ hp.1 hq.1 (stp_c ps r) (stp_c qs s) h
    obtain ⟨d1, d2⟩ := wrc_inj ok ps qs r s hp.2 hq.2 c2
    exact ⟨by rw [c1, d1], d2⟩
end
def wrS (t : Cf.Tm) : Str := ⟨(wr t).toArray⟩
theorem wrS_cps (t : Cf.Tm) : (wrS t).cps.toList = wr t := rfl
theorem wrS_inj {cs : List (Str × Nat)} {m : Nat} (ok : Cf.ConsOk cs) {t u : Cf.Tm} (ht : WfT cs m t) (hu : WfT cs m u) (h : wrS t = wrS u) : t = u := by
  have e : wr t = wr u := by rw [← wrS_cps, ← wrS_cps, h]
  have stp : Stp [] := fun c t e => by cases e
  exact (wr_inj ok t u [] [] ht hu stp stp (by rw [List.append_nil, List.append_nil]; exact e)).1
mutual
theorem wr_len {cs : List (Str × Nat)} {m : Nat} (ok : Cf.ConsOk cs) (hm : m ≤ 10 ^ 10) : ∀ t : Cf.Tm, WfT cs m t → (wr t).length + 1 ≤ 15 * t.size
  | .var n, ⟨k, e, hk⟩ => by
    subst e
    have := dg_len (n := k) (by omega)
    show (dg (k : Int)).length + 1 + 1 ≤ 15 * 1
    omega
  | .node w [], h => by
    have := (ok.word _ h.1).2.1
    rw [str_len] at this
    show w.cps.toList.length + 1 ≤ 15 * (1 + 0)
    simp only at this
    omega
  | .node w (p :: ps), h => by
    have h1 := (ok.word _ h.1).2.1
    rw [str_len] at h1
    simp only at h1
    have h2 := wr_len ok hm p h.2.1
    have h3 := wrc_len ok hm ps h.2.2
    simp only [wr, List.length_append, List.length_cons]
    show _ ≤ 15 * (1 + (p.size + Cf.Tm.sizes ps))
    omega
theorem wrc_len {cs : List (Str × Nat)} {m : Nat} (ok : Cf.ConsOk cs) (hm : m ≤ 10 ^ 10) : ∀ ps : List Cf.Tm, WfTs cs m ps → (wrc ps).length ≤ 15 * Cf.Tm.sizes ps + 1
  | [], _ => by simp [wrc]
  | p :: ps, h => by
    have h2 := wr_len ok hm p h.1
    have h3 := wrc_len ok hm ps h.2
    simp only [wrc, List.length_append, List.length_cons]
    show _ ≤ 15 * (p.size + Cf.Tm.sizes ps) + 1
    omega
end
/-- a tuple of texts with commas -/
theorem join_wr : ∀ (p : Cf.Tm) (ps : List Cf.Tm), (Txt.join (Str.ofString ",") ((p :: ps).map wrS)).cps.toList ++ [41] = wr p ++ wrc ps
  | p, [] => by
    show (PySem.Builtin.Str.glued _ _).cps.toList ++ _ = _
    rw [StrLaws.glued_eq_join]
    rfl
  | p, q :: qs => by
    have ih := join_wr q qs
    have ih' : (PySem.Builtin.Str.glued (Str.ofString ",") ((q :: qs).map wrS)).cps.toList ++ [41] = wr q ++ wrc qs := ih
    show (PySem.Builtin.Str.glued _ _).cps.toList ++ _ = _
    rw [StrLaws.glued_eq_join] at ih' ⊢
    have e : Str.join (Str.ofString ",") ((p :: q :: qs).map wrS) = wrS p ++ Str.ofString "," ++ Str.join (Str.ofString ",") ((q :: qs).map wrS) := rfl
    rw [e, str_app, str_app, List.append_assoc, List.append_assoc, ih']
    rfl
end Lq
namespace Cf
open PySem L2
def keysOf (M : List (Int × Tm)) : List Int := M.map (·.1)
/-- what these pairs ask of a substitution -/
def Ext (M : List (Int × Tm)) (θ : Int → Tm) : Prop := ∀ e ∈ M, θ e.1 = e.2
theorem snoc_inj {α : Type} {a b : List α} {x y : α} : a ++ [x] = b ++ [y] ↔ a = b ∧ x = y := by
  constructor
  · intro h
    obtain ⟨h1, h2⟩ := List.append_inj' h rfl
    exact ⟨h1, by simpa using h2⟩
  · rintro ⟨rfl, rfl⟩
    rfl
theorem look_mem {M : List (Int × Tm)} {n : Int} {t : Tm} (h : M.lookup n = some t) : (n, t) ∈ M := by
  induction M with
  | nil => cases h
  | cons e M ih =>
    obtain ⟨m, u⟩ := e
    rw [List.lookup_cons] at h
    by_cases z : n = m
    · subst z
      rw [beq_self_eq_true] at h
      cases h
      exact List.mem_cons_self
    · rw [beq_eq_false_iff_ne.mpr z] at h
      exact List.mem_cons_of_mem _ (ih h)
theorem look_no {M : List (Int × Tm)} {n : Int} (h : M.lookup n = none) : n ∉ keysOf M := by
  induction M with
  | nil => intro z; cases z
  | cons e M ih =>
    obtain ⟨m, u⟩ := e
    rw [List.lookup_cons] at h
    by_cases z : n = m
    · subst z
      rw [beq_self_eq_true] at h
      cases h
    · rw [beq_eq_false_iff_ne.mpr z] at h
      intro y
      rcases List.mem_cons.mp y with y | y
      · exact z y
      · exact ih h y
theorem look_at {M : List (Int × Tm)} {n : Int} {t : Tm} (nd : (keysOf M).Nodup) (h : (n, t) ∈ M) : M.lookup n = some t := by
  induction M with
  | nil => cases h
  | cons e M ih =>
    obtain ⟨m, u⟩ := e
    obtain ⟨n1, n2⟩ := List.nodup_cons.mp nd
    rw [List.lookup_cons]
    rcases List.mem_cons.mp h with h | h
    · cases h
      rw [beq_self_eq_true]
    · have z : ¬ n = m := fun z => n1 (z ▸ List.mem_map.mpr ⟨_, h, rfl⟩)
      rw [beq_eq_false_iff_ne.mpr z]
      exact ih n2 h
theorem ext_onv {M : List (Int × Tm)} (nd : (keysOf M).Nodup) : Ext M (onv M) := fun e he => by
  show (M.lookup e.1).getD _ = _
  rw [look_at nd (t := e.2) he]
  rfl
theorem ext_snoc {M : List (Int × Tm)} {n : Int} {t : Tm} {θ : Int → Tm} : Ext (M ++ [(n, t)]) θ ↔ Ext M θ ∧ θ n = t := by
  constructor
  · exact fun h => ⟨fun e he => h e (List.mem_append_left _ he), h (n, t) (List.mem_append_right _ (List.mem_singleton_self _))⟩
  · rintro ⟨h1, h2⟩ e he
    rcases List.mem_append.mp he with he | he
    · exact h1 e he
    · rw [List.mem_singleton.mp he]
      exact h2
theorem keys_snoc (M : List (Int × Tm)) (n : Int) (t : Tm) : keysOf (M ++ [(n, t)]) = keysOf M ++ [n] := by
  unfold keysOf
  rw [List.map_append]
  rfl
end Cf
namespace Lq
open PySem L2
open Cf (Tm)
local macro_rules | `(tactic| walk_at "wp") => `(tactic| (try simp only [runQ_e, runQP_e, endQ_rt_e, endQ_nx_e, sSeq_e, sNil_e, thenO_nx, thenO_rt, thenO_bk, thenO_ct, thenO_ex, bnd_e, ret_e, gd_e, bad_e, eVar_e, eOwn_e, slV_e, slO_e, eC_e, eOp_e, eTup_e, aNil_e, aCons_e, sSet_e, gN_e, gT_e, gsCons_e, gsNil_e, sRet_e, sIf_e, sExpr_e, tT_e, tTru_e, tNo_e, tBoth_e, tEither_e, eBoth_e, eEither_e, eNo_e, eIf_e, eCall_e, eFn_e, eFnP_e, slP_e, eSl_e, aPart_e, noPart_e, eIsi_e, isiD, eTy_e, tyQ_e, ty_n, ty_b, ty_i, ty_s, ty_l, ty_t, ty_d, eGet1_e, eGet2_e, eDget_e, eDin_e, sDnew_e, sPut_e, slD_e, sNew_e, lLst_e, slL_e, sApp_e, eL_e, sPop_e, sExt_e, sSetIx_e, lList_e, iSeq_e, iCall_e, eNeg_e, eChain_e, eBack_e, sFrz_e, frzR, frzS, sPutT_e, slDT_e, sDnewT_e, ite_ap, sFor_e, fLc_e, fDc_e, eD_e, tAll_e, asB_b, tru_n, tru_b, tru_i, tru_s, tru_l, tru_t, items_l, items_t, intOf_i, len_l, len_t, len_s, list_l, list_t, tuple_l, tuple_t, ix_t, ix_l, ix_s, atW_s, add_i, add_s, add_t, add_l, sub_i, mul_i, mod_i, fdiv_i, neg_i, pow_i, eRg1_e, rgW_e, Int.sub_zero, lt_i, le_i, gt_i, ge_i, lt_s, le_s, is_n, isNot_n, isN_n, isN_b, isN_i, isN_s, isN_l, isN_t, isN_d, eq_ii, eq_ss, eq_bb, eq_is, eq_si, eq_nn, eq_ni, eq_in, eq_ns, eq_sn, eq_tt, eq_ll, ne_ii, ne_ss, ne_bb, ne_is, ne_si, ne_nn, ne_ni, ne_in, ne_ns, ne_sn, ne_tt, ne_ll, sum_l, intsW_of, max_2, min_2, int_i, int_b, rng1_i, rng2_i, sl_t, sl_l, sl_s, back_t, back_l, back_0, keyP_i, keyP_s, keyW_i, keyW_s, kD_i, kD_s, List.map_cons, List.map_nil, List.length_cons, List.length_nil, List.cons_append, List.nil_append, List.replicate_succ, List.replicate_zero, List.getElem?_cons_zero, List.getElem?_cons_succ, List.set_cons_zero, List.set_cons_succ, List.reverse_cons, List.reverse_nil, Nat.zero_add, Nat.reduceSub, Nat.reduceAdd, reduceIte, if_true, if_false, Bool.not_true, Bool.not_false, Bool.true_eq_false, Bool.false_eq_true, ite_true, ite_false, String.reduceEq, ne_eq, not_false_eq_true, not_true_eq_false, reduceCtorEq, true_and, and_true, noOwn, isOwn, wipeR, List.all_cons, List.all_nil, Bool.and_self, at_zero, at_one, at_two, at_three, cut_1, cut_from, cut_from1, cut_upto, decide_true, decide_false, Int.toNat_natCast, upto_len, z_succ, z_succ_pos, z_pred, z_zero, z_zero_pos, List.drop_succ_cons, List.drop_zero, List.isEmpty_cons, List.isEmpty_nil, List.getLast?_concat, List.dropLast_concat, sz_0, sz_1, sz_2, sz_3, sz_4, sz_5, sz_6, sz_7, sz_8, sz_9, sz_10, sz_11, sz_12, sz_13, sz_14, sz_15, sz_16, sz_17, sz_18, sz_19, sz_20, kit_NoneType_bool, kit_NoneType_int, kit_NoneType_str, kit_NoneType_list, kit_NoneType_tuple, kit_bool_bool, kit_bool_int, kit_bool_str, kit_bool_list, kit_bool_tuple, kit_int_bool, kit_int_int, kit_int_str, kit_int_list, kit_int_tuple, kit_str_bool, kit_str_int, kit_str_str, kit_str_list, kit_str_tuple, kit_list_bool, kit_list_int, kit_list_str, kit_list_list, kit_list_tuple, kit_tuple_bool, kit_tuple_int, kit_tuple_str, kit_tuple_list, kit_tuple_tuple, sAugadd, sAugsub, sAug, eDisp_e, ppCons_e, ppNil_e, eListVals_e, lAdd_e, fLcD_e, lZip_e, zipT_e, dictW_e, enumWA_l, enumWA_t, eIsi2_e, runZ_e, ptrs_c, ptrs_n, endZ_rs, endZ_nx, one_gh, thenO_rs, eGh_e, slG_e, ghD_l, ghD_d, ghD_t, zPure_e, zNil_e, zCons_e, zOp_e, zTup_e, zCall_e, zT_e, zNo_e, sRetZ_e, sExprZ_e, sSetZ_e, sIfZ_e, zFn_e, getG1_e, slGh_e, putG1_e, regh_e, zPtrs1_e, eFnN_e, sGPut_e, sGApp_e, gLst_e, gDic_e, gDit_e, zSetd_e, zLc_e, plV_n, plV_c, isPl_u, isPl_v, rest_n, rest_c, eJoined_e, jNil_e, jStr_e, jVal_e, fmtW_i, fmtW_s, eJoin_e, strW_e, eIndex_e, isLst_e, Option.getD_some, slO_d, slO_t, iStr_e, signsW_e, zipWl_e, zipWt_e, enumWl_e, allQl_e, anyQl_e, inS1_e]))
/-! ### texts of terms, common forms, instances: over the mirrors -/
mutual
theorem eqv_tm : ∀ a b : Tm, PyData.eqv (tmD a) (tmD b) = true ↔ a = b
  | .var i, .var j => by simp [tmD, PyData.eqv]
  | .var i, .node w ps => by simp [tmD, PyData.eqv]
  | .node w ps, .var j => by simp [tmD, PyData.eqv]
  | .node w ps, .node v qs => by simp [tmD, PyData.eqv, PyData.eqvAll, eqvs_tm ps qs]
theorem eqvs_tm : ∀ a b : List Tm, PyData.eqvAll (tmsD a) (tmsD b) = true ↔ a = b
  | [], [] => by simp [tmsD, PyData.eqvAll]
  | [], _ :: _ => by simp [tmsD, PyData.eqvAll]
  | _ :: _, [] => by simp [tmsD, PyData.eqvAll]
  | a :: as, b :: bs => by simp [tmsD, PyData.eqvAll, eqv_tm a b, eqvs_tm as bs]
end
mutual
theorem lay_tm {cs : List (Str × Nat)} {m : Nat} (ok : Cf.ConsOk cs) : ∀ t : Tm, WfT cs m t → PyData.canLay0 (tmD t) = true ∧ PyData.depth (tmD t) ≤ t.high
  | .var i, _ => ⟨rfl, Nat.zero_le _⟩
  | .node w ps, h => by
    obtain ⟨a, b⟩ := lays_tm ok ps h.2
    have hw : PyData.strOk w = true := by
      unfold PyData.strOk
      rw [Array.all_eq_true_iff_forall_mem]
      intro c hc
      have := ((ok.word _ h.1).2.2 c (by simpa using hc)).2
      exact decide_eq_true (by omega)
    refine ⟨by simp [tmD, PyData.canLay0, PyData.canLayAll0, hw, a], ?_⟩
    simp only [tmD, PyData.depth, PyData.depthAll]
    show _ ≤ 1 + Tm.highs ps
    omega
theorem lays_tm {cs : List (Str × Nat)} {m : Nat} (ok : Cf.ConsOk cs) : ∀ ts : List Tm, WfTs cs m ts → PyData.canLayAll0 (tmsD ts) = true ∧ PyData.depthAll (tmsD ts) ≤ Tm.highs ts
  | [], _ => ⟨rfl, Nat.zero_le _⟩
  | t :: ts, h => by
    obtain ⟨a, b⟩ := lay_tm ok t h.1
    obtain ⟨c, d⟩ := lays_tm ok ts h.2
    refine ⟨by simp [tmsD, PyData.canLayAll0, a, c], ?_⟩
    simp only [tmsD, PyData.depthAll]
    show _ ≤ max t.high (Tm.highs ts)
    omega
end
theorem shaped_tm {cs : List (Str × Nat)} {m : Nat} (ok : Cf.ConsOk cs) {t : Tm} (h : WfT cs m t) (hh : t.high ≤ 60) : SeqAt.shaped (tmD t) = true := by
  obtain ⟨a, b⟩ := lay_tm ok t h
  unfold SeqAt.shaped
  rw [a]
  simp only [Bool.true_and, decide_eq_true_eq]
  omega
theorem eq_tm' {a b : Tm} {Q : PyData → Prop} (ha : SeqAt.shaped (tmD a) = true) (hb : SeqAt.shaped (tmD b) = true) (q : ∀ c : Bool, (c = true ↔ a = b) → Q (.bool c)) : eqQ (tmD a) (tmD b) Q := by
  cases a with
  | var i =>
    cases b with
    | var j => exact q (decide (i = j)) (by simp)
    | node v qs => exact ⟨⟨ha, hb⟩, q _ (eqv_tm _ _)⟩
  | node w ps =>
    cases b with
    | var j => exact ⟨⟨ha, hb⟩, q _ (eqv_tm _ _)⟩
    | node v qs => exact ⟨⟨ha, hb⟩, q _ (eqv_tm _ _)⟩
theorem x_cps : (Str.ofString "x").cps.toList = [120] := by rw [str_of]; rfl
theorem open_cps : (Str.ofString "(").cps.toList = [40] := by rw [str_of]; rfl
theorem shut_cps : (Str.ofString ")").cps.toList = [41] := by rw [str_of]; rfl
theorem comma_cps : (Str.ofString ",").cps.toList = [44] := by rw [str_of]; rfl
theorem log_small {k : Nat} (h : k < 10 ^ 10) : ((k : Int).natAbs).log2 < 1920 := by
  rw [Int.natAbs_natCast]
  by_cases z : k = 0
  · subst z; decide
  · exact (Nat.log2_lt z).mpr (Nat.lt_of_lt_of_le h (Nat.le_trans (by decide : 10 ^ 10 ≤ 2 ^ 40) (Nat.pow_le_pow_right (by decide) (by decide))))
theorem sum_wr {cs : List (Str × Nat)} {m : Nat} (ok : Cf.ConsOk cs) (hm : m ≤ 10 ^ 10) : ∀ ps : List Tm, WfTs cs m ps → (ps.map fun x => (wr x).length).sum + ps.length ≤ 15 * Tm.sizes ps
  | [], _ => Nat.le_refl 0
  | p :: ps, h => by
    have a := wr_len ok hm p h.1
    have b := sum_wr ok hm ps h.2
    rw [List.map_cons, List.sum_cons, List.length_cons]
    show _ ≤ 15 * (p.size + Tm.sizes ps)
    omega
theorem m_write {cs : List (Str × Nat)} {m : Nat} (ok : Cf.ConsOk cs) (hm : m ≤ 10 ^ 10) : ∀ (n : Nat) (t : Tm) (Q : PyData → Prop), t.high ≤ n → WfT cs m t → t.size ≤ 2 ^ 19 → Q (.str (wrS t)) → m_p_write_term n [tmD t] Q
  | 0, t, _, h, _, _, _ => by have := t.high_pos; omega
  | n + 1, t, Q, h, hw, hs, q => by
    show runQ 2 (b_p_write_term (m_p_write_term n)) [tmD t] Q
    simp only [b_p_write_term]
    cases t with
    | var i =>
      obtain ⟨k, rfl, hk⟩ := hw
      have l1 := dg_len (n := k) (by omega)
      have e1 : (Str.ofString (toString (k : Int))).cps.toList = dg (k : Int) := str_of _
      have e2 : Str.empty ++ Str.ofString "x" ++ (Str.ofString (toString (k : Int))) = wrS (.var (k : Int)) := str_ext (by rw [str_app, str_app, x_cps, e1]; rfl)
      simp only [tmD]
      walk_at "wp"
      refine ⟨?_, ?_, ?_, ?_⟩
      · rw [str_len, str_app, x_cps]; show 0 + 1 ≤ sizeLine; decide
      · exact log_small (by omega)
      · rw [e2, str_len, wrS_cps]
        show (dg (k : Int)).length + 1 ≤ sizeLine
        simp only [sizeLine]; omega
      · rw [e2]; exact q
    | node w ps =>
      cases ps with
      | nil =>
        simp only [tmD, tmsD]
        walk_at "wp"
        have e : wrS (.node w []) = w := str_ext rfl
        rw [e] at q
        exact q
      | cons p ps =>
        have hs1 : 1 + (p.size + Tm.sizes ps) ≤ 2 ^ 19 := hs
        have hh : 1 + Tm.highs (p :: ps) ≤ n + 1 := h
        have hl := Tm.sizes_len (p :: ps)
        have hw2 : WfTs cs m (p :: ps) := hw.2
        have hw3 := wfts_iff.mp hw2
        have lw := (ok.word _ hw.1).2.1
        simp only at lw
        simp only [tmD]
        generalize hps : p :: ps = pp at *
        have hsz : Tm.sizes pp ≤ 2 ^ 19 := by rw [← hps]; show p.size + Tm.sizes ps ≤ _; omega
        walk_at "wp"
        rw [tmsD_map]
        have ne : ¬ (decide ((((pp.map tmD).length + 1 : Nat) : Int) = 1) = true) := by
          rw [decide_eq_true_eq, List.length_map, ← hps, List.length_cons]
          omega
        rw [if_neg ne]
        have c1 : (Str.ofString "(").length = 1 := by rw [str_len, open_cps]; rfl
        have c2 : (Str.ofString ")").length = 1 := by rw [str_len, shut_cps]; rfl
        have c3 : (Str.ofString ",").length = 1 := by rw [str_len, comma_cps]; rfl
        have ej : (Txt.join (Str.ofString ",") (pp.map wrS)).length + 1 ≤ 15 * Tm.sizes pp + 1 := by
          rw [str_len]
          have := join_wr p ps
          rw [hps] at this
          have e := congrArg List.length this
          rw [List.length_append, List.length_append, List.length_singleton] at e
          rw [e]
          have w1 := wr_len ok hm p (hw3 p (by rw [← hps]; exact List.mem_cons_self))
          have w2 := wrc_len ok hm ps (wfts_iff.mpr fun x mx => hw3 x (by rw [← hps]; exact List.mem_cons_of_mem _ mx))
          rw [← hps]
          show _ ≤ 15 * (p.size + Tm.sizes ps) + 1
          omega
        have es := sum_wr ok hm pp hw2
        have eq : w ++ Str.ofString "(" ++ Txt.join (Str.ofString ",") (pp.map wrS) ++ Str.ofString ")" = wrS (.node w pp) := by
          refine str_ext ?_
          rw [str_app, str_app, str_app, open_cps, shut_cps, wrS_cps, ← hps, List.append_assoc, join_wr, List.append_assoc]
          rfl
        generalize Str.ofString "(" = so at *
        generalize Str.ofString ")" = sc at *
        generalize Str.ofString "," = sm at *
        refine ⟨by rw [c1]; simp only [sizeLine]; omega, by rw [List.length_map]; simp only [sizeLine]; omega, ?_⟩
        refine lc_of tmD (fun x => some (.str (wrS x))) (fun x mx R r => ?_) ?_
        · walk_at "wp"
          exact up_of (m_write ok hm n x _ (by have := Tm.high_mem mx; omega) (hw3 x mx) (by have := Tm.size_mem mx; omega) r)
        · rw [filterMap_some]
          have em : (pp.map fun x => PyData.str (wrS x)) = (pp.map wrS).map .str := by rw [List.map_map]; rfl
          rw [em, strsW_map]
          have lj : (w ++ so).length = w.length + so.length := by rw [str_len, str_app, List.length_append, str_len, str_len]
          have lj2 : (w ++ so ++ Txt.join sm (pp.map wrS)).length = w.length + so.length + (Txt.join sm (pp.map wrS)).length := by rw [str_len, str_app, List.length_append, ← str_len, ← str_len, lj]
          refine ⟨?_, ?_, ?_, by rw [eq]; exact q⟩
          · rw [c3, List.map_map, List.length_map]
            have : (pp.map ((fun x : Str => x.length) ∘ wrS)) = pp.map fun x => (wr x).length := List.map_congr_left fun x _ => str_len _
            rw [this]
            omega
          · rw [lj, c1]; simp only [sizeLine]; omega
          · rw [lj2, c1, c2]; simp only [sizeLine]; omega
end Lq
namespace Lq
open PySem L2
open Cf (Tm)
local macro_rules | `(tactic| walk_at "wp") => `(tactic| (try simp only [runQ_e, runQP_e, endQ_rt_e, endQ_nx_e, sSeq_e, sNil_e, thenO_nx, thenO_rt, thenO_bk, thenO_ct, thenO_ex, bnd_e, ret_e, gd_e, bad_e, eVar_e, eOwn_e, slV_e, slO_e, eC_e, eOp_e, eTup_e, aNil_e, aCons_e, sSet_e, gN_e, gT_e, gsCons_e, gsNil_e, sRet_e, sIf_e, sExpr_e, tT_e, tTru_e, tNo_e, tBoth_e, tEither_e, eBoth_e, eEither_e, eNo_e, eIf_e, eCall_e, eFn_e, eFnP_e, slP_e, eSl_e, aPart_e, noPart_e, eIsi_e, isiD, eTy_e, tyQ_e, ty_n, ty_b, ty_i, ty_s, ty_l, ty_t, ty_d, eGet1_e, eGet2_e, eDget_e, eDin_e, sDnew_e, sPut_e, slD_e, sNew_e, lLst_e, slL_e, sApp_e, eL_e, sPop_e, sExt_e, sSetIx_e, lList_e, iSeq_e, iCall_e, eNeg_e, eChain_e, eBack_e, sFrz_e, frzR, frzS, sPutT_e, slDT_e, sDnewT_e, ite_ap, sFor_e, fLc_e, fDc_e, eD_e, tAll_e, asB_b, tru_n, tru_b, tru_i, tru_s, tru_l, tru_t, items_l, items_t, intOf_i, len_l, len_t, len_s, list_l, list_t, tuple_l, tuple_t, ix_t, ix_l, ix_s, atW_s, add_i, add_s, add_t, add_l, sub_i, mul_i, mod_i, fdiv_i, neg_i, pow_i, eRg1_e, rgW_e, Int.sub_zero, lt_i, le_i, gt_i, ge_i, lt_s, le_s, is_n, isNot_n, isN_n, isN_b, isN_i, isN_s, isN_l, isN_t, isN_d, eq_ii, eq_ss, eq_bb, eq_is, eq_si, eq_nn, eq_ni, eq_in, eq_ns, eq_sn, eq_tt, eq_ll, ne_ii, ne_ss, ne_bb, ne_is, ne_si, ne_nn, ne_ni, ne_in, ne_ns, ne_sn, ne_tt, ne_ll, sum_l, intsW_of, max_2, min_2, int_i, int_b, rng1_i, rng2_i, sl_t, sl_l, sl_s, back_t, back_l, back_0, keyP_i, keyP_s, keyW_i, keyW_s, kD_i, kD_s, List.map_cons, List.map_nil, List.length_cons, List.length_nil, List.cons_append, List.nil_append, List.replicate_succ, List.replicate_zero, List.getElem?_cons_zero, List.getElem?_cons_succ, List.set_cons_zero, List.set_cons_succ, List.reverse_cons, List.reverse_nil, Nat.zero_add, Nat.reduceSub, Nat.reduceAdd, reduceIte, if_true, if_false, Bool.not_true, Bool.not_false, Bool.true_eq_false, Bool.false_eq_true, ite_true, ite_false, String.reduceEq, ne_eq, not_false_eq_true, not_true_eq_false, reduceCtorEq, true_and, and_true, noOwn, isOwn, wipeR, List.all_cons, List.all_nil, Bool.and_self, at_zero, at_one, at_two, at_three, cut_1, cut_from, cut_from1, cut_upto, decide_true, decide_false, Int.toNat_natCast, upto_len, z_succ, z_succ_pos, z_pred, z_zero, z_zero_pos, List.drop_succ_cons, List.drop_zero, List.isEmpty_cons, List.isEmpty_nil, List.getLast?_concat, List.dropLast_concat, sz_0, sz_1, sz_2, sz_3, sz_4, sz_5, sz_6, sz_7, sz_8, sz_9, sz_10, sz_11, sz_12, sz_13, sz_14, sz_15, sz_16, sz_17, sz_18, sz_19, sz_20, kit_NoneType_bool, kit_NoneType_int, kit_NoneType_str, kit_NoneType_list, kit_NoneType_tuple, kit_bool_bool, kit_bool_int, kit_bool_str, kit_bool_list, kit_bool_tuple, kit_int_bool, kit_int_int, kit_int_str, kit_int_list, kit_int_tuple, kit_str_bool, kit_str_int, kit_str_str, kit_str_list, kit_str_tuple, kit_list_bool, kit_list_int, kit_list_str, kit_list_list, kit_list_tuple, kit_tuple_bool, kit_tuple_int, kit_tuple_str, kit_tuple_list, kit_tuple_tuple, sAugadd, sAugsub, sAug, eDisp_e, ppCons_e, ppNil_e, eListVals_e, lAdd_e, fLcD_e, lZip_e, zipT_e, dictW_e, enumWA_l, enumWA_t, eIsi2_e, runZ_e, ptrs_c, ptrs_n, endZ_rs, endZ_nx, one_gh, thenO_rs, eGh_e, slG_e, ghD_l, ghD_d, ghD_t, zPure_e, zNil_e, zCons_e, zOp_e, zTup_e, zCall_e, zT_e, zNo_e, sRetZ_e, sExprZ_e, sSetZ_e, sIfZ_e, zFn_e, getG1_e, slGh_e, putG1_e, regh_e, zPtrs1_e, eFnN_e, sGPut_e, sGApp_e, gLst_e, gDic_e, gDit_e, zSetd_e, zLc_e, plV_n, plV_c, isPl_u, isPl_v, rest_n, rest_c, eJoined_e, jNil_e, jStr_e, jVal_e, fmtW_i, fmtW_s, eJoin_e, strW_e, eIndex_e, isLst_e, Option.getD_some, slO_d, slO_t, iStr_e, signsW_e, zipWl_e, zipWt_e, enumWl_e, allQl_e, anyQl_e, inS1_e]))
/-! ### join over the mirrors -/
def nmD : Nat → List (Tm × Tm) → List (PyData × PyData)
  | _, [] => []
  | k, x :: r => (.tuple [.str (wrS x.1), .str (wrS x.2)], .int (k : Int)) :: nmD (k + 1) r
def WfP (cs : List (Str × Nat)) (m : Nat) (s : List (Tm × Tm)) : Prop := ∀ y ∈ s, WfT cs m y.1 ∧ WfT cs m y.2
theorem nm_len : ∀ (k : Nat) (s : List (Tm × Tm)), (nmD k s).length = s.length
  | _, [] => rfl
  | k, _ :: r => congrArg (· + 1) (nm_len (k + 1) r)
theorem nm_snoc : ∀ (k : Nat) (s : List (Tm × Tm)) (x : Tm × Tm), nmD k (s ++ [x]) = nmD k s ++ [(.tuple [.str (wrS x.1), .str (wrS x.2)], .int ((k + s.length : Nat) : Int))]
  | k, [], x => rfl
  | k, y :: r, x => by
    show _ :: nmD (k + 1) (r ++ [x]) = _
    rw [nm_snoc (k + 1) r x]
    have : k + 1 + r.length = k + (y :: r).length := by rw [List.length_cons]; omega
    rw [this]; rfl
theorem nm_key {cs : List (Str × Nat)} {m : Nat} (ok : Cf.ConsOk cs) {x y : Tm × Tm} (hx : WfT cs m x.1 ∧ WfT cs m x.2) (hy : WfT cs m y.1 ∧ WfT cs m y.2) : keqb (.tuple [.str (wrS y.1), .str (wrS y.2)]) (.tuple [.str (wrS x.1), .str (wrS x.2)]) = true ↔ y = x := by
  simp only [keqb, keqbs, Bool.and_true, Bool.and_eq_true, decide_eq_true_eq]
  constructor
  · rintro ⟨a, b⟩
    exact Prod.ext (wrS_inj ok hy.1 hx.1 a) (wrS_inj ok hy.2 hx.2 b)
  · rintro rfl; exact ⟨rfl, rfl⟩
theorem nm_look {cs : List (Str × Nat)} {m : Nat} (ok : Cf.ConsOk cs) {x : Tm × Tm} (hx : WfT cs m x.1 ∧ WfT cs m x.2) : ∀ (k : Nat) (s : List (Tm × Tm)), WfP cs m s →
    (x ∈ s → lookP (nmD k s) (.tuple [.str (wrS x.1), .str (wrS x.2)]) = some (.int ((k + ixN' s x : Nat) : Int))) ∧ (x ∉ s → lookP (nmD k s) (.tuple [.str (wrS x.1), .str (wrS x.2)]) = none ∧ (nmD k s).any (fun e => keqb e.1 (.tuple [.str (wrS x.1), .str (wrS x.2)])) = false)
  | k, [], _ => ⟨fun h => by simp at h, fun _ => ⟨rfl, rfl⟩⟩
  | k, y :: r, h => by
    obtain ⟨i1, i2⟩ := nm_look ok hx (k + 1) r fun z m => h z (List.mem_cons_of_mem _ m)
    have hk := nm_key ok hx (h y List.mem_cons_self)
    by_cases e : y = x
    · have hb := hk.mpr e
      refine ⟨fun _ => ?_, fun n => absurd (by rw [e]; exact List.mem_cons_self) n⟩
      simp only [nmD, lookP, List.find?_cons, hb, Option.map_some, ixN']
      rw [if_pos e]; rfl
    · have hb : keqb (.tuple [.str (wrS y.1), .str (wrS y.2)]) (.tuple [.str (wrS x.1), .str (wrS x.2)]) = false := by
        cases hc : keqb (.tuple [.str (wrS y.1), .str (wrS y.2)]) (.tuple [.str (wrS x.1), .str (wrS x.2)]) with
        | false => rfl
        | true => exact absurd (hk.mp hc) e
      refine ⟨fun m => ?_, fun n => ?_⟩
      · have := i1 ((List.mem_cons.mp m).resolve_left fun z => e z.symm)
        unfold lookP at this ⊢
        simp only [nmD, List.find?_cons, hb]
        rw [this]
        simp only [ixN']
        rw [if_neg e]
        congr 2
        omega
      · obtain ⟨a, b⟩ := i2 fun z => n (List.mem_cons_of_mem _ z)
        unfold lookP at a ⊢
        exact ⟨by simp only [nmD, List.find?_cons, hb]; exact a, by simp only [nmD, List.any_cons, hb, Bool.false_or]; exact b⟩
theorem place {cs : List (Str × Nat)} {m : Nat} (ok : Cf.ConsOk cs) (hm : m ≤ 10 ^ 10) {p q : Tm} {s : List (Tm × Tm)} {Q : PyData × List Gh → Prop} (hp : p.high ≤ 12) (hq : q.high ≤ 12) (wp : WfT cs m p) (wq : WfT cs m q) (zp : p.size ≤ 2 ^ 19) (zq : q.size ≤ 2 ^ 19) (ws : WfP cs m s) (hl : s.length ≤ 2 ^ 20)
    (h : Q (.int (ixOf (addN s (p, q)) (p, q)), [.dit (nmD 0 (addN s (p, q)))])) :
    sRetZ (zSetd 2 5 (eTup (aCons (eFn M_p_write_term (aCons (eVar 0) aNil)) (aCons (eFn M_p_write_term (aCons (eVar 1) aNil)) aNil))) (eCall lenQ (aCons (eGh 2 5) aNil))) [.val (tmD p), .val (tmD q), .ptr 5, .un, .un, .gh true (.dit (nmD 0 s))] (endZ 5 1 Q) := by
  walk_at "wp"
  unfold M_p_write_term
  refine up_of (m_write ok hm 12 p _ hp wp zp ?_)
  refine up_of (m_write ok hm 12 q _ hq wq zq ?_)
  walk_at "wp"
  obtain ⟨l1, l2⟩ := nm_look ok (x := (p, q)) ⟨wp, wq⟩ 0 s ws
  have hlen : lenQ [.dict ((.none, .none) :: nmD 0 s)] = ret (PyData.int (s.length : Int)) := by
    show ret (PyData.int ((nmD 0 s).length : Int)) = _
    rw [nm_len]
  rw [hlen]
  refine ⟨by rw [nm_len]; simp only [sizeLine]; omega, ?_⟩
  refine ⟨(fun z => by cases z), ?_⟩
  by_cases mem : (p, q) ∈ s
  · have e := l1 mem
    simp only at e
    rw [e]
    have ea : addN s (p, q) = s := if_pos mem
    rw [ea] at h
    refine ⟨[.dit (nmD 0 s)], rfl, rfl, ?_⟩
    have e0 : ((0 + ixN' s (p, q) : Nat) : Int) = ixOf s (p, q) := by unfold ixOf; rw [Nat.zero_add]
    show Q (.int ((0 + ixN' s (p, q) : Nat) : Int), _)
    rw [e0]
    exact h
  · obtain ⟨e, e2⟩ := l2 mem
    simp only at e e2
    rw [e]
    have ea : addN s (p, q) = s ++ [(p, q)] := if_neg mem
    have e0 : ixOf (s ++ [(p, q)]) (p, q) = (s.length : Int) := by unfold ixOf; rw [ix_new [] mem]
    have e3 : putP (nmD 0 s) (.tuple [.str (wrS p), .str (wrS q)]) (.int (s.length : Int)) = nmD 0 (s ++ [(p, q)]) := by
      unfold putP
      rw [e2, if_neg Bool.false_ne_true, nm_snoc, Nat.zero_add]
    rw [ea, e0] at h
    refine ⟨[.dit (nmD 0 (s ++ [(p, q)]))], ?_, rfl, h⟩
    show [Sl.gh true (.dit (putP _ _ _))] = _
    rw [e3]
    rfl
theorem same_ar {cs : List (Str × Nat)} (ok : Cf.ConsOk cs) {w : Str} {a b : Nat} (h1 : (w, a) ∈ cs) (h2 : (w, b) ∈ cs) : a = b := by
  obtain ⟨i, hi, e1⟩ := List.getElem_of_mem h1
  obtain ⟨j, hj, e2⟩ := List.getElem_of_mem h2
  have e : (cs.map (·.1))[i]? = (cs.map (·.1))[j]? := by
    rw [List.getElem?_map, List.getElem?_map, List.getElem?_eq_getElem hi, List.getElem?_eq_getElem hj, e1, e2]; rfl
  have ij := (List.getElem?_inj (by rw [List.length_map]; exact hi) ok.nd).mp e
  subst ij
  rw [e1] at e2
  cases e2
  rfl
mutual
theorem prs_wf {cs : List (Str × Nat)} {m : Nat} : ∀ p q : Tm, WfT cs m p → WfT cs m q → WfP cs m (prs p q)
  | .var n, q, hp, hq, y, hy => by
    have hy : y ∈ [(Tm.var n, q)] := hy
    rw [List.mem_singleton.mp hy]; exact ⟨hp, hq⟩
  | .node w ps, .var k, hp, hq, y, hy => by
    have hy : y ∈ [(Tm.node w ps, Tm.var k)] := hy
    rw [List.mem_singleton.mp hy]; exact ⟨hp, hq⟩
  | .node w ps, .node v qs, hp, hq, y, hy => by
    have hy : y ∈ prs (.node w ps) (.node v qs) := hy
    simp only [prs] at hy
    split at hy
    · exact prss_wf ps qs hp.2 hq.2 y hy
    · rw [List.mem_singleton.mp hy]; exact ⟨hp, hq⟩
theorem prss_wf {cs : List (Str × Nat)} {m : Nat} : ∀ ps qs : List Tm, WfTs cs m ps → WfTs cs m qs → WfP cs m (prss ps qs)
  | [], _, _, _, y, hy => by
    have hy : y ∈ ([] : List (Tm × Tm)) := hy
    cases hy
  | _ :: _, [], _, _, y, hy => by
    have hy : y ∈ ([] : List (Tm × Tm)) := hy
    cases hy
  | p :: ps, q :: qs, hp, hq, y, hy => by
    have hy : y ∈ prs p q ++ prss ps qs := hy
    rcases List.mem_append.mp hy with h | h
    · exact prs_wf p q hp.1 hq.1 y h
    · exact prss_wf ps qs hp.2 hq.2 y h
end
theorem wfp_add {cs : List (Str × Nat)} {m : Nat} {s xs : List (Tm × Tm)} (h : WfP cs m s) (k : WfP cs m xs) : WfP cs m (addAll s xs) := fun y hy => ((addAll_mem xs s y).mp hy).elim (h y) (k y)
/-- after some parts -/
theorem step_phi {ps qs : List Tm} {p q : Tm} {i : Nat} (hp : ps[i]? = some p) (hq : qs[i]? = some q) (s : List (Tm × Tm)) :
    addAll s (((List.zipWith prs ps qs).take (i + 1)).flatten) = addAll (addAll s (((List.zipWith prs ps qs).take i).flatten)) (prs p q) ∧
    (List.zipWith (phi (ixOf (addAll s (((List.zipWith prs ps qs).take (i + 1)).flatten)))) ps qs).take (i + 1) = (List.zipWith (phi (ixOf (addAll s (((List.zipWith prs ps qs).take i).flatten)))) ps qs).take i ++ [phi (ixOf (addAll s (((List.zipWith prs ps qs).take (i + 1)).flatten))) p q] := by
  have e1 : (List.zipWith prs ps qs)[i]? = some (prs p q) := by simp [List.getElem?_zipWith, hp, hq]
  have e2 : addAll s (((List.zipWith prs ps qs).take (i + 1)).flatten) = addAll (addAll s (((List.zipWith prs ps qs).take i).flatten)) (prs p q) := by
    rw [take_next e1, List.flatten_append, List.flatten_singleton, addAll_app]
  refine ⟨e2, ?_⟩
  rw [e2]
  generalize hs1 : addAll s (((List.zipWith prs ps qs).take i).flatten) = s1
  have e3 : ∀ ix : Tm × Tm → Int, (List.zipWith (phi ix) ps qs)[i]? = some (phi ix p q) := fun ix => by simp [List.getElem?_zipWith, hp, hq]
  rw [take_next (e3 _)]
  congr 1
  rw [List.take_zipWith, List.take_zipWith, ← phis_zip, ← phis_zip]
  refine phis_congr _ _ fun x hx => ix_more ?_
  rw [← hs1]
  refine (addAll_mem _ _ _).mpr (.inr ?_)
  rw [prss_zip, ← List.take_zipWith] at hx
  exact hx
theorem m_joined {cs : List (Str × Nat)} {m : Nat} (ok : Cf.ConsOk cs) (hm : m ≤ 10 ^ 10) : ∀ (n : Nat) (p q : Tm) (s : List (Tm × Tm)) (Q : PyData × List Gh → Prop), p.high ≤ n → p.high ≤ 12 → q.high ≤ 12 → WfT cs m p → WfT cs m q → p.size ≤ 2 ^ 18 → q.size ≤ 2 ^ 18 → WfP cs m s → s.length + p.size ≤ 2 ^ 20 →
    Q (tmD (phi (ixOf (addAll s (prs p q))) p q), [.dit (nmD 0 (addAll s (prs p q)))]) → m_p_joined M_p_write_term n [tmD p, tmD q] [.dit (nmD 0 s)] Q
  | 0, p, _, _, _, h, _, _, _, _, _, _, _, _, _ => by have := p.high_pos; omega
  | n + 1, p, q, s, Q, h, hp, hq, wp, wq, zp, zq, ws, hl, r => by
    show runZ 6 (b_p_joined (m_p_joined M_p_write_term n) M_p_write_term) [tmD p, tmD q] [.dit (nmD 0 s)] Q
    simp only [b_p_joined]
    have pl := place (Q := Q) ok hm hp hq wp wq (by omega) (by omega) ws (by omega)
    generalize hL : sRetZ (zSetd 2 5 (eTup (aCons (eFn M_p_write_term (aCons (eVar 0) aNil)) (aCons (eFn M_p_write_term (aCons (eVar 1) aNil)) aNil))) (eCall lenQ (aCons (eGh 2 5) aNil))) = L at pl ⊢
    have one : prs p q = [(p, q)] → phi (ixOf (addAll s (prs p q))) p q = .var (ixOf (addAll s (prs p q)) (p, q)) → L [.val (tmD p), .val (tmD q), .ptr 5, .un, .un, .gh true (.dit (nmD 0 s))] (endZ 5 1 Q) := fun e1 e2 => by
      refine pl ?_
      rw [e2, e1] at r
      exact r
    cases p with
    | var i =>
      simp only [tmD] at one ⊢
      walk_at "wp"
      exact one (by simp only [prs]) (by simp only [phi])
    | node w ps =>
      cases q with
      | var j =>
        simp only [tmD] at one ⊢
        walk_at "wp"
        exact one (by simp only [prs]) (by simp only [phi])
      | node v qs =>
        simp only [tmD] at one ⊢
        walk_at "wp"
        by_cases hwv : w = v
        · subst hwv
          have har := same_ar ok wp.1 wq.1
          have hh : 1 + Tm.highs ps ≤ n + 1 := h
          have hp' : 1 + Tm.highs ps ≤ 12 := hp
          have hq' : 1 + Tm.highs qs ≤ 12 := hq
          have zp' : 1 + Tm.sizes ps ≤ 2 ^ 18 := zp
          have zq' : 1 + Tm.sizes qs ≤ 2 ^ 18 := zq
          have hl' : s.length + (1 + Tm.sizes ps) ≤ 2 ^ 20 := hl
          have lp := Tm.sizes_len ps
          have wps := wfts_iff.mp wp.2
          have wqs := wfts_iff.mp wq.2
          simp only [prs, phi, har, and_self, if_true, prss_zip, phis_zip] at r
          rw [if_pos (decide_eq_true rfl)]
          have zl : (zipD (tmsD ps) (tmsD qs)).length = ps.length := by rw [zipD_len, tmsD_map, tmsD_map, List.length_map, List.length_map, har, Nat.min_self]
          refine ⟨by rw [zl]; simp only [sizeLine]; omega, ?_⟩
          generalize hD : PyData.tuple (PyData.str w :: tmsD ps) = dp
          generalize hE : PyData.tuple (PyData.str w :: tmsD qs) = dq
          have full : ∀ {α : Type} (xs : List α), xs.length = ps.length → xs.take ps.length = xs := fun xs e => by rw [← e, List.take_length]
          have zl2 : ∀ {α : Type} (f : Tm → Tm → α), (List.zipWith f ps qs).length = ps.length := fun f => by rw [List.length_zipWith, har, Nat.min_self]
          refine lcz_i (st := fun a : List (Tm × Tm) => [.val dp, .val dq, .ptr 5, .un, .un, .gh true (.dit (nmD 0 a))])
            (I := fun i ys a => a = addAll s (((List.zipWith prs ps qs).take i).flatten) ∧ ys = ((List.zipWith (phi (ixOf a)) ps qs).take i).map tmD) ?_ ?_ (a := s) ⟨by simp [addAll], by simp⟩
          · rintro i d ys a hd ⟨ha, hy⟩ R hR
            have hi : i < ps.length := by have := (List.getElem?_eq_some_iff.mp hd).1; omega
            have gp := List.getElem?_eq_getElem hi
            have gq := List.getElem?_eq_getElem (show i < qs.length by omega)
            generalize ps[i] = p1 at gp
            generalize qs[i] = q1 at gq
            have mp := List.mem_of_getElem? gp
            have mq := List.mem_of_getElem? gq
            have ed : d = .tuple [tmD p1, tmD q1] := by
              rw [zipD_get (x := tmD p1) (y := tmD q1) (by rw [tmsD_map, List.getElem?_map, gp]; rfl) (by rw [tmsD_map, List.getElem?_map, gq]; rfl)] at hd
              exact (Option.some.inj hd).symm
            subst ed
            obtain ⟨s1, s2⟩ := step_phi gp gq s
            have hsz := Tm.size_mem mp
            have lens : a.length + p1.size ≤ 2 ^ 20 := by
              have k1 := addAll_len (((List.zipWith prs ps qs).take i).flatten) s
              rw [← ha] at k1
              have k2 := prss_len (ps.take i) (qs.take i)
              rw [prss_zip, ← List.take_zipWith] at k2
              have k3 : Tm.sizes (ps.take (i + 1)) + Tm.sizes (ps.drop (i + 1)) = Tm.sizes ps := by rw [← Tm.sizes_append, List.take_append_drop]
              rw [take_next gp, Tm.sizes_append] at k3
              have k4 : Tm.sizes [p1] = p1.size := by show p1.size + 0 = _; omega
              omega
            have wa : WfP cs m a := by
              rw [ha]
              refine wfp_add ws fun y hy' => ?_
              rw [List.take_zipWith, ← prss_zip] at hy'
              exact prss_wf _ _ (wfts_iff.mpr fun x mx => wps x (List.mem_of_mem_take mx)) (wfts_iff.mpr fun x mx => wqs x (List.mem_of_mem_take mx)) y hy'
            walk_at "wp"
            refine up_of (m_joined ok hm n p1 q1 a _ (by have := Tm.high_mem mp; omega) (by have := Tm.high_mem mp; omega) (by have := Tm.high_mem mq; omega) (wps p1 mp) (wqs q1 mq) (by omega) (by have := Tm.size_mem mq; omega) wa lens ?_)
            walk_at "wp"
            refine hR _ (addAll a (prs p1 q1)) _ ⟨?_, ?_⟩ (by rfl)
            · rw [ha]; exact s1.symm
            · rw [ha, ← s1, s2, List.map_append, hy, ha]; rfl
          · rintro ys a ⟨ha, hy⟩
            rw [zl] at ha hy
            rw [full _ (zl2 _)] at ha hy
            have ly : ys.length = ps.length := by rw [hy, List.length_map, zl2]
            refine ⟨by rw [ly]; simp only [sizeLine]; omega, [.dit (nmD 0 a)], rfl, rfl, ?_⟩
            rw [hy, ha]
            rw [tmD, tmsD_map] at r
            exact r
        · rw [if_neg (by rw [decide_eq_true_eq]; exact hwv)]
          exact one (by simp only [prs]; rw [if_neg fun z => hwv z.1]) (by simp only [phi]; rw [if_neg fun z => hwv z.1])
end Lq
namespace Lq
open PySem L2
open Cf (Tm)
local macro_rules | `(tactic| walk_at "wp") => `(tactic| (try simp only [runQ_e, runQP_e, endQ_rt_e, endQ_nx_e, sSeq_e, sNil_e, thenO_nx, thenO_rt, thenO_bk, thenO_ct, thenO_ex, bnd_e, ret_e, gd_e, bad_e, eVar_e, eOwn_e, slV_e, slO_e, eC_e, eOp_e, eTup_e, aNil_e, aCons_e, sSet_e, gN_e, gT_e, gsCons_e, gsNil_e, sRet_e, sIf_e, sExpr_e, tT_e, tTru_e, tNo_e, tBoth_e, tEither_e, eBoth_e, eEither_e, eNo_e, eIf_e, eCall_e, eFn_e, eFnP_e, slP_e, eSl_e, aPart_e, noPart_e, eIsi_e, isiD, eTy_e, tyQ_e, ty_n, ty_b, ty_i, ty_s, ty_l, ty_t, ty_d, eGet1_e, eGet2_e, eDget_e, eDin_e, sDnew_e, sPut_e, slD_e, sNew_e, lLst_e, slL_e, sApp_e, eL_e, sPop_e, sExt_e, sSetIx_e, lList_e, iSeq_e, iCall_e, eNeg_e, eChain_e, eBack_e, sFrz_e, frzR, frzS, sPutT_e, slDT_e, sDnewT_e, ite_ap, sFor_e, fLc_e, fDc_e, eD_e, tAll_e, asB_b, tru_n, tru_b, tru_i, tru_s, tru_l, tru_t, items_l, items_t, intOf_i, len_l, len_t, len_s, list_l, list_t, tuple_l, tuple_t, ix_t, ix_l, ix_s, atW_s, add_i, add_s, add_t, add_l, sub_i, mul_i, mod_i, fdiv_i, neg_i, pow_i, eRg1_e, rgW_e, Int.sub_zero, lt_i, le_i, gt_i, ge_i, lt_s, le_s, is_n, isNot_n, isN_n, isN_b, isN_i, isN_s, isN_l, isN_t, isN_d, eq_ii, eq_ss, eq_bb, eq_is, eq_si, eq_nn, eq_ni, eq_in, eq_ns, eq_sn, eq_tt, eq_ll, ne_ii, ne_ss, ne_bb, ne_is, ne_si, ne_nn, ne_ni, ne_in, ne_ns, ne_sn, ne_tt, ne_ll, sum_l, intsW_of, max_2, min_2, int_i, int_b, rng1_i, rng2_i, sl_t, sl_l, sl_s, back_t, back_l, back_0, keyP_i, keyP_s, keyW_i, keyW_s, kD_i, kD_s, List.map_cons, List.map_nil, List.length_cons, List.length_nil, List.cons_append, List.nil_append, List.replicate_succ, List.replicate_zero, List.getElem?_cons_zero, List.getElem?_cons_succ, List.set_cons_zero, List.set_cons_succ, List.reverse_cons, List.reverse_nil, Nat.zero_add, Nat.reduceSub, Nat.reduceAdd, reduceIte, if_true, if_false, Bool.not_true, Bool.not_false, Bool.true_eq_false, Bool.false_eq_true, ite_true, ite_false, String.reduceEq, ne_eq, not_false_eq_true, not_true_eq_false, reduceCtorEq, true_and, and_true, noOwn, isOwn, wipeR, List.all_cons, List.all_nil, Bool.and_self, at_zero, at_one, at_two, at_three, cut_1, cut_from, cut_from1, cut_upto, decide_true, decide_false, Int.toNat_natCast, upto_len, z_succ, z_succ_pos, z_pred, z_zero, z_zero_pos, List.drop_succ_cons, List.drop_zero, List.isEmpty_cons, List.isEmpty_nil, List.getLast?_concat, List.dropLast_concat, sz_0, sz_1, sz_2, sz_3, sz_4, sz_5, sz_6, sz_7, sz_8, sz_9, sz_10, sz_11, sz_12, sz_13, sz_14, sz_15, sz_16, sz_17, sz_18, sz_19, sz_20, kit_NoneType_bool, kit_NoneType_int, kit_NoneType_str, kit_NoneType_list, kit_NoneType_tuple, kit_bool_bool, kit_bool_int, kit_bool_str, kit_bool_list, kit_bool_tuple, kit_int_bool, kit_int_int, kit_int_str, kit_int_list, kit_int_tuple, kit_str_bool, kit_str_int, kit_str_str, kit_str_list, kit_str_tuple, kit_list_bool, kit_list_int, kit_list_str, kit_list_list, kit_list_tuple, kit_tuple_bool, kit_tuple_int, kit_tuple_str, kit_tuple_list, kit_tuple_tuple, sAugadd, sAugsub, sAug, eDisp_e, ppCons_e, ppNil_e, eListVals_e, lAdd_e, fLcD_e, lZip_e, zipT_e, dictW_e, enumWA_l, enumWA_t, eIsi2_e, runZ_e, ptrs_c, ptrs_n, endZ_rs, endZ_nx, one_gh, thenO_rs, eGh_e, slG_e, ghD_l, ghD_d, ghD_t, zPure_e, zNil_e, zCons_e, zOp_e, zTup_e, zCall_e, zT_e, zNo_e, sRetZ_e, sExprZ_e, sSetZ_e, sIfZ_e, zFn_e, getG1_e, slGh_e, putG1_e, regh_e, zPtrs1_e, eFnN_e, sGPut_e, sGApp_e, gLst_e, gDic_e, gDit_e, zSetd_e, zLc_e, plV_n, plV_c, isPl_u, isPl_v, rest_n, rest_c, eJoined_e, jNil_e, jStr_e, jVal_e, fmtW_i, fmtW_s, eJoin_e, strW_e, eIndex_e, isLst_e, Option.getD_some, slO_d, slO_t, iStr_e, signsW_e, zipWl_e, zipWt_e, enumWl_e, allQl_e, anyQl_e, inS1_e]))
/-! ### the law's common form -/
def prD (s : List (Tm × Tm)) : List PyData := s.map fun x => .tuple [tmD x.1, tmD x.2]
def HiP (s : List (Tm × Tm)) : Prop := ∀ y ∈ s, y.1.high ≤ 50 ∧ y.2.high ≤ 50
mutual
theorem prs_high : ∀ p q : Tm, ∀ y ∈ prs p q, y.1.high ≤ p.high ∧ y.2.high ≤ q.high
  | .var n, q, y, hy => by
    have hy : y ∈ [(Tm.var n, q)] := hy
    rw [List.mem_singleton.mp hy]; exact ⟨Nat.le_refl _, Nat.le_refl _⟩
  | .node w ps, .var k, y, hy => by
    have hy : y ∈ [(Tm.node w ps, Tm.var k)] := hy
    rw [List.mem_singleton.mp hy]; exact ⟨Nat.le_refl _, Nat.le_refl _⟩
  | .node w ps, .node v qs, y, hy => by
    have hy : y ∈ prs (.node w ps) (.node v qs) := hy
    simp only [prs] at hy
    split at hy
    · have := prss_high ps qs y hy
      show y.1.high ≤ 1 + Tm.highs ps ∧ y.2.high ≤ 1 + Tm.highs qs
      omega
    · rw [List.mem_singleton.mp hy]; exact ⟨Nat.le_refl _, Nat.le_refl _⟩
theorem prss_high : ∀ ps qs : List Tm, ∀ y ∈ prss ps qs, y.1.high ≤ Tm.highs ps ∧ y.2.high ≤ Tm.highs qs
  | [], _, y, hy => by
    have hy : y ∈ ([] : List (Tm × Tm)) := hy
    cases hy
  | _ :: _, [], y, hy => by
    have hy : y ∈ ([] : List (Tm × Tm)) := hy
    cases hy
  | p :: ps, q :: qs, y, hy => by
    have hy : y ∈ prs p q ++ prss ps qs := hy
    show y.1.high ≤ max p.high (Tm.highs ps) ∧ y.2.high ≤ max q.high (Tm.highs qs)
    rcases List.mem_append.mp hy with h | h
    · have := prs_high p q y h; omega
    · have := prss_high ps qs y h; omega
end
theorem highs_le {b : Nat} : ∀ ts : List Tm, (∀ t ∈ ts, t.high ≤ b) → Tm.highs ts ≤ b
  | [], _ => Nat.zero_le _
  | t :: ts, h => by
    have a := h t List.mem_cons_self
    have c := highs_le ts fun x m => h x (List.mem_cons_of_mem _ m)
    show max t.high (Tm.highs ts) ≤ b
    omega
theorem ix_first {x y : Tm × Tm} : ∀ {s : List (Tm × Tm)} {k : Nat}, k < ixN' s x → s[k]? = some y → y ≠ x
  | [], k, h, _ => by simp [ixN'] at h
  | z :: s, k, h, e => by
    simp only [ixN'] at h
    split at h
    · omega
    · rename_i ne
      cases k with
      | zero => simp at e; subst e; exact ne
      | succ k => exact ix_first (s := s) (k := k) (by omega) (by simpa using e)
theorem eqv_pr (x y : Tm × Tm) : PyData.eqv (.tuple [tmD x.1, tmD x.2]) (.tuple [tmD y.1, tmD y.2]) = true ↔ x = y := by
  simp only [PyData.eqv, PyData.eqvAll, Bool.and_true, Bool.and_eq_true, eqv_tm]
  exact ⟨fun ⟨a, b⟩ => Prod.ext a b, fun h => by rw [h]; exact ⟨rfl, rfl⟩⟩
theorem shaped_pr {cs : List (Str × Nat)} {m : Nat} (ok : Cf.ConsOk cs) {p q : Tm} (hp : WfT cs m p) (hq : WfT cs m q) (h1 : p.high ≤ 50) (h2 : q.high ≤ 50) : PyData.canLay0 (.tuple [tmD p, tmD q]) = true ∧ PyData.depth (.tuple [tmD p, tmD q]) ≤ 51 := by
  obtain ⟨a, b⟩ := lay_tm ok p hp
  obtain ⟨c, d⟩ := lay_tm ok q hq
  refine ⟨by simp [PyData.canLay0, PyData.canLayAll0, a, c], ?_⟩
  simp only [PyData.depth, PyData.depthAll]
  omega
theorem shaped_prs {cs : List (Str × Nat)} {m : Nat} (ok : Cf.ConsOk cs) {s : List (Tm × Tm)} (hw : WfP cs m s) (hh : HiP s) : SeqAt.shaped (.list (prD s)) = true := by
  have key : PyData.canLayAll0 (prD s) = true ∧ PyData.depthAll (prD s) ≤ 51 := by
    induction s with
    | nil => exact ⟨rfl, Nat.zero_le _⟩
    | cons x s ih =>
      obtain ⟨a, b⟩ := ih (fun y m => hw y (List.mem_cons_of_mem _ m)) fun y m => hh y (List.mem_cons_of_mem _ m)
      obtain ⟨h1, h2⟩ := hw x List.mem_cons_self
      obtain ⟨h3, h4⟩ := hh x List.mem_cons_self
      obtain ⟨c, d⟩ := shaped_pr ok h1 h2 h3 h4
      exact ⟨by show (PyData.canLay0 (.tuple [tmD x.1, tmD x.2]) && PyData.canLayAll0 (prD s)) = true; rw [c, a]; rfl, by show max (PyData.depth (.tuple [tmD x.1, tmD x.2])) (PyData.depthAll (prD s)) ≤ 51; omega⟩
  exact Bool.and_eq_true_iff.mpr ⟨key.1, decide_eq_true (by show PyData.depthAll (prD s) + 1 ≤ 64; have := key.2; omega)⟩
theorem in_pr {cs : List (Str × Nat)} {m : Nat} (ok : Cf.ConsOk cs) {p q : Tm} {s : List (Tm × Tm)} {R : PyData → Prop} (hp : WfT cs m p) (hq : WfT cs m q) (h1 : p.high ≤ 50) (h2 : q.high ≤ 50) (hw : WfP cs m s) (hh : HiP s) (r : ∀ b : Bool, (b = true ↔ (p, q) ∉ s) → R (.bool b)) : inQ true (.tuple [tmD p, tmD q]) (.list (prD s)) R := by
  obtain ⟨a, b⟩ := shaped_pr ok hp hq h1 h2
  have sh : SeqAt.shaped (.tuple [tmD p, tmD q]) = true := by
    unfold SeqAt.shaped
    simp only [a, Bool.true_and, decide_eq_true_eq]
    omega
  refine ⟨⟨sh, shaped_prs ok hw hh⟩, r _ ?_⟩
  show (!(prD s).any fun z => PyData.eqv z (.tuple [tmD p, tmD q])) = true ↔ _
  rw [Bool.not_eq_true', ← Bool.not_eq_true, List.any_eq_true]
  constructor
  · intro n mem
    exact n ⟨_, List.mem_map.mpr ⟨_, mem, rfl⟩, (eqv_pr (p, q) (p, q)).mpr rfl⟩
  · rintro n ⟨z, hz, e⟩
    obtain ⟨y, hy, rfl⟩ := List.mem_map.mp hz
    have := (eqv_pr y (p, q)).mp e
    rw [this] at hy
    exact n hy
theorem place_l {cs : List (Str × Nat)} {m : Nat} (ok : Cf.ConsOk cs) {p q : Tm} {s : List (Tm × Tm)} {Q : PyData × List Gh → Prop} (hp : p.high ≤ 50) (hq : q.high ≤ 50) (wp : WfT cs m p) (wq : WfT cs m q) (ws : WfP cs m s) (hs : HiP s) (hl : s.length ≤ 2 ^ 20)
    (h : Q (.int (ixOf (addN s (p, q)) (p, q)), [.lst (prD (addN s (p, q)))])) :
    (sSeq (sIf (tT (eOp (inQ true) (eTup (aCons (eVar 0) (aCons (eVar 1) aNil))) (eGh 2 4))) (sGApp 2 4 (eTup (aCons (eVar 0) (aCons (eVar 1) aNil)))) sNil)
  (sRetZ (zPure (eIndex (eGh 2 4) (eTup (aCons (eVar 0) (aCons (eVar 1) aNil))))))) [.val (tmD p), .val (tmD q), .ptr 4, .un, .gh true (.lst (prD s))] (endZ 4 1 Q) := by
  walk_at "wp"
  refine in_pr ok wp wq hp hq ws hs fun b hb => ?_
  have fin : ∀ s' : List (Tm × Tm), s' = addN s (p, q) → indexW (.list (prD s')) (.tuple [tmD p, tmD q]) fun d => Q (d, [.lst (prD s')]) := fun s' e => by
    have mem : (p, q) ∈ s' := by rw [e]; exact addN_mem.mpr (.inr rfl)
    have ws' : WfP cs m s' := fun y hy => by
      rw [e] at hy
      rcases addN_mem.mp hy with z | z
      · exact ws y z
      · rw [z]; exact ⟨wp, wq⟩
    have hs' : HiP s' := fun y hy => by
      rw [e] at hy
      rcases addN_mem.mp hy with z | z
      · exact hs y z
      · rw [z]; exact ⟨hp, hq⟩
    obtain ⟨a, b⟩ := shaped_pr ok wp wq hp hq
    refine ⟨ixN' s' (p, q), .tuple [tmD p, tmD q], ⟨shaped_prs ok ws' hs', ?_, ?_, (eqv_pr (p, q) (p, q)).mpr rfl, fun k z hk hz => ?_⟩, ?_⟩
    · unfold SeqAt.shaped
      simp only [a, Bool.true_and, decide_eq_true_eq]
      omega
    · unfold prD
      rw [List.getElem?_map, ix_get mem]; rfl
    · unfold prD at hz
      rw [List.getElem?_map] at hz
      obtain ⟨y, hy, rfl⟩ := Option.map_eq_some_iff.mp hz
      have ne := ix_first hk hy
      cases hc : PyData.eqv (.tuple [tmD y.1, tmD y.2]) (.tuple [tmD p, tmD q]) with
      | false => rfl
      | true => exact absurd ((eqv_pr y (p, q)).mp hc) ne
    · rw [e]
      exact h
  cases b with
  | true =>
    have nm := hb.mp rfl
    walk_at "wp"
    have e : prD s ++ [.tuple [tmD p, tmD q]] = prD (addN s (p, q)) := by
      rw [show addN s (p, q) = s ++ [(p, q)] from if_neg nm]
      unfold prD
      rw [List.map_append]; rfl
    rw [e]
    refine ⟨by unfold prD; rw [List.length_map]; simp only [sizeLine]; omega, fin _ rfl⟩
  | false =>
    have mem : (p, q) ∈ s := Classical.byContradiction fun z => by have := hb.mpr z; cases this
    walk_at "wp"
    exact fin s (if_pos mem).symm
theorem m_llgg {cs : List (Str × Nat)} {m : Nat} (ok : Cf.ConsOk cs) : ∀ (n : Nat) (p q : Tm) (s : List (Tm × Tm)) (Q : PyData × List Gh → Prop), p.high ≤ n → p.high ≤ 50 → q.high ≤ 50 → WfT cs m p → WfT cs m q → p.size ≤ 2 ^ 18 → q.size ≤ 2 ^ 18 → WfP cs m s → HiP s → s.length + p.size ≤ 2 ^ 20 →
    Q (tmD (phi (ixOf (addAll s (prs p q))) p q), [.lst (prD (addAll s (prs p q)))]) → m_l_lgg M_l_is_integer n [tmD p, tmD q] [.lst (prD s)] Q
  | 0, p, _, _, _, h, _, _, _, _, _, _, _, _, _, _ => by have := p.high_pos; omega
  | n + 1, p, q, s, Q, h, hp, hq, wp, wq, zp, zq, ws, his, hl, r => by
    show runZ 5 (b_l_lgg M_l_is_integer (m_l_lgg M_l_is_integer n)) [tmD p, tmD q] [.lst (prD s)] Q
    simp only [b_l_lgg]
    have pl := place_l (Q := Q) ok hp hq wp wq ws his (by omega)
    generalize hL : (sSeq (sIf (tT (eOp (inQ true) (eTup (aCons (eVar 0) (aCons (eVar 1) aNil))) (eGh 2 4))) (sGApp 2 4 (eTup (aCons (eVar 0) (aCons (eVar 1) aNil)))) sNil)
      (sRetZ (zPure (eIndex (eGh 2 4) (eTup (aCons (eVar 0) (aCons (eVar 1) aNil))))))) = L at pl ⊢
    have one : prs p q = [(p, q)] → phi (ixOf (addAll s (prs p q))) p q = .var (ixOf (addAll s (prs p q)) (p, q)) → L [.val (tmD p), .val (tmD q), .ptr 4, .un, .gh true (.lst (prD s))] (endZ 4 1 Q) := fun e1 e2 => by
      refine pl ?_
      rw [e2, e1] at r
      exact r
    cases p with
    | var i =>
      walk_at "wp"
      refine up_of (m_isI_tm ?_)
      walk_at "wp"
      exact one (by simp only [prs]) (by simp only [phi])
    | node w ps =>
      cases q with
      | var j =>
        walk_at "wp"
        refine up_of (m_isI_tm ?_)
        walk_at "wp"
        refine up_of (m_isI_tm ?_)
        walk_at "wp"
        exact one (by simp only [prs]) (by simp only [phi])
      | node v qs =>
        walk_at "wp"
        refine up_of (m_isI_tm ?_)
        walk_at "wp"
        refine up_of (m_isI_tm ?_)
        walk_at "wp"
        simp only [tmD] at one ⊢
        walk_at "wp"
        have lps : (tmsD ps).length = ps.length := by rw [tmsD_map, List.length_map]
        have lqs : (tmsD qs).length = qs.length := by rw [tmsD_map, List.length_map]
        have away : ¬ (w = v ∧ ps.length = qs.length) → L [.val (.tuple (.str w :: tmsD ps)), .val (.tuple (.str v :: tmsD qs)), .ptr 4, .un, .gh true (.lst (prD s))] (endZ 4 1 Q) := fun ne => one (by simp only [prs]; rw [if_neg ne]) (by simp only [phi]; rw [if_neg ne])
        by_cases hwv : w = v
        · rw [if_pos (decide_eq_true hwv)]
          by_cases har : ps.length = qs.length
          · rw [if_pos (decide_eq_true (by rw [lps, lqs, har]))]
            subst hwv
            have hh : 1 + Tm.highs ps ≤ n + 1 := h
            have hp' : 1 + Tm.highs ps ≤ 50 := hp
            have hq' : 1 + Tm.highs qs ≤ 50 := hq
            have zp' : 1 + Tm.sizes ps ≤ 2 ^ 18 := zp
            have zq' : 1 + Tm.sizes qs ≤ 2 ^ 18 := zq
            have hl' : s.length + (1 + Tm.sizes ps) ≤ 2 ^ 20 := hl
            have lp := Tm.sizes_len ps
            have wps := wfts_iff.mp wp.2
            have wqs := wfts_iff.mp wq.2
            simp only [prs, phi, har, and_self, if_true, prss_zip, phis_zip] at r
            refine ⟨by rw [lps]; omega, by rw [lps]; simp only [sizeLine]; omega, ?_⟩
            rw [lps]
            have a1 : ∀ (x : PyData) (xs : List PyData) (k : Nat), atI (x :: xs) (1 + (k : Int)) = xs[k]? := fun x xs k => by rw [Int.add_comm, at_succ, at_nat]
            have full : ∀ {α : Type} (xs : List α), xs.length = ps.length → xs.take ps.length = xs := fun xs e => by rw [← e, List.take_length]
            have zl2 : ∀ {α : Type} (f : Tm → Tm → α), (List.zipWith f ps qs).length = ps.length := fun f => by rw [List.length_zipWith, har, Nat.min_self]
            refine lcz_i (st := fun a : List (Tm × Tm) => [.val (.tuple (.str w :: tmsD ps)), .val (.tuple (.str w :: tmsD qs)), .ptr 4, .un, .gh true (.lst (prD a))])
              (I := fun i ys a => a = addAll s (((List.zipWith prs ps qs).take i).flatten) ∧ ys = ((List.zipWith (phi (ixOf a)) ps qs).take i).map tmD) ?_ ?_ (a := s) ⟨by simp [addAll], by simp⟩
            · rintro i d ys a hd ⟨ha, hy⟩ R hR
              have hi : i < ps.length := by have := (List.getElem?_eq_some_iff.mp hd).1; rw [upto_len] at this; exact this
              have gp := List.getElem?_eq_getElem hi
              have gq := List.getElem?_eq_getElem (show i < qs.length by omega)
              generalize ps[i] = p1 at gp
              generalize qs[i] = q1 at gq
              have mp := List.mem_of_getElem? gp
              have mq := List.mem_of_getElem? gq
              rw [upto_get hi] at hd
              have ed : d = .int (1 + (i : Int)) := (Option.some.inj hd).symm
              subst ed
              have tp : (tmsD ps)[i]? = some (tmD p1) := by rw [tmsD_map, List.getElem?_map, gp]; rfl
              have tq : (tmsD qs)[i]? = some (tmD q1) := by rw [tmsD_map, List.getElem?_map, gq]; rfl
              obtain ⟨s1, s2⟩ := step_phi gp gq s
              have hsz := Tm.size_mem mp
              have lens : a.length + p1.size ≤ 2 ^ 20 := by
                have k1 := addAll_len (((List.zipWith prs ps qs).take i).flatten) s
                rw [← ha] at k1
                have k2 := prss_len (ps.take i) (qs.take i)
                rw [prss_zip, ← List.take_zipWith] at k2
                have k3 : Tm.sizes (ps.take (i + 1)) + Tm.sizes (ps.drop (i + 1)) = Tm.sizes ps := by rw [← Tm.sizes_append, List.take_append_drop]
                rw [take_next gp, Tm.sizes_append] at k3
                have k4 : Tm.sizes [p1] = p1.size := by show p1.size + 0 = _; omega
                omega
              have wa : WfP cs m a := by
                rw [ha]
                refine wfp_add ws fun y hy' => ?_
                rw [List.take_zipWith, ← prss_zip] at hy'
                exact prss_wf _ _ (wfts_iff.mpr fun x mx => wps x (List.mem_of_mem_take mx)) (wfts_iff.mpr fun x mx => wqs x (List.mem_of_mem_take mx)) y hy'
              have hia : HiP a := by
                rw [ha]
                intro y hy'
                rcases (addAll_mem _ _ _).mp hy' with z | z
                · exact his y z
                · rw [List.take_zipWith, ← prss_zip] at z
                  have := prss_high _ _ y z
                  have b1 : ∀ (ts : List Tm) (k b : Nat), Tm.highs ts ≤ b → Tm.highs (ts.take k) ≤ b := fun ts k b hb => highs_le _ fun x mx => Nat.le_trans (Tm.high_mem (List.mem_of_mem_take mx)) hb
                  have c1 := b1 ps i 49 (by omega)
                  have c2 := b1 qs i 49 (by omega)
                  omega
              walk_at "wp"
              simp only [a1, tp, tq]
              walk_at "wp"
              refine up_of (m_llgg ok n p1 q1 a _ (by have := Tm.high_mem mp; omega) (by have := Tm.high_mem mp; omega) (by have := Tm.high_mem mq; omega) (wps p1 mp) (wqs q1 mq) (by omega) (by have := Tm.size_mem mq; omega) wa hia lens ?_)
              walk_at "wp"
              refine hR _ (addAll a (prs p1 q1)) _ ⟨?_, ?_⟩ (by rfl)
              · rw [ha]; exact s1.symm
              · rw [ha, ← s1, s2, List.map_append, hy, ha]; rfl
            · rintro ys a ⟨ha, hy⟩
              rw [upto_len] at ha hy
              rw [full _ (zl2 _)] at ha hy
              have ly : ys.length = ps.length := by rw [hy, List.length_map, zl2]
              refine ⟨by rw [ly]; simp only [sizeLine]; omega, [.lst (prD a)], rfl, rfl, ?_⟩
              rw [hy, ha]
              rw [tmD, tmsD_map] at r
              exact r
          · rw [if_neg (by rw [decide_eq_true_eq, lps, lqs]; omega)]
            exact away fun z => har z.2
        · rw [if_neg (by rw [decide_eq_true_eq]; exact hwv)]
          exact away fun z => hwv z.1
end Lq
namespace Lq
open PySem L2
open Cf (Tm)
local macro_rules | `(tactic| walk_at "wp") => `(tactic| (try simp only [runQ_e, runQP_e, endQ_rt_e, endQ_nx_e, sSeq_e, sNil_e, thenO_nx, thenO_rt, thenO_bk, thenO_ct, thenO_ex, bnd_e, ret_e, gd_e, bad_e, eVar_e, eOwn_e, slV_e, slO_e, eC_e, eOp_e, eTup_e, aNil_e, aCons_e, sSet_e, gN_e, gT_e, gsCons_e, gsNil_e, sRet_e, sIf_e, sExpr_e, tT_e, tTru_e, tNo_e, tBoth_e, tEither_e, eBoth_e, eEither_e, eNo_e, eIf_e, eCall_e, eFn_e, eFnP_e, slP_e, eSl_e, aPart_e, noPart_e, eIsi_e, isiD, eTy_e, tyQ_e, ty_n, ty_b, ty_i, ty_s, ty_l, ty_t, ty_d, eGet1_e, eGet2_e, eDget_e, eDin_e, sDnew_e, sPut_e, slD_e, sNew_e, lLst_e, slL_e, sApp_e, eL_e, sPop_e, sExt_e, sSetIx_e, lList_e, iSeq_e, iCall_e, eNeg_e, eChain_e, eBack_e, sFrz_e, frzR, frzS, sPutT_e, slDT_e, sDnewT_e, ite_ap, sFor_e, fLc_e, fDc_e, eD_e, tAll_e, asB_b, tru_n, tru_b, tru_i, tru_s, tru_l, tru_t, items_l, items_t, intOf_i, len_l, len_t, len_s, list_l, list_t, tuple_l, tuple_t, ix_t, ix_l, ix_s, atW_s, add_i, add_s, add_t, add_l, sub_i, mul_i, mod_i, fdiv_i, neg_i, pow_i, eRg1_e, rgW_e, Int.sub_zero, lt_i, le_i, gt_i, ge_i, lt_s, le_s, is_n, isNot_n, isN_n, isN_b, isN_i, isN_s, isN_l, isN_t, isN_d, eq_ii, eq_ss, eq_bb, eq_is, eq_si, eq_nn, eq_ni, eq_in, eq_ns, eq_sn, eq_tt, eq_ll, ne_ii, ne_ss, ne_bb, ne_is, ne_si, ne_nn, ne_ni, ne_in, ne_ns, ne_sn, ne_tt, ne_ll, sum_l, intsW_of, max_2, min_2, int_i, int_b, rng1_i, rng2_i, sl_t, sl_l, sl_s, back_t, back_l, back_0, keyP_i, keyP_s, keyW_i, keyW_s, kD_i, kD_s, List.map_cons, List.map_nil, List.length_cons, List.length_nil, List.cons_append, List.nil_append, List.replicate_succ, List.replicate_zero, List.getElem?_cons_zero, List.getElem?_cons_succ, List.set_cons_zero, List.set_cons_succ, List.reverse_cons, List.reverse_nil, Nat.zero_add, Nat.reduceSub, Nat.reduceAdd, reduceIte, if_true, if_false, Bool.not_true, Bool.not_false, Bool.true_eq_false, Bool.false_eq_true, ite_true, ite_false, String.reduceEq, ne_eq, not_false_eq_true, not_true_eq_false, reduceCtorEq, true_and, and_true, noOwn, isOwn, wipeR, List.all_cons, List.all_nil, Bool.and_self, at_zero, at_one, at_two, at_three, cut_1, cut_from, cut_from1, cut_upto, decide_true, decide_false, Int.toNat_natCast, upto_len, z_succ, z_succ_pos, z_pred, z_zero, z_zero_pos, List.drop_succ_cons, List.drop_zero, List.isEmpty_cons, List.isEmpty_nil, List.getLast?_concat, List.dropLast_concat, sz_0, sz_1, sz_2, sz_3, sz_4, sz_5, sz_6, sz_7, sz_8, sz_9, sz_10, sz_11, sz_12, sz_13, sz_14, sz_15, sz_16, sz_17, sz_18, sz_19, sz_20, kit_NoneType_bool, kit_NoneType_int, kit_NoneType_str, kit_NoneType_list, kit_NoneType_tuple, kit_bool_bool, kit_bool_int, kit_bool_str, kit_bool_list, kit_bool_tuple, kit_int_bool, kit_int_int, kit_int_str, kit_int_list, kit_int_tuple, kit_str_bool, kit_str_int, kit_str_str, kit_str_list, kit_str_tuple, kit_list_bool, kit_list_int, kit_list_str, kit_list_list, kit_list_tuple, kit_tuple_bool, kit_tuple_int, kit_tuple_str, kit_tuple_list, kit_tuple_tuple, sAugadd, sAugsub, sAug, eDisp_e, ppCons_e, ppNil_e, eListVals_e, lAdd_e, fLcD_e, lZip_e, zipT_e, dictW_e, enumWA_l, enumWA_t, eIsi2_e, runZ_e, ptrs_c, ptrs_n, endZ_rs, endZ_nx, one_gh, thenO_rs, eGh_e, slG_e, ghD_l, ghD_d, ghD_t, zPure_e, zNil_e, zCons_e, zOp_e, zTup_e, zCall_e, zT_e, zNo_e, sRetZ_e, sExprZ_e, sSetZ_e, sIfZ_e, zFn_e, getG1_e, slGh_e, putG1_e, regh_e, zPtrs1_e, eFnN_e, sGPut_e, sGApp_e, gLst_e, gDic_e, gDit_e, zSetd_e, zLc_e, plV_n, plV_c, isPl_u, isPl_v, rest_n, rest_c, eJoined_e, jNil_e, jStr_e, jVal_e, fmtW_i, fmtW_s, eJoin_e, strW_e, eIndex_e, isLst_e, Option.getD_some, slO_d, slO_t, iStr_e, signsW_e, zipWl_e, zipWt_e, enumWl_e, allQl_e, anyQl_e, inS1_e]))
/-! ### instances over the mirrors -/
theorem for_z {α : Type} {k : PyData → Rho → Wp Rho} {b : Rho → Wp Out} {Q : Out → Prop} (st : α → Rho) (I : Nat → α → Prop) {ds : List PyData} (hs : ∀ i d a, ds[i]? = some d → I i a → ∀ R : Out → Prop, (∀ a', I (i + 1) a' → R (.nx (st a')) ∧ R (.ct (st a'))) → (∀ d ρ, Q (.rs d ρ) → R (.rs d ρ)) → (∀ ρ, Q (.nx ρ) → R (.bk ρ)) → k d (st a) fun ρ1 => b ρ1 R)
    (h1 : ∀ a, I ds.length a → Q (.nx (st a))) {a : α} (h0 : I 0 a) : wFor k b ds (st a) Q := by
  have key : ∀ (es : List PyData) (i : Nat) (a : α), ds.drop i = es → I i a → i ≤ ds.length → wFor k b es (st a) Q := by
    intro es
    induction es with
    | nil =>
      intro i a e h l
      have : ds.length ≤ i := by
        have := congrArg List.length e
        rw [List.length_drop, List.length_nil] at this
        omega
      have e2 : i = ds.length := by omega
      subst e2
      exact h1 a h
    | cons d es ih =>
      intro i a e h l
      have l2 : i < ds.length := by
        have := congrArg List.length e
        rw [List.length_drop, List.length_cons] at this
        omega
      have e3 := List.drop_eq_getElem_cons l2
      rw [e] at e3
      have e4 := List.cons.inj e3
      have hd : ds[i]? = some d := by rw [List.getElem?_eq_getElem l2, e4.1]
      refine hs i d a hd h _ (fun a' h' => ⟨?_, ?_⟩) (fun d ρ h => h) (fun ρ h => h)
      · exact ih (i + 1) a' e4.2.symm h' l2
      · exact ih (i + 1) a' e4.2.symm h' l2
  exact key ds 0 a (List.drop_zero) h0 (Nat.zero_le _)
structure FitQ (b : Bool) (M M' : List (Int × Tm)) (p t : Tm) : Prop where
  yes : b = true → ∀ θ, Cf.Ext M' θ ↔ Cf.Ext M θ ∧ p.sub θ = t
  no : b = false → ∀ θ, Cf.Ext M θ → p.sub θ ≠ t
def suD (M : List (Int × Tm)) : List (PyData × PyData) := M.map fun e => (.int e.1, tmD e.2)
structure OkM (cs : List (Str × Nat)) (m : Nat) (M : List (Int × Tm)) : Prop where
  nd : (Cf.keysOf M).Nodup
  wf : ∀ e ∈ M, WfT cs m e.2 ∧ e.2.high ≤ 50
theorem su_marked (M : List (Int × Tm)) : marked (suD M) = false := by cases M <;> rfl
theorem su_look (i : Int) : ∀ M : List (Int × Tm), lookP (suD M) (.int i) = (M.lookup i).map tmD
  | [] => rfl
  | (j, t) :: M => by
    have ih := su_look i M
    unfold lookP at ih ⊢
    show (List.find? _ ((PyData.int j, tmD t) :: suD M)).map _ = _
    rw [List.find?_cons, List.lookup_cons]
    show (match decide (j = i) with | true => some _ | false => _ : Option (PyData × PyData)).map _ = _
    by_cases e : i = j
    · subst e
      rw [decide_eq_true rfl, beq_self_eq_true]; rfl
    · rw [decide_eq_false fun z => e z.symm, beq_eq_false_iff_ne.mpr e]
      exact ih
theorem su_any (i : Int) : ∀ M : List (Int × Tm), M.lookup i = none → ((suD M).any fun e => keqb e.1 (.int i)) = false
  | [], _ => rfl
  | (j, t) :: M, h => by
    rw [List.lookup_cons] at h
    by_cases e : i = j
    · subst e; rw [beq_self_eq_true] at h; cases h
    · rw [beq_eq_false_iff_ne.mpr e] at h
      show (decide (j = i) || (suD M).any _) = false
      rw [decide_eq_false (fun z => e z.symm), su_any i M h]; rfl
theorem m_taken {cs : List (Str × Nat)} {m : Nat} (ok : Cf.ConsOk cs) : ∀ (n : Nat) (p t : Tm) (M : List (Int × Tm)) (Q : PyData × List Gh → Prop), p.high ≤ n → t.high ≤ 50 → WfT cs m t → p.size ≤ 2 ^ 18 → t.size ≤ 2 ^ 18 → OkM cs m M → M.length + p.size ≤ 2 ^ 20 →
    (∀ b M', FitQ b M M' p t → OkM cs m M' → M'.length ≤ M.length + p.size → Q (.bool b, [.dic (suD M')])) → m_l_taken M_l_is_integer n [tmD p, tmD t] [.dic (suD M)] Q
  | 0, p, _, _, _, h, _, _, _, _, _, _, _ => by have := p.high_pos; omega
  | n + 1, p, t, M, Q, h, ht, wt, zp, zt, hM, hl, r => by
    show runZ 5 (b_l_taken M_l_is_integer (m_l_taken M_l_is_integer n)) [tmD p, tmD t] [.dic (suD M)] Q
    simp only [b_l_taken]
    cases p with
    | var i =>
      walk_at "wp"
      refine up_of (m_isI_tm ?_)
      walk_at "wp"
      simp only [tmD, dget_i (su_marked M), su_look, ret]
      cases hlk : M.lookup i with
      | some u =>
        have hu := hM.wf _ (Cf.look_mem hlk)
        try simp only [Option.map_some, Option.isSome_some, if_true]
        walk_at "wp"
        try simp only [dget_i (su_marked M), su_look, hlk, ret, Option.map_some]
        walk_at "wp"
        refine eq_tm' (shaped_tm ok hu.1 (by have := hu.2; simp only at this; omega)) (shaped_tm ok wt (by omega)) fun c hc => ?_
        walk_at "wp"
        refine r c M ⟨fun z θ => ?_, fun z θ e => ?_⟩ hM (Nat.le_add_right _ _)
        · have := hc.mp z
          exact ⟨fun e => ⟨e, by rw [← this]; exact e _ (Cf.look_mem hlk)⟩, fun e => e.1⟩
        · intro y
          have : u = t := by rw [← y]; exact (e _ (Cf.look_mem hlk)).symm
          rw [hc.mpr this] at z
          cases z
      | none =>
        try simp only [Option.map_none, Option.isSome_none, Bool.false_eq_true, if_false]
        walk_at "wp"
        have e1 : putP (suD M) (.int i) (tmD t) = suD (M ++ [(i, t)]) := by
          unfold putP
          rw [su_any i M hlk, if_neg Bool.false_ne_true]
          unfold suD
          rw [List.map_append]; rfl
        rw [e1]
        refine ⟨by unfold suD; rw [List.length_map]; simp only [sizeLine]; have : 0 < Tm.size (.var i) := Tm.size_pos _; omega, ?_⟩
        refine r true _ ⟨fun _ θ => Cf.ext_snoc, fun z => by cases z⟩ ⟨?_, fun e he => ?_⟩ (by rw [List.length_append]; exact Nat.le_refl _)
        · rw [Cf.keys_snoc]
          refine List.nodup_append.mpr ⟨hM.nd, (by simp), fun x hx y hy z => ?_⟩
          rw [List.mem_singleton.mp hy] at z
          exact Cf.look_no hlk (z ▸ hx)
        · rcases List.mem_append.mp he with he | he
          · exact hM.wf e he
          · rw [List.mem_singleton.mp he]; exact ⟨wt, ht⟩
    | node w ps =>
      have apart : ∀ {u : Tm}, (∀ θ, (Tm.node w ps).sub θ ≠ u) → u = t → Q (.bool false, [.dic (suD M)]) := fun {u} k e => by
        subst e
        exact r false M ⟨(fun z => by cases z), fun _ θ _ => k θ⟩ hM (Nat.le_add_right _ _)
      cases t with
      | var j =>
        walk_at "wp"
        refine up_of (m_isI_tm ?_)
        walk_at "wp"
        refine up_of (m_isI_tm ?_)
        walk_at "wp"
        exact apart (fun θ z => by cases z) rfl
      | node v qs =>
        walk_at "wp"
        refine up_of (m_isI_tm ?_)
        walk_at "wp"
        refine up_of (m_isI_tm ?_)
        walk_at "wp"
        simp only [tmD]
        walk_at "wp"
        have lps : (tmsD ps).length = ps.length := by rw [tmsD_map, List.length_map]
        have lqs : (tmsD qs).length = qs.length := by rw [tmsD_map, List.length_map]
        by_cases hwv : w = v
        · by_cases har : ps.length = qs.length
          · rw [if_neg (by rw [decide_eq_true hwv]; exact Bool.false_ne_true), if_neg (by rw [decide_eq_true (by rw [lps, lqs, har])]; exact Bool.false_ne_true)]
            subst hwv
            have hh : 1 + Tm.highs ps ≤ n + 1 := h
            have ht' : 1 + Tm.highs qs ≤ 50 := ht
            have zp' : 1 + Tm.sizes ps ≤ 2 ^ 18 := zp
            have zt' : 1 + Tm.sizes qs ≤ 2 ^ 18 := zt
            have hl' : M.length + (1 + Tm.sizes ps) ≤ 2 ^ 20 := hl
            have lq := Tm.sizes_len qs
            have wqs := wfts_iff.mp wt.2
            refine ⟨by rw [lqs]; omega, ?_⟩
            rw [lqs]
            have a1 : ∀ (x : PyData) (xs : List PyData) (k : Nat), atI (x :: xs) (1 + (k : Int)) = xs[k]? := fun x xs k => by rw [Int.add_comm, at_succ, at_nat]
            refine for_z (st := fun a : List (Int × Tm) × Sl => [.val (.tuple (.str w :: tmsD ps)), .val (.tuple (.str w :: tmsD qs)), .ptr 4, a.2, .gh true (.dic (suD a.1))])
              (I := fun i a => (∀ θ, Cf.Ext a.1 θ ↔ Cf.Ext M θ ∧ (ps.take i).map (fun x => x.sub θ) = qs.take i) ∧ OkM cs m a.1 ∧ a.1.length ≤ M.length + Tm.sizes (ps.take i)) ?_ ?_ (a := (M, .un)) ⟨fun θ => by simp, hM, Nat.le_add_right _ _⟩
            · rintro i d ⟨Mi, s3⟩ hd ⟨f1, f2, f3⟩ R hR hrs hbk
              simp only at f1 f2 f3
              have hi : i < qs.length := by have := (List.getElem?_eq_some_iff.mp hd).1; rw [upto_len] at this; exact this
              have gp := List.getElem?_eq_getElem (show i < ps.length by omega)
              have gq := List.getElem?_eq_getElem hi
              generalize ps[i] = p1 at gp
              generalize qs[i] = q1 at gq
              have mp := List.mem_of_getElem? gp
              have mq := List.mem_of_getElem? gq
              rw [upto_get hi] at hd
              have ed : d = .int (1 + (i : Int)) := (Option.some.inj hd).symm
              subst ed
              have tp : (tmsD ps)[i]? = some (tmD p1) := by rw [tmsD_map, List.getElem?_map, gp]; rfl
              have tq : (tmsD qs)[i]? = some (tmD q1) := by rw [tmsD_map, List.getElem?_map, gq]; rfl
              have k3 : Tm.sizes (ps.take (i + 1)) + Tm.sizes (ps.drop (i + 1)) = Tm.sizes ps := by rw [← Tm.sizes_append, List.take_append_drop]
              have k4 : Tm.sizes (ps.take (i + 1)) = Tm.sizes (ps.take i) + p1.size := by
                rw [take_next gp, Tm.sizes_append]
                show _ + (p1.size + 0) = _
                omega
              walk_at "wp"
              simp only [a1, tp, tq]
              walk_at "wp"
              refine up_of (m_taken ok n p1 q1 Mi _ (by have := Tm.high_mem mp; omega) (by have := Tm.high_mem mq; omega) (wqs q1 mq) (by have := Tm.size_mem mp; omega) (by have := Tm.size_mem mq; omega) f2 (by omega) fun b M' hf ho hlen => ?_)
              cases b with
              | true =>
                walk_at "wp"
                refine (hR (M', .val (.int (1 + (i : Int)))) ⟨fun θ => ?_, ho, by show M'.length ≤ _; omega⟩).1
                rw [hf.yes rfl θ, f1 θ, take_next gp, take_next gq, List.map_append, List.map_singleton, Cf.snoc_inj, and_assoc]
              | false =>
                walk_at "wp"
                refine hrs _ _ ?_
                walk_at "wp"
                refine r false M' ⟨(fun z => by cases z), fun _ θ e z => ?_⟩ ho (by show M'.length ≤ M.length + (1 + Tm.sizes ps); omega)
                have z' : Tm.node w (Tm.subs θ ps) = .node w qs := z
                have z2 : ps.map (fun x => x.sub θ) = qs := by rw [← Tm.subs_map]; injection z'
                have e1 : Cf.Ext Mi θ := (f1 θ).mpr ⟨e, by rw [← z2, List.map_take]⟩
                refine hf.no rfl θ e1 ?_
                have : (ps.map fun x => x.sub θ)[i]? = qs[i]? := by rw [z2]
                rw [List.getElem?_map, gp, gq] at this
                exact Option.some.inj this
            · rintro ⟨Mi, s3⟩ ⟨f1, f2, f3⟩
              rw [upto_len] at f1 f3
              simp only at f1 f2 f3
              walk_at "wp"
              have fp : ps.take qs.length = ps := by rw [← har, List.take_length]
              rw [fp] at f1 f3
              refine r true Mi ⟨fun _ θ => ?_, fun z => by cases z⟩ f2 (by show Mi.length ≤ M.length + (1 + Tm.sizes ps); omega)
              rw [f1 θ, List.take_length]
              refine and_congr Iff.rfl ?_
              show _ ↔ Tm.node w (Tm.subs θ ps) = .node w qs
              rw [Tm.subs_map]
              exact ⟨fun z => by rw [z], fun z => by injection z⟩
          · rw [if_neg (by rw [decide_eq_true hwv]; exact Bool.false_ne_true), if_pos (by rw [decide_eq_false (by rw [lps, lqs]; omega)]; rfl)]
            refine apart (fun θ z => har ?_) rfl
            have z' : Tm.node w (Tm.subs θ ps) = .node v qs := z
            injection z' with _ z2
            rw [← z2, Tm.subs_map, List.length_map]
        · rw [if_pos (by rw [decide_eq_false hwv]; rfl)]
          refine apart (fun θ z => hwv ?_) rfl
          have z' : Tm.node w (Tm.subs θ ps) = .node v qs := z
          injection z'
open Classical in
theorem m_inst {cs : List (Str × Nat)} {m : Nat} (ok : Cf.ConsOk cs) {p t : Tm} {Q : PyData → Prop} (hp : p.high ≤ 12) (ht : t.high ≤ 50) (wt : WfT cs m t) (zp : p.size ≤ 2 ^ 18) (zt : t.size ≤ 2 ^ 18) (r : Q (.bool (decide (∃ θ, p.sub θ = t)))) : M_l_is_instance [tmD p, tmD t] Q := by
  unfold M_l_is_instance
  simp only [b_l_is_instance]
  walk_at "wp"
  unfold M_l_taken
  refine up_of (m_taken ok 12 p t [] _ hp ht wt zp zt ⟨List.nodup_nil, fun e he => by cases he⟩ (by show 0 + _ ≤ _; omega) fun b M' hf ho hlen => ?_)
  walk_at "wp"
  have e : b = decide (∃ θ, p.sub θ = t) := by
    cases b with
    | true => exact (decide_eq_true ⟨_, ((hf.yes rfl (Cf.onv M')).mp (Cf.ext_onv ho.nd)).2⟩).symm
    | false => exact (decide_eq_false fun ⟨θ, z⟩ => hf.no rfl θ (fun e he => by cases he) z).symm
  rw [e]
  exact r
end Lq
namespace Lq
open PySem L2
open Cf (Tm)
local macro_rules | `(tactic| walk_at "wp") => `(tactic| (try simp only [runQ_e, runQP_e, endQ_rt_e, endQ_nx_e, sSeq_e, sNil_e, thenO_nx, thenO_rt, thenO_bk, thenO_ct, thenO_ex, bnd_e, ret_e, gd_e, bad_e, eVar_e, eOwn_e, slV_e, slO_e, eC_e, eOp_e, eTup_e, aNil_e, aCons_e, sSet_e, gN_e, gT_e, gsCons_e, gsNil_e, sRet_e, sIf_e, sExpr_e, tT_e, tTru_e, tNo_e, tBoth_e, tEither_e, eBoth_e, eEither_e, eNo_e, eIf_e, eCall_e, eFn_e, eFnP_e, slP_e, eSl_e, aPart_e, noPart_e, eIsi_e, isiD, eTy_e, tyQ_e, ty_n, ty_b, ty_i, ty_s, ty_l, ty_t, ty_d, eGet1_e, eGet2_e, eDget_e, eDin_e, sDnew_e, sPut_e, slD_e, sNew_e, lLst_e, slL_e, sApp_e, eL_e, sPop_e, sExt_e, sSetIx_e, lList_e, iSeq_e, iCall_e, eNeg_e, eChain_e, eBack_e, sFrz_e, frzR, frzS, sPutT_e, slDT_e, sDnewT_e, ite_ap, sFor_e, fLc_e, fDc_e, eD_e, tAll_e, asB_b, tru_n, tru_b, tru_i, tru_s, tru_l, tru_t, items_l, items_t, intOf_i, len_l, len_t, len_s, list_l, list_t, tuple_l, tuple_t, ix_t, ix_l, ix_s, atW_s, add_i, add_s, add_t, add_l, sub_i, mul_i, mod_i, fdiv_i, neg_i, pow_i, eRg1_e, rgW_e, Int.sub_zero, lt_i, le_i, gt_i, ge_i, lt_s, le_s, is_n, isNot_n, isN_n, isN_b, isN_i, isN_s, isN_l, isN_t, isN_d, eq_ii, eq_ss, eq_bb, eq_is, eq_si, eq_nn, eq_ni, eq_in, eq_ns, eq_sn, eq_tt, eq_ll, ne_ii, ne_ss, ne_bb, ne_is, ne_si, ne_nn, ne_ni, ne_in, ne_ns, ne_sn, ne_tt, ne_ll, sum_l, intsW_of, max_2, min_2, int_i, int_b, rng1_i, rng2_i, sl_t, sl_l, sl_s, back_t, back_l, back_0, keyP_i, keyP_s, keyW_i, keyW_s, kD_i, kD_s, List.map_cons, List.map_nil, List.length_cons, List.length_nil, List.cons_append, List.nil_append, List.replicate_succ, List.replicate_zero, List.getElem?_cons_zero, List.getElem?_cons_succ, List.set_cons_zero, List.set_cons_succ, List.reverse_cons, List.reverse_nil, Nat.zero_add, Nat.reduceSub, Nat.reduceAdd, reduceIte, if_true, if_false, Bool.not_true, Bool.not_false, Bool.true_eq_false, Bool.false_eq_true, ite_true, ite_false, String.reduceEq, ne_eq, not_false_eq_true, not_true_eq_false, reduceCtorEq, true_and, and_true, noOwn, isOwn, wipeR, List.all_cons, List.all_nil, Bool.and_self, at_zero, at_one, at_two, at_three, cut_1, cut_from, cut_from1, cut_upto, decide_true, decide_false, Int.toNat_natCast, upto_len, z_succ, z_succ_pos, z_pred, z_zero, z_zero_pos, List.drop_succ_cons, List.drop_zero, List.isEmpty_cons, List.isEmpty_nil, List.getLast?_concat, List.dropLast_concat, sz_0, sz_1, sz_2, sz_3, sz_4, sz_5, sz_6, sz_7, sz_8, sz_9, sz_10, sz_11, sz_12, sz_13, sz_14, sz_15, sz_16, sz_17, sz_18, sz_19, sz_20, kit_NoneType_bool, kit_NoneType_int, kit_NoneType_str, kit_NoneType_list, kit_NoneType_tuple, kit_bool_bool, kit_bool_int, kit_bool_str, kit_bool_list, kit_bool_tuple, kit_int_bool, kit_int_int, kit_int_str, kit_int_list, kit_int_tuple, kit_str_bool, kit_str_int, kit_str_str, kit_str_list, kit_str_tuple, kit_list_bool, kit_list_int, kit_list_str, kit_list_list, kit_list_tuple, kit_tuple_bool, kit_tuple_int, kit_tuple_str, kit_tuple_list, kit_tuple_tuple, sAugadd, sAugsub, sAug, eDisp_e, ppCons_e, ppNil_e, eListVals_e, lAdd_e, fLcD_e, lZip_e, zipT_e, dictW_e, enumWA_l, enumWA_t, eIsi2_e, runZ_e, ptrs_c, ptrs_n, endZ_rs, endZ_nx, one_gh, thenO_rs, eGh_e, slG_e, ghD_l, ghD_d, ghD_t, zPure_e, zNil_e, zCons_e, zOp_e, zTup_e, zCall_e, zT_e, zNo_e, sRetZ_e, sExprZ_e, sSetZ_e, sIfZ_e, zFn_e, getG1_e, slGh_e, putG1_e, regh_e, zPtrs1_e, eFnN_e, sGPut_e, sGApp_e, gLst_e, gDic_e, gDit_e, zSetd_e, zLc_e, plV_n, plV_c, isPl_u, isPl_v, rest_n, rest_c, eJoined_e, jNil_e, jStr_e, jVal_e, fmtW_i, fmtW_s, eJoin_e, strW_e, eIndex_e, isLst_e, Option.getD_some, slO_d, slO_t, iStr_e, signsW_e, zipWl_e, zipWt_e, enumWl_e, allQl_e, anyQl_e, inS1_e]))
mutual
theorem rplD_congr {f g : Int → PyData} : ∀ t : Tm, (∀ n ∈ t.occ, f n = g n) → rplD f t = rplD g t
  | .var n, h => h n (List.mem_singleton_self _)
  | .node w ps, h => by simp only [rplD, rplsD_congr ps h]
theorem rplsD_congr {f g : Int → PyData} : ∀ ts : List Tm, (∀ n ∈ Tm.occs ts, f n = g n) → rplsD f ts = rplsD g ts
  | [], _ => rfl
  | t :: ts, h => by simp only [rplsD, rplD_congr t fun n hn => h n (List.mem_append_left _ hn), rplsD_congr ts fun n hn => h n (List.mem_append_right _ hn)]
end
mutual
theorem sub_hi {g : Int → Tm} {b : Nat} (hb : 1 ≤ b) (hg : ∀ n, (g n).high ≤ b) : ∀ t : Tm, (t.sub g).high ≤ t.high + b
  | .var n => by have := hg n; show (g n).high ≤ 1 + b; omega
  | .node w ps => by
    have := subs_hi hb hg ps
    show 1 + Tm.highs (Tm.subs g ps) ≤ 1 + Tm.highs ps + b
    omega
theorem subs_hi {g : Int → Tm} {b : Nat} (hb : 1 ≤ b) (hg : ∀ n, (g n).high ≤ b) : ∀ ts : List Tm, Tm.highs (Tm.subs g ts) ≤ Tm.highs ts + b
  | [] => Nat.zero_le _
  | t :: ts => by
    have a := sub_hi hb hg t
    have c := subs_hi hb hg ts
    show max (t.sub g).high (Tm.highs (Tm.subs g ts)) ≤ max t.high (Tm.highs ts) + b
    omega
end
mutual
theorem sub_sz {g : Int → Tm} {b : Nat} (hb : 1 ≤ b) (hg : ∀ n, (g n).size ≤ b) : ∀ t : Tm, (t.sub g).size ≤ t.size * b
  | .var n => by have := hg n; show (g n).size ≤ 1 * b; omega
  | .node w ps => by
    have := subs_sz hb hg ps
    show 1 + Tm.sizes (Tm.subs g ps) ≤ (1 + Tm.sizes ps) * b
    rw [Nat.add_mul]
    omega
theorem subs_sz {g : Int → Tm} {b : Nat} (hb : 1 ≤ b) (hg : ∀ n, (g n).size ≤ b) : ∀ ts : List Tm, Tm.sizes (Tm.subs g ts) ≤ Tm.sizes ts * b
  | [] => Nat.zero_le _
  | t :: ts => by
    have a := sub_sz hb hg t
    have c := subs_sz hb hg ts
    show (t.sub g).size + Tm.sizes (Tm.subs g ts) ≤ (t.size + Tm.sizes ts) * b
    rw [Nat.add_mul]
    omega
end
theorem subs_len (g : Int → Tm) (ts : List Tm) : (Tm.subs g ts).length = ts.length := by rw [Tm.subs_map, List.length_map]
mutual
theorem sub_wf {cs : List (Str × Nat)} {m m' : Nat} {g : Int → Tm} (hg : ∀ k : Nat, k < m → WfT cs m' (g (k : Int))) : ∀ t : Tm, WfT cs m t → WfT cs m' (t.sub g)
  | .var n, ⟨k, e, hk⟩ => by subst e; exact hg k hk
  | .node w ps, h => ⟨by rw [subs_len]; exact h.1, subs_wf hg ps h.2⟩
theorem subs_wf {cs : List (Str × Nat)} {m m' : Nat} {g : Int → Tm} (hg : ∀ k : Nat, k < m → WfT cs m' (g (k : Int))) : ∀ ts : List Tm, WfTs cs m ts → WfTs cs m' (Tm.subs g ts)
  | [], _ => trivial
  | t :: ts, h => ⟨sub_wf hg t h.1, subs_wf hg ts h.2⟩
end
mutual
theorem phi_hi (ix : Tm × Tm → Int) : ∀ p q : Tm, (phi ix p q).high ≤ p.high
  | .var n, q => by simp only [phi]; exact Nat.le_refl 1
  | .node w ps, .var m => by simp only [phi]; exact Tm.high_pos _
  | .node w ps, .node v qs => by
    simp only [phi]
    split
    · have := phis_hi ix ps qs
      show 1 + Tm.highs (phis ix ps qs) ≤ 1 + Tm.highs ps
      omega
    · exact Tm.high_pos _
theorem phis_hi (ix : Tm × Tm → Int) : ∀ ps qs : List Tm, Tm.highs (phis ix ps qs) ≤ Tm.highs ps
  | [], _ => by simp only [phis]; exact Nat.le_refl _
  | _ :: _, [] => by simp only [phis]; exact Nat.zero_le _
  | p :: ps, q :: qs => by
    have a := phi_hi ix p q
    have b := phis_hi ix ps qs
    simp only [phis]
    show max (phi ix p q).high (Tm.highs (phis ix ps qs)) ≤ max p.high (Tm.highs ps)
    omega
end
mutual
theorem phi_sz (ix : Tm × Tm → Int) : ∀ p q : Tm, (phi ix p q).size ≤ p.size
  | .var n, q => by simp only [phi]; exact Nat.le_refl 1
  | .node w ps, .var m => by simp only [phi]; exact Tm.size_pos _
  | .node w ps, .node v qs => by
    simp only [phi]
    split
    · have := phis_sz ix ps qs
      show 1 + Tm.sizes (phis ix ps qs) ≤ 1 + Tm.sizes ps
      omega
    · exact Tm.size_pos _
theorem phis_sz (ix : Tm × Tm → Int) : ∀ ps qs : List Tm, Tm.sizes (phis ix ps qs) ≤ Tm.sizes ps
  | [], _ => by simp only [phis]; exact Nat.le_refl _
  | _ :: _, [] => by simp only [phis]; exact Nat.zero_le _
  | p :: ps, q :: qs => by
    have a := phi_sz ix p q
    have b := phis_sz ix ps qs
    simp only [phis]
    show (phi ix p q).size + Tm.sizes (phis ix ps qs) ≤ p.size + Tm.sizes ps
    omega
end
theorem phis_len (ix : Tm × Tm → Int) {ps qs : List Tm} (h : ps.length = qs.length) : (phis ix ps qs).length = ps.length := by rw [phis_zip, List.length_zipWith, h, Nat.min_self]
mutual
theorem phi_wf {cs : List (Str × Nat)} {m M : Nat} {ix : Tm × Tm → Int} : ∀ p q : Tm, WfT cs m p → (∀ x ∈ prs p q, ∃ k : Nat, ix x = (k : Int) ∧ k < M) → WfT cs M (phi ix p q)
  | .var n, q, _, h => by simp only [phi]; exact h _ (List.mem_singleton.mpr rfl)
  | .node w ps, .var k, _, h => by simp only [phi]; exact h _ (List.mem_singleton.mpr rfl)
  | .node w ps, .node v qs, hp, h => by
    simp only [phi]
    simp only [prs] at h
    split
    · rename_i e
      rw [if_pos e] at h
      exact ⟨by rw [phis_len ix e.2]; exact hp.1, phis_wf ps qs hp.2 h⟩
    · rename_i e
      rw [if_neg e] at h
      exact h _ (List.mem_singleton.mpr rfl)
theorem phis_wf {cs : List (Str × Nat)} {m M : Nat} {ix : Tm × Tm → Int} : ∀ ps qs : List Tm, WfTs cs m ps → (∀ x ∈ prss ps qs, ∃ k : Nat, ix x = (k : Int) ∧ k < M) → WfTs cs M (phis ix ps qs)
  | [], _, _, _ => by simp only [phis]; trivial
  | _ :: _, [], _, _ => by simp only [phis]; trivial
  | p :: ps, q :: qs, hp, h => by
    simp only [phis]
    exact ⟨phi_wf p q hp.1 fun x m => h x (List.mem_append_left _ m), phis_wf ps qs hp.2 fun x m => h x (List.mem_append_right _ m)⟩
end
theorem lgg_wf {cs : List (Str × Nat)} {m : Nat} {p q : Tm} (hp : WfT cs m p) (hz : p.size ≤ 2 ^ 18) : WfT cs (2 ^ 18) (lgg p q) := by
  refine phi_wf p q hp fun x mx => ⟨_, rfl, ?_⟩
  have := ix_lt ((addAll_mem (prs p q) [] x).mpr (.inr mx))
  have h2 := addAll_len (prs p q) []
  have h3 := prs_len p q
  simp only [List.length_nil] at h2
  omega
mutual
theorem over_wf {cs : List (Str × Nat)} {ns : List Int} {m : Nat} (hn : ∀ n ∈ ns, ∃ k : Nat, n = (k : Int) ∧ k < m) : ∀ (t : Tm) (d : Nat), Cf.TmOver cs ns d t → WfT cs m t
  | .var n, 0, h => h.elim
  | .var n, d + 1, h => hn n h
  | .node w ps, 0, h => h.elim
  | .node w ps, d + 1, h => ⟨h.1, overs_wf hn ps d h.2⟩
theorem overs_wf {cs : List (Str × Nat)} {ns : List Int} {m : Nat} (hn : ∀ n ∈ ns, ∃ k : Nat, n = (k : Int) ∧ k < m) : ∀ (ts : List Tm) (d : Nat), (∀ t ∈ ts, Cf.TmOver cs ns d t) → WfTs cs m ts
  | [], _, _ => trivial
  | t :: ts, d, h => ⟨over_wf hn t d (h t List.mem_cons_self), overs_wf hn ts d fun x mx => h x (List.mem_cons_of_mem _ mx)⟩
end
mutual
theorem plain_tm {cs : List (Str × Nat)} {m : Nat} (ok : Cf.ConsOk cs) : ∀ t : Tm, WfT cs m t → plain (tmD t) = true
  | .var n, _ => rfl
  | .node w ps, h => by
    have h1 := (ok.word _ h.1).2.1
    have h2 := plains_tm ok ps h.2
    simp only at h1
    simp only [tmD, plain, plainL, h2, Bool.and_true, Bool.true_and, Bool.and_self]
    try (simp only [decide_eq_true_eq, sizeLine]; omega)
theorem plains_tm {cs : List (Str × Nat)} {m : Nat} (ok : Cf.ConsOk cs) : ∀ ts : List Tm, WfTs cs m ts → plainL (tmsD ts) = true
  | [], _ => rfl
  | t :: ts, h => by simp only [tmsD, plainL, plain_tm ok t h.1, plains_tm ok ts h.2, Bool.and_self]
end
structure Tb (cs : List (Str × Nat)) (h z : Nat) (t : Tm) : Prop where
  high : t.high ≤ h
  size : t.size ≤ z
  wf : WfT cs 4 t
theorem m_join {cs : List (Str × Nat)} (ok : Cf.ConsOk cs) {p q : Tm} {Q : PyData → Prop} (hp : Tb cs 7 105 p) (hq : Tb cs 10 735 q) (r : Q (tmD (lgg p q))) : M_p_join [tmD p, tmD q] Q := by
  unfold M_p_join
  simp only [b_p_join]
  walk_at "wp"
  unfold M_p_joined
  refine up_of (m_joined ok (m := 4) (by decide) 12 p q [] _ (by have := hp.high; omega) (by have := hp.high; omega) (by have := hq.high; omega) hp.wf hq.wf (by have := hp.size; omega) (by have := hq.size; omega) (fun y hy => by cases hy) (by have := hp.size; show 0 + _ ≤ _; omega) ?_)
  walk_at "wp"
  exact r
theorem m_jterm {cs : List (Str × Nat)} (ok : Cf.ConsOk cs) {p q : Tm} {Q : PyData → Prop} (hp : Tb cs 7 105 p) (hq : Tb cs 10 735 q) (r : Q (tmD (lgg p q))) : M_l_joined_term [tmD p, tmD q] Q := by
  unfold M_l_joined_term
  simp only [b_l_joined_term]
  walk_at "wp"
  unfold M_l_lgg
  refine up_of (m_llgg ok (m := 4) 12 p q [] _ (by have := hp.high; omega) (by have := hp.high; omega) (by have := hq.high; omega) hp.wf hq.wf (by have := hp.size; omega) (by have := hq.size; omega) (fun y hy => by cases hy) (fun y hy => by cases hy) (by have := hp.size; show 0 + _ ≤ _; omega) ?_)
  walk_at "wp"
  have h1 := phi_hi (ixOf (addAll [] (prs p q))) p q
  have h2 := phi_sz (ixOf (addAll [] (prs p q))) p q
  have hs := hp.size
  have hh := hp.high
  have z : Tm.sizes [phi (ixOf (addAll [] (prs p q))) p q] = (phi (ixOf (addAll [] (prs p q))) p q).size := by show _ + 0 = _; omega
  refine up_of (m_renum (ts := [phi (ixOf (addAll [] (prs p q))) p q]) (fun t mt => by rw [List.mem_singleton.mp mt]; omega) (by rw [z]; omega) ?_)
  rw [tidy_phi]
  simp only [tmsD]
  walk_at "wp"
  exact r
open Classical in
theorem ok_law : M_l_law (lawR 9 1) (fun o => o = .rt (.bool true)) := by
  unfold M_l_law
  simp only [b_l_law, lawR]
  walk_at "wp"
  refine up_of fun cs hok => ?_
  refine ⟨by omega, ?_⟩
  rw [show Int.toNat 4 = 4 from rfl]
  have ns2 : ∀ n ∈ ([0, 1] : List Int), ∃ k : Nat, n = (k : Int) ∧ k < 4 := fun n hn => by
    simp only [List.mem_cons, List.not_mem_nil, or_false] at hn
    rcases hn with rfl | rfl
    · exact ⟨0, rfl, by decide⟩
    · exact ⟨1, rfl, by decide⟩
  have ns3 : ∀ n ∈ ([0, 1, 2] : List Int), ∃ k : Nat, n = (k : Int) ∧ k < 4 := fun n hn => by
    simp only [List.mem_cons, List.not_mem_nil, or_false] at hn
    rcases hn with rfl | rfl | rfl
    · exact ⟨0, rfl, by decide⟩
    · exact ⟨1, rfl, by decide⟩
    · exact ⟨2, rfl, by decide⟩
  have ns4 : ∀ n ∈ ([0, 1, 2, 3] : List Int), ∃ k : Nat, n = (k : Int) ∧ k < 4 := fun n hn => by
    simp only [List.mem_cons, List.not_mem_nil, or_false] at hn
    rcases hn with rfl | rfl | rfl | rfl
    · exact ⟨0, rfl, by decide⟩
    · exact ⟨1, rfl, by decide⟩
    · exact ⟨2, rfl, by decide⟩
    · exact ⟨3, rfl, by decide⟩
  have dr : ∀ {ns : List Int} (hn : ∀ n ∈ ns, ∃ k : Nat, n = (k : Int) ∧ k < 4) (hl : ns.length ≤ 1000) (d : Nat), 1 ≤ d → d ≤ 4 → ∀ (Q : PyData → Prop), (∀ t, Tb cs 4 15 t → (d ≤ 3 → t.high ≤ 3 ∧ t.size ≤ 7) → Q (tmD t)) → mTerm 6 [consD cs, .list (ns.map .int), .int (d : Int)] Q := fun {ns} hn hl d d1 d4 Q q => by
    refine ⟨cs, ns, d, rfl, hok, hl, d1, by omega, fun t ht => q t ?_ ?_⟩
    · have h1 := over_high hok _ t ht
      have h2 := over_size hok _ t ht
      have : 2 ^ d ≤ 2 ^ 4 := Nat.pow_le_pow_right (by omega) d4
      exact ⟨by omega, by omega, over_wf hn t _ ht⟩
    · intro d3
      have h1 := over_high hok _ t ht
      have h2 := over_size hok _ t ht
      have : 2 ^ d ≤ 2 ^ 3 := Nat.pow_le_pow_right (by omega) d3
      omega
  refine for_up (st := fun a : Sl × Sl × Sl × Sl × Sl × Sl => [.un, .pool, .val (consD cs), a.1, a.2.1, a.2.2.1, a.2.2.2.1, a.2.2.2.2.1, a.2.2.2.2.2]) (I := fun _ _ => True) ?_ ?_ (a := (.un, .un, .un, .un, .un, .un)) trivial
  · rintro i ⟨x3, x4, x5, x6, x7, x8⟩ hi _ R hR hrt hbk
    have hR1 : ∀ x3 x4 x5 x6 x7 x8, R (.nx [.un, .pool, .val (consD cs), x3, x4, x5, x6, x7, x8]) := fun x3 x4 x5 x6 x7 x8 => (hR (x3, x4, x5, x6, x7, x8) trivial).1
    clear hR hrt hbk
    refine seq_cut (fun ρ => ∃ p, Tb cs 4 15 p ∧ ρ = [.un, .pool, .val (consD cs), .val (.int (i : Int)), .val (tmD p), x5, x6, x7, x8]) ?_ (fun R h => ?_)
    rotate_left
    · walk_at "wp"
      refine draw_i (by omega) (by omega) fun a ha => ?_
      walk_at "wp"
      exact up_of (dr ns2 (by decide) (1 + a) (by omega) (by omega) _ fun t ht _ => h _ ⟨t, ht, rfl⟩)
    rintro _ ⟨p, hp, rfl⟩
    refine seq_cut (fun ρ => ∃ q, Tb cs 4 15 q ∧ ρ = [.un, .pool, .val (consD cs), .val (.int (i : Int)), .val (tmD p), .val (tmD q), x6, x7, x8]) ?_ (fun R h => ?_)
    rotate_left
    · walk_at "wp"
      refine draw_i (by omega) (by omega) fun a ha => ?_
      walk_at "wp"
      exact up_of (dr ns3 (by decide) (1 + a) (by omega) (by omega) _ fun t ht _ => h _ ⟨t, ht, rfl⟩)
    rintro _ ⟨q, hq, rfl⟩
    refine seq_cut (fun ρ => ∃ p q x6, Tb cs 7 105 p ∧ Tb cs 10 735 q ∧ ρ = [.un, .pool, .val (consD cs), .val (.int (i : Int)), .val (tmD p), .val (tmD q), x6, x7, x8]) ?_ (fun R h => ?_)
    rotate_left
    · walk_at "wp"
      refine draw_i (by omega) (by omega) fun a ha => ?_
      have wide : ∀ (b z : Nat) (t u v : Tm), 4 ≤ b → b ≤ 7 → 15 ≤ z → z ≤ 105 → Tb cs 4 15 t → Tb cs 4 15 u → (t.high ≤ 3 ∧ t.size ≤ 7) → Tb cs b z v → ∀ Q : PyData → Prop, (∀ s, Tb cs (3 + b) (7 * z) s → Q (tmD s)) → M_l_replace [tmD t, .dict [(.int 0, tmD u), (.int 1, tmD v)]] Q := fun b z t u v b4 b7 z15 z105 ht hu h3 hv Q k => by
        have es : ∀ n, atD [(.int 0, tmD u), (.int 1, tmD v)] n = tmD (if n = 0 then u else if n = 1 then v else .var n) := fun n => by
          by_cases e0 : n = 0
          · subst e0; rfl
          · by_cases e1 : n = 1
            · subst e1; rfl
            · rw [if_neg e0, if_neg e1]
              unfold atD lookP
              have c0 : keqb (.int 0) (.int n) = false := decide_eq_false fun z => e0 z.symm
              have c1 : keqb (.int 1) (.int n) = false := decide_eq_false fun z => e1 z.symm
              simp only [List.find?_cons, c0, c1, List.find?_nil]
              rfl
        unfold M_l_replace
        refine m_repl (es := [(.int 0, tmD u), (.int 1, tmD v)]) rfl 12 t Q (by have := ht.high; omega) (by have := ht.size; omega) ?_
        rw [rplD_congr (g := fun n => tmD (if n = 0 then u else if n = 1 then v else .var n)) t fun n _ => es n, rplD_sub]
        refine k _ ⟨?_, ?_, ?_⟩
        · have := sub_hi (g := fun n => if n = 0 then u else if n = 1 then v else .var n) (b := b) (by omega) (fun n => by
            split
            · exact Nat.le_trans hu.high b4
            · split
              · exact hv.high
              · exact (show 1 ≤ b by omega)) t
          omega
        · have := sub_sz (g := fun n => if n = 0 then u else if n = 1 then v else .var n) (b := z) (by omega) (fun n => by
            split
            · exact Nat.le_trans hu.size z15
            · split
              · exact hv.size
              · exact (show 1 ≤ z by omega)) t
          exact Nat.le_trans this (Nat.mul_le_mul_right z h3.2)
        · refine sub_wf (fun k hk => ?_) t ht.wf
          split
          · exact hu.wf
          · split
            · exact hv.wf
            · exact ⟨k, rfl, hk⟩
      have mg : ∀ u v : PyData, mergeP [] [(.int 0, u), (.int 1, v)] = [(.int 0, u), (.int 1, v)] := fun _ _ => rfl
      have up1 : ∀ t, Tb cs 4 15 t → Tb cs 7 105 t := fun t ht => ⟨by have := ht.high; omega, by have := ht.size; omega, ht.wf⟩
      by_cases e : a = 0
      · subst e
        walk_at "wp"
        refine up_of (dr ns2 (by decide) 3 (by omega) (by omega) _ fun t ht h3 => ?_)
        have h3 := h3 (Nat.le_refl _)
        refine ⟨by decide, ?_⟩
        rw [mg]
        refine up_of (wide 4 15 t p q (by decide) (by decide) (by decide) (by decide) ht hp h3 hq _ fun p2 hp2 => ?_)
        refine ⟨by decide, ?_⟩
        rw [mg]
        refine up_of (wide 7 105 t q p2 (by decide) (by decide) (by decide) (by decide) ht hq h3 hp2 _ fun q2 hq2 => ?_)
        exact h _ ⟨p2, q2, _, hp2, hq2, rfl⟩
      · have e' : ¬ ((a : Int) = 0) := by omega
        walk_at "wp"
        try simp only [e']
        walk_at "wp"
        exact h _ ⟨p, q, x6, up1 p hp, ⟨by have := hq.high; omega, by have := hq.size; omega, hq.wf⟩, rfl⟩
    rintro _ ⟨p, q, x6, hp, hq, rfl⟩
    walk_at "wp"
    refine up_of (m_join hok hp hq ?_)
    refine up_of (m_jterm hok hp hq ?_)
    have lw := lgg_wf (q := q) hp.wf (Nat.le_trans hp.size (by decide))
    have lh : (lgg p q).high ≤ 7 := Nat.le_trans (phi_hi _ p q) hp.high
    have lz : (lgg p q).size ≤ 105 := Nat.le_trans (phi_sz _ p q) hp.size
    obtain ⟨th1, e1⟩ := lgg_fst p q
    obtain ⟨th2, e2⟩ := lgg_snd p q
    have gen2 : ∀ {o : Tm}, (∃ θ, o.sub θ = p) → (∃ θ, o.sub θ = q) → ∃ θ, o.sub θ = lgg p q := fun a b => lgg_gen a b
    generalize lgg p q = L at *
    refine up_of (same_self 12 _ _ (by have := dep_tm L; omega) (by have := nodes_tm L; omega) (plain_tm hok L lw) ?_)
    walk_at "wp"
    refine up_of (m_inst hok (m := 4) (by omega) (by have := hp.high; omega) hp.wf (by omega) (by have := hp.size; omega) ?_)
    rw [decide_eq_true ⟨th1, e1⟩]
    walk_at "wp"
    refine up_of (m_inst hok (m := 4) (by omega) (by have := hq.high; omega) hq.wf (by omega) (by have := hq.size; omega) ?_)
    rw [decide_eq_true ⟨th2, e2⟩]
    walk_at "wp"
    refine up_of (dr ns4 (by decide) 3 (by omega) (by omega) _ fun o ho _ => ?_)
    refine up_of (m_inst hok (m := 4) (by have := ho.high; omega) (by have := hp.high; omega) hp.wf (by have := ho.size; omega) (by have := hp.size; omega) ?_)
    by_cases i1 : ∃ θ, o.sub θ = p
    · rw [decide_eq_true i1]
      walk_at "wp"
      refine up_of (m_inst hok (m := 4) (by have := ho.high; omega) (by have := hq.high; omega) hq.wf (by have := ho.size; omega) (by have := hq.size; omega) ?_)
      by_cases i2 : ∃ θ, o.sub θ = q
      · rw [decide_eq_true i2]
        walk_at "wp"
        refine up_of (m_inst hok (m := 2 ^ 18) (by have := ho.high; omega) (by omega) lw (by have := ho.size; omega) (by omega) ?_)
        rw [decide_eq_true (gen2 i1 i2)]
        walk_at "wp"
        exact hR1 _ _ _ _ _ _
      · rw [decide_eq_false i2]
        walk_at "wp"
        exact hR1 _ _ _ _ _ _
    · rw [decide_eq_false i1]
      walk_at "wp"
      exact hR1 _ _ _ _ _ _
  · rintro ⟨x3, x4, x5, x6, x7, x8⟩ _
    walk_at "wp"
end Lq
namespace Cf
open PySem L2 Lq
abbrev sLaw : Stmt := Lq.s_l_law
section
theorem all_mk {l : PySem.W.OpenLaw} {w : World} {K : PySem.W.Frag} {h : Heap} {mg : Str → Option Value} {fa fPool fSpread fDraw fPick fSpelled fWords fCons fTerm f_p_write_term f_p_joined f_p_join f_l_same f_l_is_integer f_l_pick f_l_occurrences f_l_unlike f_l_numbers f_l_replace f_l_renumbered f_l_taken f_l_is_instance f_l_lgg f_l_joined_term fLaw : Addr} (X : K.In h) (G : h.Ns mainGlobals mg) (hfa : mg "law" = some (.ref fa))
    {odPool anPool odSpread anSpread odDraw anDraw odPick anPick odSpelled anSpelled odWords anWords odCons anCons odTerm anTerm od_p_write_term an_p_write_term od_p_joined an_p_joined od_p_join an_p_join od_l_same an_l_same od_l_is_integer an_l_is_integer od_l_pick an_l_pick od_l_occurrences an_l_occurrences od_l_unlike an_l_unlike od_l_numbers an_l_numbers od_l_replace an_l_replace od_l_renumbered an_l_renumbered od_l_taken an_l_taken od_l_is_instance an_l_is_instance od_l_lgg an_l_lgg od_l_joined_term an_l_joined_term odLaw anLaw : Option Addr} {slPool slSpread slDraw slPick slSpelled slWords slCons slTerm sl_p_write_term sl_p_joined sl_p_join sl_l_same sl_l_is_integer sl_l_pick sl_l_occurrences sl_l_unlike sl_l_numbers sl_l_replace sl_l_renumbered sl_l_taken sl_l_is_instance sl_l_lgg sl_l_joined_term slLaw : Array (Option Value)} {ocPool kVPool dcPool pmPool cdPool ctPool ocSpread kVSpread dcSpread pmSpread cdSpread ctSpread ocDraw kVDraw dcDraw pmDraw cdDraw ctDraw ocPick kVPick dcPick pmPick cdPick ctPick ocSpelled kVSpelled dcSpelled pmSpelled cdSpelled ctSpelled ocWords kVWords dcWords pmWords cdWords ctWords ocCons kVCons dcCons pmCons cdCons ctCons ocTerm kVTerm dcTerm pmTerm cdTerm ctTerm oc_p_write_term kV_p_write_term dc_p_write_term pm_p_write_term cd_p_write_term ct_p_write_term oc_p_joined kV_p_joined dc_p_joined pm_p_joined cd_p_joined ct_p_joined oc_p_join kV_p_join dc_p_join pm_p_join cd_p_join ct_p_join oc_l_same kV_l_same dc_l_same pm_l_same cd_l_same ct_l_same oc_l_is_integer kV_l_is_integer dc_l_is_integer pm_l_is_integer cd_l_is_integer ct_l_is_integer oc_l_pick kV_l_pick dc_l_pick pm_l_pick cd_l_pick ct_l_pick oc_l_occurrences kV_l_occurrences dc_l_occurrences pm_l_occurrences cd_l_occurrences ct_l_occurrences oc_l_unlike kV_l_unlike dc_l_unlike pm_l_unlike cd_l_unlike ct_l_unlike oc_l_numbers kV_l_numbers dc_l_numbers pm_l_numbers cd_l_numbers ct_l_numbers oc_l_replace kV_l_replace dc_l_replace pm_l_replace cd_l_replace ct_l_replace oc_l_renumbered kV_l_renumbered dc_l_renumbered pm_l_renumbered cd_l_renumbered ct_l_renumbered oc_l_taken kV_l_taken dc_l_taken pm_l_taken cd_l_taken ct_l_taken oc_l_is_instance kV_l_is_instance dc_l_is_instance pm_l_is_instance cd_l_is_instance ct_l_is_instance oc_l_lgg kV_l_lgg dc_l_lgg pm_l_lgg cd_l_lgg ct_l_lgg oc_l_joined_term kV_l_joined_term dc_l_joined_term pm_l_joined_term cd_l_joined_term ct_l_joined_term ocLaw kVLaw dcLaw pmLaw cdLaw ctLaw : Value}
    (aPool : PySem.W.nsIn K mainGlobals "_law_pool" = some (some (.ref fPool)))
    (lPool : K.lookup fPool = some ⟨ocPool, odPool, .func (PySem.W.fnOf "_law_pool" "_law_pool" (defArgs sPool) (defBody sPool) (defScope sPool) .none kVPool dcPool pmPool anPool cdPool ctPool), slPool⟩)
    (cPool : PySem.W.codeIn K cdPool "_law_pool" = true) (kPool : PySem.W.keepIn K (.ref fPool) = true)
    (aSpread : PySem.W.nsIn K mainGlobals "_law_spread" = some (some (.ref fSpread)))
    (lSpread : K.lookup fSpread = some ⟨ocSpread, odSpread, .func (PySem.W.fnOf "_law_spread" "_law_spread" (defArgs sSpread) (defBody sSpread) (defScope sSpread) .none kVSpread dcSpread pmSpread anSpread cdSpread ctSpread), slSpread⟩)
    (cSpread : PySem.W.codeIn K cdSpread "_law_spread" = true) (kSpread : PySem.W.keepIn K (.ref fSpread) = true)
    (aDraw : PySem.W.nsIn K mainGlobals "_law_draw" = some (some (.ref fDraw)))
    (lDraw : K.lookup fDraw = some ⟨ocDraw, odDraw, .func (PySem.W.fnOf "_law_draw" "_law_draw" (defArgs sDraw) (defBody sDraw) (defScope sDraw) .none kVDraw dcDraw pmDraw anDraw cdDraw ctDraw), slDraw⟩)
    (cDraw : PySem.W.codeIn K cdDraw "_law_draw" = true) (kDraw : PySem.W.keepIn K (.ref fDraw) = true)
    (aPick : PySem.W.nsIn K mainGlobals "_law_pick" = some (some (.ref fPick)))
    (lPick : K.lookup fPick = some ⟨ocPick, odPick, .func (PySem.W.fnOf "_law_pick" "_law_pick" (defArgs sPick) (defBody sPick) (defScope sPick) .none kVPick dcPick pmPick anPick cdPick ctPick), slPick⟩)
    (cPick : PySem.W.codeIn K cdPick "_law_pick" = true) (kPick : PySem.W.keepIn K (.ref fPick) = true)
    (aSpelled : PySem.W.nsIn K mainGlobals "_law_spelled" = some (some (.ref fSpelled)))
    (lSpelled : K.lookup fSpelled = some ⟨ocSpelled, odSpelled, .func (PySem.W.fnOf "_law_spelled" "_law_spelled" (defArgs sSpelled) (defBody sSpelled) (defScope sSpelled) .none kVSpelled dcSpelled pmSpelled anSpelled cdSpelled ctSpelled), slSpelled⟩)
    (cSpelled : PySem.W.codeIn K cdSpelled "_law_spelled" = true) (kSpelled : PySem.W.keepIn K (.ref fSpelled) = true)
    (aWords : PySem.W.nsIn K mainGlobals "_law_words" = some (some (.ref fWords)))
    (lWords : K.lookup fWords = some ⟨ocWords, odWords, .func (PySem.W.fnOf "_law_words" "_law_words" (defArgs sWords) (defBody sWords) (defScope sWords) .none kVWords dcWords pmWords anWords cdWords ctWords), slWords⟩)
    (cWords : PySem.W.codeIn K cdWords "_law_words" = true) (kWords : PySem.W.keepIn K (.ref fWords) = true)
    (aCons : PySem.W.nsIn K mainGlobals "_law_constructors" = some (some (.ref fCons)))
    (lCons : K.lookup fCons = some ⟨ocCons, odCons, .func (PySem.W.fnOf "_law_constructors" "_law_constructors" (defArgs sCons) (defBody sCons) (defScope sCons) .none kVCons dcCons pmCons anCons cdCons ctCons), slCons⟩)
    (cCons : PySem.W.codeIn K cdCons "_law_constructors" = true) (kCons : PySem.W.keepIn K (.ref fCons) = true)
    (aTerm : PySem.W.nsIn K mainGlobals "_law_term" = some (some (.ref fTerm)))
    (lTerm : K.lookup fTerm = some ⟨ocTerm, odTerm, .func (PySem.W.fnOf "_law_term" "_law_term" (defArgs sTerm) (defBody sTerm) (defScope sTerm) .none kVTerm dcTerm pmTerm anTerm cdTerm ctTerm), slTerm⟩)
    (cTerm : PySem.W.codeIn K cdTerm "_law_term" = true) (kTerm : PySem.W.keepIn K (.ref fTerm) = true)
    (a_p_write_term : PySem.W.nsIn K mainGlobals "write_term" = some (some (.ref f_p_write_term)))
    (l_p_write_term : K.lookup f_p_write_term = some ⟨oc_p_write_term, od_p_write_term, .func (PySem.W.fnOf "write_term" "write_term" (defArgs s_p_write_term) (defBody s_p_write_term) (defScope s_p_write_term) .none kV_p_write_term dc_p_write_term pm_p_write_term an_p_write_term cd_p_write_term ct_p_write_term), sl_p_write_term⟩)
    (c_p_write_term : PySem.W.codeIn K cd_p_write_term "write_term" = true) (k_p_write_term : PySem.W.keepIn K (.ref f_p_write_term) = true)
    (a_p_joined : PySem.W.nsIn K mainGlobals "joined" = some (some (.ref f_p_joined)))
    (l_p_joined : K.lookup f_p_joined = some ⟨oc_p_joined, od_p_joined, .func (PySem.W.fnOf "joined" "joined" (defArgs s_p_joined) (defBody s_p_joined) (defScope s_p_joined) .none kV_p_joined dc_p_joined pm_p_joined an_p_joined cd_p_joined ct_p_joined), sl_p_joined⟩)
    (c_p_joined : PySem.W.codeIn K cd_p_joined "joined" = true) (k_p_joined : PySem.W.keepIn K (.ref f_p_joined) = true)
    (a_p_join : PySem.W.nsIn K mainGlobals "join" = some (some (.ref f_p_join)))
    (l_p_join : K.lookup f_p_join = some ⟨oc_p_join, od_p_join, .func (PySem.W.fnOf "join" "join" (defArgs s_p_join) (defBody s_p_join) (defScope s_p_join) .none kV_p_join dc_p_join pm_p_join an_p_join cd_p_join ct_p_join), sl_p_join⟩)
    (c_p_join : PySem.W.codeIn K cd_p_join "join" = true) (k_p_join : PySem.W.keepIn K (.ref f_p_join) = true)
    (a_l_same : PySem.W.nsIn K mainGlobals "_law_same" = some (some (.ref f_l_same)))
    (l_l_same : K.lookup f_l_same = some ⟨oc_l_same, od_l_same, .func (PySem.W.fnOf "_law_same" "_law_same" (defArgs s_l_same) (defBody s_l_same) (defScope s_l_same) .none kV_l_same dc_l_same pm_l_same an_l_same cd_l_same ct_l_same), sl_l_same⟩)
    (c_l_same : PySem.W.codeIn K cd_l_same "_law_same" = true) (k_l_same : PySem.W.keepIn K (.ref f_l_same) = true)
    (a_l_is_integer : PySem.W.nsIn K mainGlobals "_law_is_integer" = some (some (.ref f_l_is_integer)))
    (l_l_is_integer : K.lookup f_l_is_integer = some ⟨oc_l_is_integer, od_l_is_integer, .func (PySem.W.fnOf "_law_is_integer" "_law_is_integer" (defArgs s_l_is_integer) (defBody s_l_is_integer) (defScope s_l_is_integer) .none kV_l_is_integer dc_l_is_integer pm_l_is_integer an_l_is_integer cd_l_is_integer ct_l_is_integer), sl_l_is_integer⟩)
    (c_l_is_integer : PySem.W.codeIn K cd_l_is_integer "_law_is_integer" = true) (k_l_is_integer : PySem.W.keepIn K (.ref f_l_is_integer) = true)
    (a_l_pick : PySem.W.nsIn K mainGlobals "_law_pick" = some (some (.ref f_l_pick)))
    (l_l_pick : K.lookup f_l_pick = some ⟨oc_l_pick, od_l_pick, .func (PySem.W.fnOf "_law_pick" "_law_pick" (defArgs s_l_pick) (defBody s_l_pick) (defScope s_l_pick) .none kV_l_pick dc_l_pick pm_l_pick an_l_pick cd_l_pick ct_l_pick), sl_l_pick⟩)
    (c_l_pick : PySem.W.codeIn K cd_l_pick "_law_pick" = true) (k_l_pick : PySem.W.keepIn K (.ref f_l_pick) = true)
    (a_l_occurrences : PySem.W.nsIn K mainGlobals "_law_occurrences" = some (some (.ref f_l_occurrences)))
    (l_l_occurrences : K.lookup f_l_occurrences = some ⟨oc_l_occurrences, od_l_occurrences, .func (PySem.W.fnOf "_law_occurrences" "_law_occurrences" (defArgs s_l_occurrences) (defBody s_l_occurrences) (defScope s_l_occurrences) .none kV_l_occurrences dc_l_occurrences pm_l_occurrences an_l_occurrences cd_l_occurrences ct_l_occurrences), sl_l_occurrences⟩)
    (c_l_occurrences : PySem.W.codeIn K cd_l_occurrences "_law_occurrences" = true) (k_l_occurrences : PySem.W.keepIn K (.ref f_l_occurrences) = true)
    (a_l_unlike : PySem.W.nsIn K mainGlobals "_law_unlike" = some (some (.ref f_l_unlike)))
    (l_l_unlike : K.lookup f_l_unlike = some ⟨oc_l_unlike, od_l_unlike, .func (PySem.W.fnOf "_law_unlike" "_law_unlike" (defArgs s_l_unlike) (defBody s_l_unlike) (defScope s_l_unlike) .none kV_l_unlike dc_l_unlike pm_l_unlike an_l_unlike cd_l_unlike ct_l_unlike), sl_l_unlike⟩)
    (c_l_unlike : PySem.W.codeIn K cd_l_unlike "_law_unlike" = true) (k_l_unlike : PySem.W.keepIn K (.ref f_l_unlike) = true)
    (a_l_numbers : PySem.W.nsIn K mainGlobals "_law_numbers" = some (some (.ref f_l_numbers)))
    (l_l_numbers : K.lookup f_l_numbers = some ⟨oc_l_numbers, od_l_numbers, .func (PySem.W.fnOf "_law_numbers" "_law_numbers" (defArgs s_l_numbers) (defBody s_l_numbers) (defScope s_l_numbers) .none kV_l_numbers dc_l_numbers pm_l_numbers an_l_numbers cd_l_numbers ct_l_numbers), sl_l_numbers⟩)
    (c_l_numbers : PySem.W.codeIn K cd_l_numbers "_law_numbers" = true) (k_l_numbers : PySem.W.keepIn K (.ref f_l_numbers) = true)
    (a_l_replace : PySem.W.nsIn K mainGlobals "_law_replace" = some (some (.ref f_l_replace)))
    (l_l_replace : K.lookup f_l_replace = some ⟨oc_l_replace, od_l_replace, .func (PySem.W.fnOf "_law_replace" "_law_replace" (defArgs s_l_replace) (defBody s_l_replace) (defScope s_l_replace) .none kV_l_replace dc_l_replace pm_l_replace an_l_replace cd_l_replace ct_l_replace), sl_l_replace⟩)
    (c_l_replace : PySem.W.codeIn K cd_l_replace "_law_replace" = true) (k_l_replace : PySem.W.keepIn K (.ref f_l_replace) = true)
    (a_l_renumbered : PySem.W.nsIn K mainGlobals "_law_renumbered" = some (some (.ref f_l_renumbered)))
    (l_l_renumbered : K.lookup f_l_renumbered = some ⟨oc_l_renumbered, od_l_renumbered, .func (PySem.W.fnOf "_law_renumbered" "_law_renumbered" (defArgs s_l_renumbered) (defBody s_l_renumbered) (defScope s_l_renumbered) .none kV_l_renumbered dc_l_renumbered pm_l_renumbered an_l_renumbered cd_l_renumbered ct_l_renumbered), sl_l_renumbered⟩)
    (c_l_renumbered : PySem.W.codeIn K cd_l_renumbered "_law_renumbered" = true) (k_l_renumbered : PySem.W.keepIn K (.ref f_l_renumbered) = true)
    (a_l_taken : PySem.W.nsIn K mainGlobals "_law_taken" = some (some (.ref f_l_taken)))
    (l_l_taken : K.lookup f_l_taken = some ⟨oc_l_taken, od_l_taken, .func (PySem.W.fnOf "_law_taken" "_law_taken" (defArgs s_l_taken) (defBody s_l_taken) (defScope s_l_taken) .none kV_l_taken dc_l_taken pm_l_taken an_l_taken cd_l_taken ct_l_taken), sl_l_taken⟩)
    (c_l_taken : PySem.W.codeIn K cd_l_taken "_law_taken" = true) (k_l_taken : PySem.W.keepIn K (.ref f_l_taken) = true)
    (a_l_is_instance : PySem.W.nsIn K mainGlobals "_law_is_instance" = some (some (.ref f_l_is_instance)))
    (l_l_is_instance : K.lookup f_l_is_instance = some ⟨oc_l_is_instance, od_l_is_instance, .func (PySem.W.fnOf "_law_is_instance" "_law_is_instance" (defArgs s_l_is_instance) (defBody s_l_is_instance) (defScope s_l_is_instance) .none kV_l_is_instance dc_l_is_instance pm_l_is_instance an_l_is_instance cd_l_is_instance ct_l_is_instance), sl_l_is_instance⟩)
    (c_l_is_instance : PySem.W.codeIn K cd_l_is_instance "_law_is_instance" = true) (k_l_is_instance : PySem.W.keepIn K (.ref f_l_is_instance) = true)
    (a_l_lgg : PySem.W.nsIn K mainGlobals "_law_lgg" = some (some (.ref f_l_lgg)))
    (l_l_lgg : K.lookup f_l_lgg = some ⟨oc_l_lgg, od_l_lgg, .func (PySem.W.fnOf "_law_lgg" "_law_lgg" (defArgs s_l_lgg) (defBody s_l_lgg) (defScope s_l_lgg) .none kV_l_lgg dc_l_lgg pm_l_lgg an_l_lgg cd_l_lgg ct_l_lgg), sl_l_lgg⟩)
    (c_l_lgg : PySem.W.codeIn K cd_l_lgg "_law_lgg" = true) (k_l_lgg : PySem.W.keepIn K (.ref f_l_lgg) = true)
    (a_l_joined_term : PySem.W.nsIn K mainGlobals "_law_joined_term" = some (some (.ref f_l_joined_term)))
    (l_l_joined_term : K.lookup f_l_joined_term = some ⟨oc_l_joined_term, od_l_joined_term, .func (PySem.W.fnOf "_law_joined_term" "_law_joined_term" (defArgs s_l_joined_term) (defBody s_l_joined_term) (defScope s_l_joined_term) .none kV_l_joined_term dc_l_joined_term pm_l_joined_term an_l_joined_term cd_l_joined_term ct_l_joined_term), sl_l_joined_term⟩)
    (c_l_joined_term : PySem.W.codeIn K cd_l_joined_term "_law_joined_term" = true) (k_l_joined_term : PySem.W.keepIn K (.ref f_l_joined_term) = true)
    (aLaw : PySem.W.nsIn K mainGlobals "law" = some (some (.ref fLaw)))
    (lLaw : K.lookup fLaw = some ⟨ocLaw, odLaw, .func (PySem.W.fnOf "law" "law" (defArgs sLaw) (defBody sLaw) (defScope sLaw) .none kVLaw dcLaw pmLaw anLaw cdLaw ctLaw), slLaw⟩)
    (cLaw : PySem.W.codeIn K cdLaw "law" = true) (kLaw : PySem.W.keepIn K (.ref fLaw) = true)
    (z0 : PySem.W.nsIn K mainGlobals "int" = some none)
    (z1 : PySem.W.nsIn K mainGlobals "len" = some none)
    (z2 : PySem.W.nsIn K mainGlobals "range" = some none)
    (z3 : PySem.W.nsIn K mainGlobals "list" = some none)
    (z4 : PySem.W.nsIn K mainGlobals "tuple" = some none)
    (z5 : PySem.W.nsIn K mainGlobals "isinstance" = some none)
    (z6 : PySem.W.nsIn K mainGlobals "bool" = some none)
    (z7 : PySem.W.nsIn K mainGlobals "str" = some none)
    (z8 : PySem.W.nsIn K mainGlobals "type" = some none)
    (z9 : PySem.W.nsIn K mainGlobals "max" = some none)
    (z10 : PySem.W.nsIn K mainGlobals "sum" = some none)
    (z11 : PySem.W.nsIn K mainGlobals "set" = some none)
    (z12 : PySem.W.nsIn K mainGlobals "dict" = some none)
    (z13 : PySem.W.nsIn K mainGlobals "sorted" = some none)
    (z14 : PySem.W.nsIn K mainGlobals "enumerate" = some none)
    (z15 : PySem.W.nsIn K mainGlobals "zip" = some none)
    (z16 : PySem.W.nsIn K mainGlobals "all" = some none)
    (z17 : PySem.W.nsIn K mainGlobals "repr" = some none)
    (z18 : PySem.W.nsIn K mainGlobals "min" = some none)
    : ∃ fd : FuncData, (∀ (s : Shared) (v : Value), BindsTo s fd ⟨[v], []⟩ [("script", v)]) ∧ ∀ base : Heap, K.In base → base.Ns mainGlobals mg → FnOk l.prog w K mg base CX0 26 fa fd ["script"] (spLaw K) := by
  have e := hfa.symm.trans (PySem.W.mg_of X G aLaw)
  cases e
  have FPool := fun_mk (st := sPool) lPool cPool kPool
  have FSpread := fun_mk (st := sSpread) lSpread cSpread kSpread
  have FDraw := fun_mk (st := sDraw) lDraw cDraw kDraw
  have FPick := fun_mk (st := sPick) lPick cPick kPick
  have FSpelled := fun_mk (st := sSpelled) lSpelled cSpelled kSpelled
  have FWords := fun_mk (st := sWords) lWords cWords kWords
  have FCons := fun_mk (st := sCons) lCons cCons kCons
  have FTerm := fun_mk (st := sTerm) lTerm cTerm kTerm
  have F_p_write_term := fun_mk (st := s_p_write_term) l_p_write_term c_p_write_term k_p_write_term
  have F_p_joined := fun_mk (st := s_p_joined) l_p_joined c_p_joined k_p_joined
  have F_p_join := fun_mk (st := s_p_join) l_p_join c_p_join k_p_join
  have F_l_same := fun_mk (st := s_l_same) l_l_same c_l_same k_l_same
  have F_l_is_integer := fun_mk (st := s_l_is_integer) l_l_is_integer c_l_is_integer k_l_is_integer
  have F_l_pick := fun_mk (st := s_l_pick) l_l_pick c_l_pick k_l_pick
  have F_l_occurrences := fun_mk (st := s_l_occurrences) l_l_occurrences c_l_occurrences k_l_occurrences
  have F_l_unlike := fun_mk (st := s_l_unlike) l_l_unlike c_l_unlike k_l_unlike
  have F_l_numbers := fun_mk (st := s_l_numbers) l_l_numbers c_l_numbers k_l_numbers
  have F_l_replace := fun_mk (st := s_l_replace) l_l_replace c_l_replace k_l_replace
  have F_l_renumbered := fun_mk (st := s_l_renumbered) l_l_renumbered c_l_renumbered k_l_renumbered
  have F_l_taken := fun_mk (st := s_l_taken) l_l_taken c_l_taken k_l_taken
  have F_l_is_instance := fun_mk (st := s_l_is_instance) l_l_is_instance c_l_is_instance k_l_is_instance
  have F_l_lgg := fun_mk (st := s_l_lgg) l_l_lgg c_l_lgg k_l_lgg
  have F_l_joined_term := fun_mk (st := s_l_joined_term) l_l_joined_term c_l_joined_term k_l_joined_term
  have FLaw := fun_mk (st := sLaw) lLaw cLaw kLaw
  have bPool := FPool.binds (ps := ["script"]) fun _ _ _ _ _ _ us hl => match us, hl with | [_], _ => rfl
  have mPool := PySem.W.mg_of X G aPool
  have bSpread := FSpread.binds (ps := ["cell"]) fun _ _ _ _ _ _ us hl => match us, hl with | [_], _ => rfl
  have mSpread := PySem.W.mg_of X G aSpread
  have bDraw := FDraw.binds (ps := ["pool", "many"]) fun _ _ _ _ _ _ us hl => match us, hl with | [_, _], _ => rfl
  have mDraw := PySem.W.mg_of X G aDraw
  have bPick := FPick.binds (ps := ["pool", "items"]) fun _ _ _ _ _ _ us hl => match us, hl with | [_, _], _ => rfl
  have mPick := PySem.W.mg_of X G aPick
  have bSpelled := FSpelled.binds (ps := ["number"]) fun _ _ _ _ _ _ us hl => match us, hl with | [_], _ => rfl
  have mSpelled := PySem.W.mg_of X G aSpelled
  have bWords := FWords.binds (ps := ["pool", "many"]) fun _ _ _ _ _ _ us hl => match us, hl with | [_, _], _ => rfl
  have mWords := PySem.W.mg_of X G aWords
  have bCons := FCons.binds (ps := ["pool"]) fun _ _ _ _ _ _ us hl => match us, hl with | [_], _ => rfl
  have mCons := PySem.W.mg_of X G aCons
  have bTerm := FTerm.binds (ps := ["pool", "constructors", "numbers", "deep"]) fun _ _ _ _ _ _ us hl => match us, hl with | [_, _, _, _], _ => rfl
  have mTerm := PySem.W.mg_of X G aTerm
  have b_p_write_term := F_p_write_term.binds (ps := ["term"]) fun _ _ _ _ _ _ us hl => match us, hl with | [_], _ => rfl
  have m_p_write_term := PySem.W.mg_of X G a_p_write_term
  have b_p_joined := F_p_joined.binds (ps := ["p", "q", "names"]) fun _ _ _ _ _ _ us hl => match us, hl with | [_, _, _], _ => rfl
  have m_p_joined := PySem.W.mg_of X G a_p_joined
  have b_p_join := F_p_join.binds (ps := ["p", "q"]) fun _ _ _ _ _ _ us hl => match us, hl with | [_, _], _ => rfl
  have m_p_join := PySem.W.mg_of X G a_p_join
  have b_l_same := F_l_same.binds (ps := ["actual", "due"]) fun _ _ _ _ _ _ us hl => match us, hl with | [_, _], _ => rfl
  have m_l_same := PySem.W.mg_of X G a_l_same
  have b_l_is_integer := F_l_is_integer.binds (ps := ["actual"]) fun _ _ _ _ _ _ us hl => match us, hl with | [_], _ => rfl
  have m_l_is_integer := PySem.W.mg_of X G a_l_is_integer
  have b_l_pick := F_l_pick.binds (ps := ["pool", "items"]) fun _ _ _ _ _ _ us hl => match us, hl with | [_, _], _ => rfl
  have m_l_pick := PySem.W.mg_of X G a_l_pick
  have b_l_occurrences := F_l_occurrences.binds (ps := ["term"]) fun _ _ _ _ _ _ us hl => match us, hl with | [_], _ => rfl
  have m_l_occurrences := PySem.W.mg_of X G a_l_occurrences
  have b_l_unlike := F_l_unlike.binds (ps := ["row"]) fun _ _ _ _ _ _ us hl => match us, hl with | [_], _ => rfl
  have m_l_unlike := PySem.W.mg_of X G a_l_unlike
  have b_l_numbers := F_l_numbers.binds (ps := ["terms"]) fun _ _ _ _ _ _ us hl => match us, hl with | [_], _ => rfl
  have m_l_numbers := PySem.W.mg_of X G a_l_numbers
  have b_l_replace := F_l_replace.binds (ps := ["term", "given"]) fun _ _ _ _ _ _ us hl => match us, hl with | [_, _], _ => rfl
  have m_l_replace := PySem.W.mg_of X G a_l_replace
  have b_l_renumbered := F_l_renumbered.binds (ps := ["terms"]) fun _ _ _ _ _ _ us hl => match us, hl with | [_], _ => rfl
  have m_l_renumbered := PySem.W.mg_of X G a_l_renumbered
  have b_l_taken := F_l_taken.binds (ps := ["general", "term", "given"]) fun _ _ _ _ _ _ us hl => match us, hl with | [_, _, _], _ => rfl
  have m_l_taken := PySem.W.mg_of X G a_l_taken
  have b_l_is_instance := F_l_is_instance.binds (ps := ["general", "term"]) fun _ _ _ _ _ _ us hl => match us, hl with | [_, _], _ => rfl
  have m_l_is_instance := PySem.W.mg_of X G a_l_is_instance
  have b_l_lgg := F_l_lgg.binds (ps := ["p", "q", "known"]) fun _ _ _ _ _ _ us hl => match us, hl with | [_, _, _], _ => rfl
  have m_l_lgg := PySem.W.mg_of X G a_l_lgg
  have b_l_joined_term := F_l_joined_term.binds (ps := ["p", "q"]) fun _ _ _ _ _ _ us hl => match us, hl with | [_, _], _ => rfl
  have m_l_joined_term := PySem.W.mg_of X G a_l_joined_term
  have B : Blt mg := ⟨PySem.W.mg_none_of X G z0, PySem.W.mg_none_of X G z1, PySem.W.mg_none_of X G z2, PySem.W.mg_none_of X G z3, PySem.W.mg_none_of X G z4, PySem.W.mg_none_of X G z5, PySem.W.mg_none_of X G z6, PySem.W.mg_none_of X G z7, PySem.W.mg_none_of X G z8, PySem.W.mg_none_of X G z9, PySem.W.mg_none_of X G z10, PySem.W.mg_none_of X G z11, PySem.W.mg_none_of X G z12, PySem.W.mg_none_of X G z13, PySem.W.mg_none_of X G z14, PySem.W.mg_none_of X G z15, PySem.W.mg_none_of X G z16, PySem.W.mg_none_of X G z17, PySem.W.mg_none_of X G z18⟩
  refine ⟨PySem.W.fnOf "law" "law" (defArgs sLaw) (defBody sLaw) (defScope sLaw) .none kVLaw dcLaw pmLaw anLaw cdLaw ctLaw, fun s v => .of_eq rfl, fun base _ _ => ?_⟩
  have GPool := ok_pool (P := l.prog) (w := w) (mg := mg) (base := base) FPool B
  have APool : At l.prog w K mg base "_law_pool" _ _ _ := ⟨fPool, _, GPool, bPool, kPool, mPool⟩
  have GSpread := ok_spread (P := l.prog) (w := w) (mg := mg) (base := base) FSpread B
  have ASpread : At l.prog w K mg base "_law_spread" _ _ _ := ⟨fSpread, _, GSpread, bSpread, kSpread, mSpread⟩
  have GDraw := ok_draw FDraw B GSpread bSpread kSpread mSpread
  have ADraw : At l.prog w K mg base "_law_draw" _ _ _ := ⟨fDraw, _, GDraw, bDraw, kDraw, mDraw⟩
  have Q_l_draw := Lq.conv_draw ADraw
  have GPick := ok_pick FPick B GDraw bDraw kDraw mDraw
  have APick : At l.prog w K mg base "_law_pick" _ _ _ := ⟨fPick, _, GPick, bPick, kPick, mPick⟩
  have GSpelled := ok_spelled (P := l.prog) (w := w) (mg := mg) (base := base) FSpelled B
  have ASpelled : At l.prog w K mg base "_law_spelled" _ _ _ := ⟨fSpelled, _, GSpelled, bSpelled, kSpelled, mSpelled⟩
  have GWords := ok_words FWords B GDraw bDraw kDraw mDraw GSpelled bSpelled kSpelled mSpelled
  have AWords : At l.prog w K mg base "_law_words" _ _ _ := ⟨fWords, _, GWords, bWords, kWords, mWords⟩
  have Q_l_words := Lq.conv_words AWords
  have GCons := ok_cons FCons B GDraw bDraw kDraw mDraw GWords bWords kWords mWords
  have ACons : At l.prog w K mg base "_law_constructors" _ _ _ := ⟨fCons, _, GCons, bCons, kCons, mCons⟩
  have Q_l_constructors := Lq.conv_cons ACons
  have GTerm := ok_term FTerm B GDraw bDraw kDraw mDraw GPick bPick kPick mPick bTerm mTerm 6
  have ATerm : At l.prog w K mg base "_law_term" _ _ _ := ⟨fTerm, _, GTerm, bTerm, kTerm, mTerm⟩
  have Q_l_term := Lq.conv_term ATerm
  have G_p_write_term := Lq.q_p_write_term (P := l.prog) (w := w) (base := base) (lv := 0) F_p_write_term B b_p_write_term m_p_write_term   12
  have A_p_write_term : At l.prog w K mg base "write_term" _ _ _ := ⟨f_p_write_term, _, G_p_write_term, b_p_write_term, k_p_write_term, m_p_write_term⟩
  have Q_p_write_term : Cf.At l.prog w K mg base "write_term" 12 ["term"] (Lq.spQ 1 Lq.M_p_write_term) := A_p_write_term
  have G_p_joined := Lq.q_p_joined (P := l.prog) (w := w) (base := base) (lv := 12) F_p_joined B b_p_joined m_p_joined Q_p_write_term (by decide)  12
  have A_p_joined : At l.prog w K mg base "joined" _ _ _ := ⟨f_p_joined, _, G_p_joined, b_p_joined, k_p_joined, m_p_joined⟩
  have Q_p_joined : Cf.At l.prog w K mg base "joined" 24 ["p", "q", "names"] (Lq.spZ 2 1 Lq.M_p_joined) := A_p_joined
  have G_p_join := Lq.q_p_join (P := l.prog) (w := w) (base := base) (lv := 24) F_p_join B Q_p_joined (by decide) 
  have A_p_join : At l.prog w K mg base "join" _ _ _ := ⟨f_p_join, _, G_p_join, b_p_join, k_p_join, m_p_join⟩
  have Q_p_join : Cf.At l.prog w K mg base "join" 25 ["p", "q"] (Lq.spQ 2 Lq.M_p_join) := A_p_join
  have G_l_same := Lq.q_l_same (P := l.prog) (w := w) (base := base) (lv := 0) F_l_same B b_l_same m_l_same   12
  have A_l_same : At l.prog w K mg base "_law_same" _ _ _ := ⟨f_l_same, _, G_l_same, b_l_same, k_l_same, m_l_same⟩
  have Q_l_same : Cf.At l.prog w K mg base "_law_same" 12 ["actual", "due"] (Lq.spQ 2 Lq.M_l_same) := A_l_same
  have G_l_is_integer := Lq.q_l_is_integer (P := l.prog) (w := w) (base := base) (lv := 0) F_l_is_integer B  
  have A_l_is_integer : At l.prog w K mg base "_law_is_integer" _ _ _ := ⟨f_l_is_integer, _, G_l_is_integer, b_l_is_integer, k_l_is_integer, m_l_is_integer⟩
  have Q_l_is_integer : Cf.At l.prog w K mg base "_law_is_integer" 1 ["actual"] (Lq.spQ 1 Lq.M_l_is_integer) := A_l_is_integer
  have G_l_pick := Lq.q_l_pick (P := l.prog) (w := w) (base := base) (lv := 2) F_l_pick B Q_l_draw (by decide) 
  have A_l_pick : At l.prog w K mg base "_law_pick" _ _ _ := ⟨f_l_pick, _, G_l_pick, b_l_pick, k_l_pick, m_l_pick⟩
  have Q_l_pick : Cf.At l.prog w K mg base "_law_pick" 3 ["pool", "items"] (Lq.spQP 1 Lq.M_l_pick) := A_l_pick
  have G_l_occurrences := Lq.q_l_occurrences (P := l.prog) (w := w) (base := base) (lv := 1) F_l_occurrences B b_l_occurrences m_l_occurrences Q_l_is_integer (by decide)  12
  have A_l_occurrences : At l.prog w K mg base "_law_occurrences" _ _ _ := ⟨f_l_occurrences, _, G_l_occurrences, b_l_occurrences, k_l_occurrences, m_l_occurrences⟩
  have Q_l_occurrences : Cf.At l.prog w K mg base "_law_occurrences" 13 ["term"] (Lq.spQ 1 Lq.M_l_occurrences) := A_l_occurrences
  have G_l_unlike := Lq.q_l_unlike (P := l.prog) (w := w) (base := base) (lv := 0) F_l_unlike B  
  have A_l_unlike : At l.prog w K mg base "_law_unlike" _ _ _ := ⟨f_l_unlike, _, G_l_unlike, b_l_unlike, k_l_unlike, m_l_unlike⟩
  have Q_l_unlike : Cf.At l.prog w K mg base "_law_unlike" 1 ["row"] (Lq.spQ 1 Lq.M_l_unlike) := A_l_unlike
  have G_l_numbers := Lq.q_l_numbers (P := l.prog) (w := w) (base := base) (lv := 13) F_l_numbers B Q_l_occurrences (by decide) Q_l_unlike (by decide) 
  have A_l_numbers : At l.prog w K mg base "_law_numbers" _ _ _ := ⟨f_l_numbers, _, G_l_numbers, b_l_numbers, k_l_numbers, m_l_numbers⟩
  have Q_l_numbers : Cf.At l.prog w K mg base "_law_numbers" 14 ["terms"] (Lq.spQ 1 Lq.M_l_numbers) := A_l_numbers
  have G_l_replace := Lq.q_l_replace (P := l.prog) (w := w) (base := base) (lv := 1) F_l_replace B b_l_replace m_l_replace Q_l_is_integer (by decide)  12
  have A_l_replace : At l.prog w K mg base "_law_replace" _ _ _ := ⟨f_l_replace, _, G_l_replace, b_l_replace, k_l_replace, m_l_replace⟩
  have Q_l_replace : Cf.At l.prog w K mg base "_law_replace" 13 ["term", "given"] (Lq.spQ 2 Lq.M_l_replace) := A_l_replace
  have G_l_renumbered := Lq.q_l_renumbered (P := l.prog) (w := w) (base := base) (lv := 14) F_l_renumbered B Q_l_numbers (by decide) Q_l_replace (by decide) 
  have A_l_renumbered : At l.prog w K mg base "_law_renumbered" _ _ _ := ⟨f_l_renumbered, _, G_l_renumbered, b_l_renumbered, k_l_renumbered, m_l_renumbered⟩
  have Q_l_renumbered : Cf.At l.prog w K mg base "_law_renumbered" 15 ["terms"] (Lq.spQ 1 Lq.M_l_renumbered) := A_l_renumbered
  have G_l_taken := Lq.q_l_taken (P := l.prog) (w := w) (base := base) (lv := 1) F_l_taken B b_l_taken m_l_taken Q_l_is_integer (by decide)  12
  have A_l_taken : At l.prog w K mg base "_law_taken" _ _ _ := ⟨f_l_taken, _, G_l_taken, b_l_taken, k_l_taken, m_l_taken⟩
  have Q_l_taken : Cf.At l.prog w K mg base "_law_taken" 13 ["general", "term", "given"] (Lq.spZ 2 1 Lq.M_l_taken) := A_l_taken
  have G_l_is_instance := Lq.q_l_is_instance (P := l.prog) (w := w) (base := base) (lv := 13) F_l_is_instance B Q_l_taken (by decide) 
  have A_l_is_instance : At l.prog w K mg base "_law_is_instance" _ _ _ := ⟨f_l_is_instance, _, G_l_is_instance, b_l_is_instance, k_l_is_instance, m_l_is_instance⟩
  have Q_l_is_instance : Cf.At l.prog w K mg base "_law_is_instance" 14 ["general", "term"] (Lq.spQ 2 Lq.M_l_is_instance) := A_l_is_instance
  have G_l_lgg := Lq.q_l_lgg (P := l.prog) (w := w) (base := base) (lv := 1) F_l_lgg B b_l_lgg m_l_lgg Q_l_is_integer (by decide)  12
  have A_l_lgg : At l.prog w K mg base "_law_lgg" _ _ _ := ⟨f_l_lgg, _, G_l_lgg, b_l_lgg, k_l_lgg, m_l_lgg⟩
  have Q_l_lgg : Cf.At l.prog w K mg base "_law_lgg" 13 ["p", "q", "known"] (Lq.spZ 2 1 Lq.M_l_lgg) := A_l_lgg
  have G_l_joined_term := Lq.q_l_joined_term (P := l.prog) (w := w) (base := base) (lv := 15) F_l_joined_term B Q_l_renumbered (by decide) Q_l_lgg (by decide) 
  have A_l_joined_term : At l.prog w K mg base "_law_joined_term" _ _ _ := ⟨f_l_joined_term, _, G_l_joined_term, b_l_joined_term, k_l_joined_term, m_l_joined_term⟩
  have Q_l_joined_term : Cf.At l.prog w K mg base "_law_joined_term" 16 ["p", "q"] (Lq.spQ 2 Lq.M_l_joined_term) := A_l_joined_term
  exact Lq.q_l_law (P := l.prog) (w := w) (base := base) (lv := 25) FLaw B APool (by decide) Q_l_constructors (by decide) Q_l_term (by decide) Q_l_draw (by decide) Q_l_replace (by decide) Q_p_join (by decide) Q_l_same (by decide) Q_l_joined_term (by decide) Q_l_is_instance (by decide)  Lq.ok_law
theorem walk {l : PySem.W.OpenLaw} {q : Program} {loose : List Str} {XP : (Str → Option Value) → Heap → Prop} {YP : World → Heap → Prop} {d : DefRec} {K : Params → PySem.W.Frag} (hn : l.most = some 63) (hdf : d.params.defaults = [])
    (hY : ∀ (w : World) (h : Heap), YP w h → (K w.params).In h)
    (F : ∀ (w : World) (mg : Str → Option Value) (fa : Addr) (h : Heap), (K w.params).In h → h.Ns mainGlobals mg → mg d.name = some (.ref fa) →
      ∃ fd : FuncData, (∀ (s : Shared) (u : Value), BindsTo s fd ⟨[u], []⟩ [("script", u)]) ∧ ∀ base : Heap, (K w.params).In base → base.Ns mainGlobals mg → FnOk l.prog w (K w.params) mg base CX0 26 fa fd ["script"] (spLaw (K w.params))) :
    PySem.W.WalkO q loose XP YP l.row.toRowW d [] (fun f vs => PySem.call f vs) :=
  L2.walk_of (n := 63) (k := 26) (x := "script") (CX := fun _ => CX0) (sp := fun w => spLaw (K w.params)) hn (by decide) hdf ⟨rfl, by decide, by decide⟩ hY F (fun _ _ a ns hl _ hS => ⟨a, ns, rfl, hS, hl, fun _ => rfl⟩) fun _ _ _ _ _ z => z
end
end Cf
open PySem PySem.W PyProof.Rows
set_option maxRecDepth 100000 in
set_option maxHeartbeats 0 in
theorem PySem.Challenge.cw_casefamilies_k12_joins_holds : PySem.Challenge.rw_casefamilies_k12_joins.Holds := by
  w_on; o_law; k_head; (case hw => w_witness2)
  k_fill
  refine Cf.walk (l := PySem.Challenge.rw_casefamilies_k12_joins) rfl rfl (fun w h Y => PySem.W.kIn_of Y) ?F
  case F =>
    intro w mg fa h KX G hmg
    refine' Cf.all_mk KX G hmg ?aPool ?lPool ?cPool ?kPool ?aSpread ?lSpread ?cSpread ?kSpread ?aDraw ?lDraw ?cDraw ?kDraw ?aPick ?lPick ?cPick ?kPick ?aSpelled ?lSpelled ?cSpelled ?kSpelled ?aWords ?lWords ?cWords ?kWords ?aCons ?lCons ?cCons ?kCons ?aTerm ?lTerm ?cTerm ?kTerm ?a_p_write_term ?l_p_write_term ?c_p_write_term ?k_p_write_term ?a_p_joined ?l_p_joined ?c_p_joined ?k_p_joined ?a_p_join ?l_p_join ?c_p_join ?k_p_join ?a_l_same ?l_l_same ?c_l_same ?k_l_same ?a_l_is_integer ?l_l_is_integer ?c_l_is_integer ?k_l_is_integer ?a_l_pick ?l_l_pick ?c_l_pick ?k_l_pick ?a_l_occurrences ?l_l_occurrences ?c_l_occurrences ?k_l_occurrences ?a_l_unlike ?l_l_unlike ?c_l_unlike ?k_l_unlike ?a_l_numbers ?l_l_numbers ?c_l_numbers ?k_l_numbers ?a_l_replace ?l_l_replace ?c_l_replace ?k_l_replace ?a_l_renumbered ?l_l_renumbered ?c_l_renumbered ?k_l_renumbered ?a_l_taken ?l_l_taken ?c_l_taken ?k_l_taken ?a_l_is_instance ?l_l_is_instance ?c_l_is_instance ?k_l_is_instance ?a_l_lgg ?l_l_lgg ?c_l_lgg ?k_l_lgg ?a_l_joined_term ?l_l_joined_term ?c_l_joined_term ?k_l_joined_term ?aLaw ?lLaw ?cLaw ?kLaw ?z0 ?z1 ?z2 ?z3 ?z4 ?z5 ?z6 ?z7 ?z8 ?z9 ?z10 ?z11 ?z12 ?z13 ?z14 ?z15 ?z16 ?z17 ?z18  
    (case aPool => k_is); (case lPool => k_is); (case cPool => k_is); (case kPool => k_is)
    (case aSpread => k_is); (case lSpread => k_is); (case cSpread => k_is); (case kSpread => k_is)
    (case aDraw => k_is); (case lDraw => k_is); (case cDraw => k_is); (case kDraw => k_is)
    (case aPick => k_is); (case lPick => k_is); (case cPick => k_is); (case kPick => k_is)
    (case aSpelled => k_is); (case lSpelled => k_is); (case cSpelled => k_is); (case kSpelled => k_is)
    (case aWords => k_is); (case lWords => k_is); (case cWords => k_is); (case kWords => k_is)
    (case aCons => k_is); (case lCons => k_is); (case cCons => k_is); (case kCons => k_is)
    (case aTerm => k_is); (case lTerm => k_is); (case cTerm => k_is); (case kTerm => k_is)
    (case a_p_write_term => k_is); (case l_p_write_term => k_is); (case c_p_write_term => k_is); (case k_p_write_term => k_is)
    (case a_p_joined => k_is); (case l_p_joined => k_is); (case c_p_joined => k_is); (case k_p_joined => k_is)
    (case a_p_join => k_is); (case l_p_join => k_is); (case c_p_join => k_is); (case k_p_join => k_is)
    (case a_l_same => k_is); (case l_l_same => k_is); (case c_l_same => k_is); (case k_l_same => k_is)
    (case a_l_is_integer => k_is); (case l_l_is_integer => k_is); (case c_l_is_integer => k_is); (case k_l_is_integer => k_is)
    (case a_l_pick => k_is); (case l_l_pick => k_is); (case c_l_pick => k_is); (case k_l_pick => k_is)
    (case a_l_occurrences => k_is); (case l_l_occurrences => k_is); (case c_l_occurrences => k_is); (case k_l_occurrences => k_is)
    (case a_l_unlike => k_is); (case l_l_unlike => k_is); (case c_l_unlike => k_is); (case k_l_unlike => k_is)
    (case a_l_numbers => k_is); (case l_l_numbers => k_is); (case c_l_numbers => k_is); (case k_l_numbers => k_is)
    (case a_l_replace => k_is); (case l_l_replace => k_is); (case c_l_replace => k_is); (case k_l_replace => k_is)
    (case a_l_renumbered => k_is); (case l_l_renumbered => k_is); (case c_l_renumbered => k_is); (case k_l_renumbered => k_is)
    (case a_l_taken => k_is); (case l_l_taken => k_is); (case c_l_taken => k_is); (case k_l_taken => k_is)
    (case a_l_is_instance => k_is); (case l_l_is_instance => k_is); (case c_l_is_instance => k_is); (case k_l_is_instance => k_is)
    (case a_l_lgg => k_is); (case l_l_lgg => k_is); (case c_l_lgg => k_is); (case k_l_lgg => k_is)
    (case a_l_joined_term => k_is); (case l_l_joined_term => k_is); (case c_l_joined_term => k_is); (case k_l_joined_term => k_is)
    (case aLaw => k_is); (case lLaw => k_is); (case cLaw => k_is); (case kLaw => k_is)
    (case z0 => k_is)
    (case z1 => k_is)
    (case z2 => k_is)
    (case z3 => k_is)
    (case z4 => k_is)
    (case z5 => k_is)
    (case z6 => k_is)
    (case z7 => k_is)
    (case z8 => k_is)
    (case z9 => k_is)
    (case z10 => k_is)
    (case z11 => k_is)
    (case z12 => k_is)
    (case z13 => k_is)
    (case z14 => k_is)
    (case z15 => k_is)
    (case z16 => k_is)
    (case z17 => k_is)
    (case z18 => k_is)
