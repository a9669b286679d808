import PyProof.Rows.All
import Wide.All
import OpenK.AllK
import Wide.FinOn
import HandS.ForMost
import HandS.Wide
import HandS.Codes
import HandS.IsInst
import HandS.IntHex
import HandS.AnyAll
import HandS.Walk
import HandS.Flow
import HandS.StrMore
import HandS.EndTab
import HandS.List
import KE.SortData
import HandS.DictTup
import HandS.Iter
import HandS.Conv
import KE.KDictSum
import KE.KDictCopyH
import HandS.Finally
import PyProof.Transfer
import HandS.More
import HandS.Ends
import PyProof.ReprRoads
import PyProof.ReprBulk
import PyProof.StrHeap
import HandS.DictEq
import HandS.DictComp
import PyProof.DictFindH
import HandS.WideBits
import HandS.Dict
import HandS.Style
import HandS.Small
import PyProof.ReprReads
import KE.RegKIsAll
import PySem.Challenge.RW_wholepackets_k24_ledgers
set_option Elab.async false
set_option linter.all false
set_option maxRecDepth 100000
set_option maxHeartbeats 4000000
namespace Pk
open PySem PySem.Spec PyProof.Rows L2

/-! ### the drawing state of the law: at s the list [cells, seed], at c the cells -/
def StAt (H : Hp) (s c : Addr) : Prop := ∃ (cells : List Int) (seed : Int), H s = some (.lst [.ref c, .int seed]) ∧ H c = some (.lst (cells.map V.int)) ∧
  (∀ z ∈ cells, 0 ≤ z) ∧ 0 ≤ seed ∧ seed < 2147483648
theorem StAt.ne {H : Hp} {s c : Addr} (h : StAt H s c) : s ≠ c := by
  obtain ⟨cells, seed, h1, h2, _⟩ := h
  refine ne_of h1 h2 fun z => ?_
  have z' := HO.lst.inj z
  cases cells with
  | nil => cases z'
  | cons a r =>
    have e : V.ref c = V.int a := (List.cons.inj z').1
    cases e
/-- what stood beside s and c stands -/
def Kp (s c : Addr) (H H' : Hp) : Prop := ∀ b o, b ≠ s → b ≠ c → H b = some o → H' b = some o
theorem Kp.refl (s c : Addr) (H : Hp) : Kp s c H H := fun _ _ _ _ e => e
theorem Kp.trans {s c : Addr} {H H1 H2 : Hp} (a : Kp s c H H1) (b : Kp s c H1 H2) : Kp s c H H2 := fun x o h1 h2 e => b x o h1 h2 (a x o h1 h2 e)
theorem Kp.same {s c : Addr} {H H1 : Hp} (a : Same H H1) : Kp s c H H1 := fun x o _ _ e => a x o e
theorem Kp.new {s c p : Addr} {H : Hp} {o : HO} (h : H p = none) : Kp s c H (upd H p o) := fun b u _ _ e => by
  rw [upd_ne (ne_of_none e h)]
  exact e
theorem same_new {p : Addr} {H : Hp} {o : HO} (h : H p = none) : Same H (upd H p o) := fun b u e => by
  rw [upd_ne (ne_of_none e h)]
  exact e
theorem StAt.same {H H' : Hp} {s c : Addr} (h : StAt H s c) (k : Same H H') : StAt H' s c := by
  obtain ⟨cells, seed, h1, h2, h3⟩ := h
  exact ⟨cells, seed, k _ _ h1, k _ _ h2, h3⟩
theorem StAt.upd {H : Hp} {s c p : Addr} {o : HO} (h : StAt H s c) (n1 : p ≠ s) (n2 : p ≠ c) : StAt (upd H p o) s c := by
  obtain ⟨cells, seed, h1, h2, h3⟩ := h
  exact ⟨cells, seed, by rw [upd_ne (Ne.symm n1)]; exact h1, by rw [upd_ne (Ne.symm n2)]; exact h2, h3⟩
theorem StAt.new {H : Hp} {s c p : Addr} {o : HO} (h : StAt H s c) (n : H p = none) : StAt (L2.upd H p o) s c := h.same (same_new n)

/-! ### promises of the drawing defs -/
def spState (K : PySem.W.Frag) : Sp := fun vs H Q _ => ∃ (a : Addr) (ns : List Int), vs = [.ref a] ∧ SqL K H a (ns.map V.int) ∧ ns.length ≤ 63 ∧
  ∀ (H' : Hp) (s c : Addr), Same H H' → H s = none → H c = none → StAt H' s c → Q (.ref s) H'
def spDraw : Sp := fun vs H Q _ => ∃ (s c : Addr) (many : Int), vs = [.ref s, .int many] ∧ StAt H s c ∧ 0 < many ∧ many ≤ 1099511627776 ∧
  ∀ (H' : Hp) (r : Int), 0 ≤ r → r < many → StAt H' s c → Kp s c H H' → Q (.int r) H'
def spPick (K : PySem.W.Frag) : Sp := fun vs H Q _ => ∃ (s c p : Addr) (xs : List V), vs = [.ref s, .ref p] ∧ StAt H s c ∧ SqL K H p xs ∧ p ≠ s ∧ p ≠ c ∧ 0 < xs.length ∧ xs.length ≤ 1000 ∧
  ∀ (H' : Hp) (i : Nat) (x : V), xs[i]? = some x → StAt H' s c → Kp s c H H' → Q x H'
theorem Kp.seq {K : PySem.W.Frag} {s c p : Addr} {H H' : Hp} {xs : List V} (k : Kp s c H H') (h : SqL K H p xs) (n1 : p ≠ s) (n2 : p ≠ c) : SqL K H' p xs := by
  rcases h with (h | ⟨o, h⟩) | h
  · exact .inl (.inl (k _ _ n1 n2 h))
  · exact .inl (.inr ⟨o, k _ _ n1 n2 h⟩)
  · exact .inr h
theorem iteD {p A B : Prop} [Decidable p] (h1 : p → A) (h2 : ¬ p → B) : if decide p = true then A else B := by
  by_cases h : p
  · rw [if_pos (decide_eq_true h)]
    exact h1 h
  · rw [decide_eq_false h, if_neg Bool.false_ne_true]
    exact h2 h
theorem iteDT {p A B : Prop} [Decidable p] (h : p) (h1 : A) : if decide p = true then A else B := by
  rw [if_pos (decide_eq_true h)]
  exact h1
theorem iteDF {p A B : Prop} [Decidable p] (h : ¬ p) (h1 : B) : if decide p = true then A else B := by
  rw [decide_eq_false h, if_neg Bool.false_ne_true]
  exact h1
theorem dcInt {i j : Int} : decide (V.int i = V.int j) = decide (i = j) := by
  by_cases h : i = j
  · rw [h, decide_eq_true rfl, decide_eq_true rfl]
  · rw [decide_eq_false h, decide_eq_false fun z => h (V.int.inj z)]
/-- built-ins that the law's own text does not name anew -/
structure Blt (mg : Str → Option Value) : Prop where
  zInt : mg "int" = none
  zAbs : mg "abs" = none
  zLen : mg "len" = none
end Pk
set_option Elab.async false
set_option linter.all false
set_option maxRecDepth 100000
set_option maxHeartbeats 4000000
namespace Pk
open PySem PySem.Spec PyProof.Rows L2
def topS (i : Nat) : Stmt := PySem.Challenge.pw_wholepackets_k24_ledgers.main.body.getD i (.Pass ⟨0, 0, 0, 0⟩)
abbrev sState : Stmt := topS 3
abbrev sDraw : Stmt := topS 4
abbrev sPick : Stmt := topS 5
theorem scState : FnScope ["script", "seed", "cell"] ["script"] (defScope sState) := ⟨rfl, rfl, rfl, by decide +kernel, rfl, by decide +kernel, by decide +kernel⟩
theorem scDraw : FnScope ["state", "many", "cells", "value", "mixed"] ["state", "many"] (defScope sDraw) := ⟨rfl, rfl, rfl, by decide +kernel, rfl, by decide +kernel, by decide +kernel⟩
theorem scPick : FnScope ["state", "row"] ["state", "row"] (defScope sPick) := ⟨rfl, rfl, rfl, by decide +kernel, rfl, by decide +kernel, by decide +kernel⟩
section
variable {P : Program} {w : World} {K : PySem.W.Frag} {mg : Str → Option Value} {base : Heap}
theorem map_at {ns : List Int} {i : Nat} {y : V} (h : (ns.map V.int)[i]? = some y) : ∃ z, ns[i]? = some z ∧ y = V.int z := by
  rw [List.getElem?_map] at h
  cases e : ns[i]? with
  | none => rw [e] at h; cases h
  | some z => rw [e] at h; exact ⟨z, rfl, (Option.some.inj h).symm⟩
def absI (z : Int) : Int := if z < 0 then -z else z
theorem ok_state {f : Addr} {fd : FuncData} {k : Nat} (F : Fun K "_law_state" "_law_state" sState f fd) (T : Blt mg) : FnOk P w K mg base CX0 (k + 1) f fd ["script"] (spState K) := by
  refine F.ok scState (fun vs H Q E h => ?_) (fun cdv A outer s H vs Q E hr h => ?_)
  · obtain ⟨a, ns, rfl, _⟩ := h
    rfl
  · obtain ⟨a, ns, rfl, hS, hn, q⟩ := h
    refine ⟨_, pss_cons (ps_set (i := 1) scState.nd rfl (.inl rfl) pe_int)
      (pss_cons (ps_for PassesOwn.never rfl (pi_list (pv 0)) (pg_name (i := 2) scState.nd rfl (.inl rfl))
        (pss_one (ps_set (i := 1) scState.nd rfl (.inl rfl) (pe_op op_mod (pe_callTy call_int1 (by rfl) T.zInt (by decide +kernel) (pa_cons (pe_op op_add (pe_op op_mul (pv 1) pe_int) (pv 2)) pa_nil)) pe_int))))
      (pss_one (ps_ret (pe_lst (pa_cons (pe_lc (own := [("cell", 2)]) (g := gName 2) (tt := tYes) rfl scState.nd (pi_list (pv 0)) (blkOk_by (N := ["script", "seed", "cell"]) (sc := defScope sState) (by decide +kernel))
        (fun _ _ _ _ _ => pg_name (i := 2) scState.nd rfl (Or.inl rfl)) (fun _ _ _ _ _ => pts_nil) (fun _ _ _ _ _ => pe_callB call_abs (by rfl) T.zAbs (by decide +kernel) (pa_cons (pv 2) pa_nil)))
        (pa_cons (pe_op op_add (pv 1) pe_int) pa_nil)))))), ?_⟩
    refine ⟨_, rfl, a, rfl, ⟨_, hS⟩, for_list (K := K) (a := a) (xs := ns.map V.int) (fun i σ H' => ∃ (sd : Int) (v : Option V), σ = [some (.ref a), some (.int sd), v] ∧ H' = H ∧ 0 ≤ sd ∧ sd < 1000003)
      ⟨7, none, rfl, rfl, by decide, by decide⟩ (fun i σ H' _ ⟨_, _, _, e, _⟩ => by subst e; exact hS) ?_ ?_⟩
    · rintro i y σ H' hi ⟨sd, v, rfl, rfl, h0, h1⟩
      obtain ⟨z, _, rfl⟩ := map_at hi
      refine ⟨_, rfl, _, _, rfl, rfl, .inl ⟨by omega, by omega⟩, _, rfl, _, _, rfl, rfl, .inl ⟨_, rfl, _, _, rfl, rfl, (by show (0 : Int) < 1000003; decide), ?_⟩⟩
      exact ⟨_, _, rfl, rfl, Int.emod_nonneg _ (by decide), Int.emod_lt_of_pos _ (by decide)⟩
    · rintro σ H' ⟨sd, v, rfl, rfl, h0, h1⟩
      refine ⟨_, rfl, a, rfl, ⟨_, hS⟩, fun D hD => lc_list (K := K) (a := a) (xs := ns.map V.int) (fun i H2 => Same H' H2 ∧ H2 D = some (.lst ((ns.take i).map fun z => V.int (absI z))))
        ⟨same_new hD, upd_same⟩ (fun i H2 _ h => h.1.seq hS) ?_ ?_⟩
      · rintro i y H2 hi ⟨k1, k2⟩
        obtain ⟨z, hz, rfl⟩ := map_at hi
        refine ⟨rfl, ⟨_, rfl, _, rfl, _, k2, ?_, fun b o e => ?_, ?_⟩⟩
        · rw [List.length_map, List.length_take]
          exact Nat.lt_of_le_of_lt (Nat.min_le_right _ _) (small1000 (by omega))
        · rw [upd_ne (ne_of_none e hD)]
          exact k1 b o e
        · rw [upd_same, List.take_add_one, hz, List.map_append]
          rfl
      · rintro H2 ⟨k1, k2⟩
        refine ⟨_, rfl, _, _, rfl, rfl, (by show 2 ≤ sizeLine; decide), fun p hp => ?_⟩
        have e : (ns.map V.int).length = ns.length := List.length_map ..
        rw [e, List.take_length] at k2
        have npD : D ≠ p := ne_of_none k2 hp
        refine q _ p D (k1.trans (same_new hp)) (k1.free hp) hD ⟨ns.map absI, sd + 1, upd_same, ?_, ?_, by omega, by omega⟩
        · rw [upd_ne npD, k2, List.map_map]
          rfl
        · intro z hz
          obtain ⟨y, _, rfl⟩ := List.mem_map.mp hz
          unfold absI
          split <;> omega
theorem ok_draw {f : Addr} {fd : FuncData} {k : Nat} (F : Fun K "_law_draw" "_law_draw" sDraw f fd) (T : Blt mg) : FnOk P w K mg base CX0 (k + 1) f fd ["state", "many"] spDraw := by
  refine F.ok scDraw (fun vs H Q E h => ?_) (fun cdv A outer s H vs Q E hr h => ?_)
  · obtain ⟨s, c, many, rfl, _⟩ := h
    rfl
  · obtain ⟨s, c, many, rfl, hS, hm0, hm1, q⟩ := h
    refine ⟨_, pss_cons (ps_set (i := 2) scDraw.nd rfl (.inl rfl) (pe_ix ix_list (pv 0) pe_int (fun _ _ => rfl)))
      (pss_cons (ps_while PassesOwn.never (PW.pt (pw_and (pt_cmpR op_gt (pe_callB call_len_seq (by rfl) T.zLen PySem.boot_len (pa_cons (pv 2) pa_nil)) pe_int (nomark _)) (pw_and1 (pt_cmpR op_eq (pe_ix ix_list (pv 2) pe_int (fun _ _ => rfl)) pe_int (nomark _)))))
        (pss_one (ps_expr (pe_bm PySem.F.plainAttrs_list PySem.F.slot_list_pop PySem.F.type_list_pop mt_popAt (pv 2) (pa_cons pe_int pa_nil)))))
      (pss_cons (ps_if (pt_cmpR op_gt (pe_callB call_len_seq (by rfl) T.zLen PySem.boot_len (pa_cons (pv 2) pa_nil)) pe_int (nomark _))
        (pss_cons (ps_set (i := 3) scDraw.nd rfl (.inl rfl) (pe_ix ix_list (pv 2) pe_int (fun _ _ => rfl)))
        (pss_cons (ps_asg (pe_op op_fdivW (pv 3) (pv 1)) (pg_sub (pv 2) pe_int set_list))
        (pss_one (ps_ret (pe_op op_mod (pe_callTy call_int1 (by rfl) T.zInt (by decide +kernel) (pa_cons (pv 3) pa_nil)) (pv 1)))))) pss_nil)
      (pss_cons (ps_set (i := 4) scDraw.nd rfl (.inl rfl) (pe_op op_mod (pe_callTy call_int1 (by rfl) T.zInt (by decide +kernel) (pa_cons (pe_op op_add (pe_op op_mul (pe_ix ix_list (pv 0) pe_int (fun _ _ => rfl)) pe_int) pe_int) pa_nil)) pe_int))
      (pss_cons (ps_asg (pv 4) (pg_sub (pv 0) pe_int set_list))
      (pss_one (ps_ret (pe_op op_mod (pe_callTy call_int1 (by rfl) T.zInt (by decide +kernel) (pa_cons (pe_op op_fdivW (pv 4) pe_int) pa_nil)) (pv 1)))))))), ?_⟩
    have hSC := hS
    have hne := hS.ne
    obtain ⟨cells, seed, h1, h2, h3, h4, h5⟩ := hS
    refine ⟨.ref s, rfl, s, _, _, _, rfl, rfl, SqL.of h1, atI_nat (j := 0) rfl, ?_⟩
    -- the while: cells lose their zeros
    refine ⟨fun m σ H' => ∃ cs : List Int, m = cs.length ∧ σ = [some (.ref s), some (.int many), some (.ref c), none, none] ∧ H' s = some (.lst [.ref c, .int seed]) ∧ H' c = some (.lst (cs.map V.int)) ∧ (∀ z ∈ cs, 0 ≤ z) ∧ Kp s c H H',
      ⟨cells.length, cells, rfl, rfl, h1, h2, h3, Kp.refl _ _ _⟩, ?_⟩
    rintro m σ H' ⟨cs, rfl, rfl, g1, g2, g3, g4⟩
    refine ⟨.ref c, rfl, c, _, rfl, .inl (SqL.of g2), _, _, rfl, rfl, _, rfl, ?_⟩
    cases cs with
    | nil =>
      refine iteDF (by decide) (iteF ?_)
      -- no cell is left: mixed
      refine ⟨.ref c, rfl, c, _, rfl, .inl (SqL.of g2), _, _, rfl, rfl, _, rfl, iteDF (by decide) ?_⟩
      refine ⟨.ref s, rfl, s, _, _, _, rfl, rfl, SqL.of g1, atI_nat (j := 1) rfl, _, _, rfl, rfl, .inl ⟨by omega, by omega⟩, _, _, rfl, rfl, .inl ⟨_, rfl, _, _, rfl, rfl, (by show (0 : Int) < 2147483647; decide), ?_⟩⟩
      have b0 : 0 ≤ (seed * 48271 + 12345) % 2147483647 := Int.emod_nonneg _ (by decide)
      have b1 : (seed * 48271 + 12345) % 2147483647 < 2147483647 := Int.emod_lt_of_pos _ (by decide)
      refine ⟨_, rfl, .ref s, rfl, s, _, _, 1, rfl, rfl, g1, rfl, ?_⟩
      refine ⟨_, rfl, _, _, rfl, rfl, ⟨by decide, by decide⟩, .inl ⟨_, rfl, _, rfl, _, _, rfl, rfl, hm0, ?_⟩⟩
      refine q _ _ (Int.emod_nonneg _ (by omega)) (Int.emod_lt_of_pos _ hm0) ⟨[], _, upd_same, ?_, fun z hz => absurd hz (by simp), b0, by omega⟩ fun b o n1 n2 e => ?_
      · rw [upd_ne (Ne.symm hne)]
        exact g2
      · rw [upd_ne n1]
        exact g4 b o n1 n2 e
    | cons z r =>
      refine iteDT (by rw [List.length_map, List.length_cons]; omega) ?_
      refine ⟨.ref c, rfl, c, _, _, _, rfl, rfl, SqL.of g2, atI_nat (j := 0) rfl, rfl, _, rfl, ?_⟩
      rw [dcInt]
      refine iteD (fun hz => ?_) fun hz => ?_
      · -- a zero is dropped
        refine ⟨fun σ' H' => ∃ m', m' < (z :: r).length ∧ ∃ cs : List Int, m' = cs.length ∧ σ' = [some (.ref s), some (.int many), some (.ref c), none, none] ∧ H' s = some (.lst [.ref c, .int seed]) ∧ H' c = some (.lst (cs.map V.int)) ∧ (∀ z ∈ cs, 0 ≤ z) ∧ Kp s c H H',
          fun _ _ h => h, ?_⟩
        refine ⟨.ref c, rfl, .inl ⟨rfl, _, SqL.of g2⟩, c, _, _, 0, _, rfl, rfl, g2, by decide, by decide, ?_, rfl, r.length, by rw [List.length_cons]; omega, r, rfl, rfl, ?_, ?_, fun y hy => g3 y (List.mem_cons_of_mem _ hy), fun b o n1 n2 e => ?_⟩
        · exact PySem.StrLaws.seqIndex_nonneg (Int.le_refl 0) (by rw [List.length_map, List.length_cons]; omega)
        · rw [upd_ne hne]
          exact g1
        · rw [upd_same]
          rfl
        · rw [upd_ne n2]
          exact g4 b o n1 n2 e
      · -- the first cell is drawn from
        refine ⟨.ref c, rfl, c, _, rfl, .inl (SqL.of g2), _, _, rfl, rfl, _, rfl, iteDT (by rw [List.length_map, List.length_cons]; omega) ?_⟩
        have z0 := g3 z List.mem_cons_self
        refine ⟨.ref c, rfl, c, _, _, _, rfl, rfl, SqL.of g2, atI_nat (j := 0) rfl, ?_⟩
        refine ⟨_, rfl, _, rfl, _, _, rfl, rfl, wide_div (b := 41) hm0 (by omega) (by decide) (by decide), .ref c, rfl, c, _, _, 0, rfl, rfl, g2, ?_, ?_⟩
        · rw [List.length_map, List.length_cons]
          unfold ixN
          rw [if_pos (Int.le_refl 0), if_pos (by omega)]
          rfl
        refine ⟨_, rfl, .inl ⟨_, rfl, _, rfl, _, _, rfl, rfl, hm0, ?_⟩⟩
        refine q _ _ (Int.emod_nonneg _ (by omega)) (Int.emod_lt_of_pos _ hm0) ⟨z / many :: r, seed, ?_, ?_, ?_, h4, h5⟩ fun b o n1 n2 e => ?_
        · rw [upd_ne hne]
          exact g1
        · rw [upd_same]
          rfl
        · intro y hy
          rcases List.mem_cons.mp hy with rfl | hy
          · exact Int.ediv_nonneg z0 (by omega)
          · exact g3 y (List.mem_cons_of_mem _ hy)
        · rw [upd_ne n2]
          exact g4 b o n1 n2 e
theorem ok_pick {f fD : Addr} {fd fdD : FuncData} {k : Nat} (F : Fun K "_law_pick" "_law_pick" sPick f fd) (T : Blt mg) (G : FnOk P w K mg base CX0 (k + 1) fD fdD ["state", "many"] spDraw)
    (gD : mg "_law_draw" = some (.ref fD)) (kD : PySem.W.keepIn K (.ref fD) = true) (bD : Binds K fdD ["state", "many"] []) : FnOk P w K mg base CX0 (k + 2) f fd ["state", "row"] (spPick K) := by
  refine F.ok scPick (fun vs H Q E h => ?_) (fun cdv A outer s H vs Q E hr h => ?_)
  · obtain ⟨s, c, p, xs, rfl, _⟩ := h
    rfl
  · obtain ⟨s, c, p, xs, rfl, hS, hL, n1, n2, l0, l1, q⟩ := h
    refine ⟨_, pss_one (ps_ret (pe_ix ix_list (pv 1) (pe_call G hr (by rfl) gD kD bD .nil pass0 (pa_cons (pv 0) (pa_cons (pe_callB call_len_seq (by rfl) T.zLen PySem.boot_len (pa_cons (pv 1) pa_nil)) pa_nil))) (fun _ _ => rfl))), ?_⟩
    refine ⟨.ref p, rfl, .ref s, rfl, .ref p, rfl, p, xs, rfl, .inl hL, s, c, xs.length, rfl, hS, by omega, by omega, fun H' r r0 r1 hS' k' => ?_⟩
    obtain ⟨j, rfl⟩ : ∃ j : Nat, r = (j : Int) := ⟨r.toNat, by omega⟩
    have hj : j < xs.length := by omega
    have e : xs[j]? = some xs[j] := List.getElem?_eq_getElem hj
    exact ⟨p, xs, _, _, rfl, rfl, k'.seq hL n1 n2, atI_nat e, q H' j _ e hS' k'⟩
end
end Pk
set_option Elab.async false
set_option linter.all false
set_option maxRecDepth 100000
set_option maxHeartbeats 4000000
namespace Tk
open PySem L2 SX
/-! ### the signs and words of the document, as code points -/
def lettersS : Str := Str.ofString "abcdefghijklmnopqrstuvwxyzABCDEFGHIJKLMNOPQRSTUVWXYZ"
def digitsS : Str := Str.ofString "0123456789"
def hexS : Str := Str.ofString "0123456789abcdef"
abbrev letters : List Nat := lettersS.cps.toList
abbrev digits : List Nat := digitsS.cps.toList
abbrev hexes : List Nat := hexS.cps.toList
def words : List Str := ["accept", "action", "add", "apply", "control", "default", "drop", "else", "emit", "exact", "extract", "go", "header", "if", "key", "mask", "meta", "not", "packet", "parser", "prefix", "program", "reject", "remove", "select", "send", "size", "state", "table", "use", "valid"].map Str.ofString
def longs : List Str := [Str.ofString "==", Str.ofString "->"]
def shorts : List Str := ["{", "}", "(", ")", ":", ";", ",", ".", "=", "<", "+", "-", "&", "|", "^"].map Str.ofString
def inRun (c : Nat) : Bool := decide (c ∈ letters) || decide (c ∈ digits) || decide (c = 95)
def isHexed (p : List Nat) : Bool := decide (p.take 2 = [48, 120])
def allIn (p l : List Nat) : Bool := p.all fun c => decide (c ∈ l)
def isNum (p : List Nat) : Bool :=
  if isHexed p = true then decide (1 ≤ (p.drop 2).length) && decide ((p.drop 2).length ≤ 8) && allIn (p.drop 2) hexes
  else if p.take 1 = [48] then decide (p = [48])
  else if 10 < p.length then false else allIn p digits && decide (NumText.digitsVal p ≤ 4294967295)
def numVal (p : List Nat) : Nat := if isHexed p = true then Hx.hexNum (p.drop 2) else NumText.digitsVal p
def headIn (l p : List Nat) : Bool := match p with
  | [] => false
  | c :: _ => decide (c ∈ l)
/-- a run's or a sign's token: its kind and value -/
def tokOf (p : List Nat) : Option (Str × V) :=
  if headIn letters p = true ∧ p.length ≤ 16 then
    (if S p ∈ words then some (Str.ofString "word", .str (S p)) else some (Str.ofString "name", .str (S p)))
  else if isNum p = true then some (Str.ofString "number", .int (numVal p))
  else if S p ∈ longs ∨ S p ∈ shorts then some (Str.ofString "sign", .str (S p)) else none
/-- how long the run or the sign is that stands at the head -/
def partLen (t : List Nat) : Nat :=
  if headIn (letters ++ digits ++ [95]) t = true then (t.takeWhile inRun).length
  else if S (t.take 2) ∈ longs then 2 else 1
abbrev Tok := Str × V × Nat
def endTok (l : Nat) : Tok := (Str.ofString "end", .str (Str.ofString ""), l)
/-- a token ahead of the others -/
def ahead (kv : Option (Str × V)) (l : Nat) (rest : Except Nat (List Tok)) : Except Nat (List Tok) := match kv with
  | none => .error l
  | some (k, v) => match rest with
    | .error e => .error e
    | .ok ts => .ok ((k, v, l) :: ts)
/-- the tokens of a text that begins in line l; .error: the line of the first part that is none -/
def toks : Nat → Nat → List Nat → Except Nat (List Tok)
  | _, l, [] => .ok [endTok l]
  | 0, l, _ :: _ => .error l
  | f + 1, l, c :: r =>
    if c = 35 then toks f l (r.dropWhile (· ≠ 10))
    else if c = 32 then toks f l r
    else if c = 10 then toks f (l + 1) r
    else ahead (tokOf ((c :: r).take (partLen (c :: r)))) l (toks f l ((c :: r).drop (partLen (c :: r))))
theorem toks_cons (f l c : Nat) (r : List Nat) : toks (f + 1) l (c :: r) = if c = 35 then toks f l (r.dropWhile (· ≠ 10))
    else if c = 32 then toks f l r
    else if c = 10 then toks f (l + 1) r
    else ahead (tokOf ((c :: r).take (partLen (c :: r)))) l (toks f l ((c :: r).drop (partLen (c :: r)))) := by rw [toks]
theorem dropWhile_le {α : Type} (p : α → Bool) : ∀ l : List α, (l.dropWhile p).length ≤ l.length
  | [] => Nat.le_refl _
  | a :: l => by
    rw [List.dropWhile_cons]
    split
    · exact Nat.le_succ_of_le (dropWhile_le p l)
    · exact Nat.le_refl _
theorem inRun_iff (c : Nat) : inRun c = headIn (letters ++ digits ++ [95]) (c :: r) := by
  unfold inRun headIn
  rw [Bool.eq_iff_iff]
  simp [List.mem_append, or_assoc]
theorem partLen_pos (c : Nat) (r : List Nat) : 1 ≤ partLen (c :: r) := by
  unfold partLen
  split
  · rename_i h
    rw [← inRun_iff (r := r)] at h
    rw [List.takeWhile_cons, if_pos h]
    simp
  · split <;> omega
/-- more fuel than signs changes nothing -/
theorem toks_fuel : ∀ (n f : Nat) (l : Nat) (t : List Nat), t.length ≤ n → n ≤ f → toks f l t = toks n l t := by
  intro n
  induction n with
  | zero =>
    intro f l t h1 h2
    cases t with
    | nil => cases f <;> rfl
    | cons c r => simp at h1
  | succ n ih =>
    intro f l t h1 h2
    cases t with
    | nil => cases f <;> rfl
    | cons c r =>
      obtain ⟨g, rfl⟩ : ∃ g, f = g + 1 := ⟨f - 1, by omega⟩
      have hr : r.length ≤ n := by simpa using h1
      have hd : (r.dropWhile (· ≠ 10)).length ≤ n := Nat.le_trans (dropWhile_le _ _) hr
      have hp : ((c :: r).drop (partLen (c :: r))).length ≤ n := by
        have := partLen_pos c r
        rw [List.length_drop, List.length_cons]
        omega
      rw [toks_cons, toks_cons, ih g l _ hd (by omega), ih g l r hr (by omega), ih g (l + 1) r hr (by omega), ih g l _ hp (by omega)]
/-- the tokens of a text that begins in line l -/
def toksT (l : Nat) (t : List Nat) : Except Nat (List Tok) := toks t.length l t
theorem toksT_nil (l : Nat) : toksT l [] = .ok [endTok l] := rfl
theorem toksT_of {f l : Nat} {t : List Nat} (h : t.length ≤ f) : toks f l t = toksT l t := toks_fuel _ f l t (Nat.le_refl _) h
theorem toksT_hash (l : Nat) (r : List Nat) : toksT l (35 :: r) = toksT l (r.dropWhile (· ≠ 10)) := by
  rw [← toksT_of (f := r.length) (dropWhile_le _ _)]
  show toks (r.length + 1) l (35 :: r) = _
  rw [toks_cons, if_pos rfl]
theorem toksT_space (l : Nat) (r : List Nat) : toksT l (32 :: r) = toksT l r := by
  show toks (r.length + 1) l (32 :: r) = _
  rw [toks_cons, if_neg (by decide), if_pos rfl]
  rfl
theorem toksT_nl (l : Nat) (r : List Nat) : toksT l (10 :: r) = toksT (l + 1) r := by
  show toks (r.length + 1) l (10 :: r) = _
  rw [toks_cons, if_neg (by decide), if_neg (by decide), if_pos rfl]
  rfl
theorem toksT_part {l c : Nat} {r : List Nat} (h1 : c ≠ 35) (h2 : c ≠ 32) (h3 : c ≠ 10) :
    toksT l (c :: r) = ahead (tokOf ((c :: r).take (partLen (c :: r)))) l (toksT l ((c :: r).drop (partLen (c :: r)))) := by
  have hp : ((c :: r).drop (partLen (c :: r))).length ≤ r.length := by
    have := partLen_pos c r
    rw [List.length_drop, List.length_cons]
    omega
  show toks (r.length + 1) l (c :: r) = _
  rw [toks_cons, if_neg h1, if_neg h2, if_neg h3, toksT_of hp]
end Tk
set_option Elab.async false
set_option linter.all false
set_option maxRecDepth 100000
set_option maxHeartbeats 4000000
namespace Pk
open PySem PySem.Spec PyProof.Rows L2 SX
/-- a tuple of the written part -/
def TupK (K : PySem.W.Frag) (p : Addr) (xs : List V) : Prop := ∃ (o : Obj) (its : Array Value) (n : Nat), K.lookup p = some o ∧ o.cls = .type "tuple" ∧ o.data = .seq its n ∧ its.size ≤ sizeLine ∧ Vals xs its.toList
theorem TupK.at {K : PySem.W.Frag} {p : Addr} {xs : List V} (h : TupK K p xs) (H : Hp) : SqT K H p xs := .inr h
/-- a def, under its name, that keeps its promise -/
structure Df (P : Program) (w : World) (K : PySem.W.Frag) (mg : Str → Option Value) (base : Heap) (CX : CXT) (k : Nat) (x : Str) (ps : List Str) (sp : Sp) : Prop where
  ex : ∃ (f : Addr) (fd : FuncData), FnOk P w K mg base CX k f fd ps sp ∧ mg x = some (.ref f) ∧ PySem.W.keepIn K (.ref f) = true ∧ Binds K fd ps []
/-- a def of the text as it stands under its name -/
structure AtD (K : PySem.W.Frag) (mg : Str → Option Value) (x : Str) (st : Stmt) (ps : List Str) : Prop where
  ex : ∃ (f : Addr) (fd : FuncData), Fun K x x st f fd ∧ mg x = some (.ref f) ∧ Binds K fd ps []
theorem AtD.df {P : Program} {w : World} {K : PySem.W.Frag} {mg : Str → Option Value} {base : Heap} {CX : CXT} {k : Nat} {x : Str} {st : Stmt} {ps : List Str} {sp : Sp} (A : AtD K mg x st ps)
    (h : ∀ (f : Addr) (fd : FuncData), Fun K x x st f fd → FnOk P w K mg base CX k f fd ps sp) : Df P w K mg base CX k x ps sp := by
  obtain ⟨f, fd, F, g, b⟩ := A.ex
  exact ⟨f, fd, h f fd F, g, F.kp, b⟩
/-! ### values -/
theorem inV_strs {x : Str} : ∀ ws : List Str, inV (.str x) (ws.map V.str) = decide (x ∈ ws)
  | [] => by simp [inV]
  | w :: ws => by
    have ih := inV_strs (x := x) ws
    unfold inV at ih ⊢
    rw [List.map_cons, List.any_cons, ih]
    show ((w == x) || decide (x ∈ ws)) = _
    rw [Bool.eq_iff_iff, Bool.or_eq_true, beq_iff_eq, decide_eq_true_eq, decide_eq_true_eq, List.mem_cons]
    constructor
    · rintro (h | h)
      · exact .inl h.symm
      · exact .inr h
    · rintro (h | h)
      · exact .inl h.symm
      · exact .inr h
theorem inV_int {n : Int} : ∀ ws : List Str, inV (.int n) (ws.map V.str) = false
  | [] => by simp [inV]
  | w :: ws => by
    have ih := inV_int (n := n) ws
    unfold inV at ih ⊢
    rw [List.map_cons, List.any_cons, ih]
    rfl
theorem flat_strs (ws : List Str) : (ws.map V.str).all flatV = true := by
  rw [List.all_eq_true]
  intro x hx
  obtain ⟨y, _, rfl⟩ := List.mem_map.mp hx
  rfl
theorem dcStr {x y : Str} : decide (V.str x = V.str y) = decide (x = y) := by
  by_cases h : x = y
  · rw [h, decide_eq_true rfl, decide_eq_true rfl]
  · rw [decide_eq_false h, decide_eq_false fun z => h (V.str.inj z)]
theorem dcS {a b : List Nat} : decide (S a = S b) = decide (a = b) := by
  by_cases h : a = b
  · rw [h, decide_eq_true rfl, decide_eq_true rfl]
  · rw [decide_eq_false h, decide_eq_false fun z => h (S_inj z)]
/-- s[i:j], s[i:] -/
theorem cut2 (t : List Nat) (i j : Nat) : cutS (S t) (some (i : Int)) (some (j : Int)) = S ((t.drop i).take (j - i)) := by
  have hl : (S t).length = t.length := S_len t
  unfold cutS
  rw [HT.sIx_nat, HT.sIx_nat, hl]
  show S _ = S _
  congr 1
  show ((t.drop (min i t.length)).take (min j t.length - min i t.length)) = _
  by_cases hi : i ≤ t.length
  · rw [Nat.min_eq_left hi]
    by_cases hj : j ≤ t.length
    · rw [Nat.min_eq_left hj]
    · have e : min j t.length = t.length := by omega
      rw [e, List.take_of_length_le (by rw [List.length_drop]; exact Nat.le_refl _), List.take_of_length_le (by rw [List.length_drop]; omega)]
  · have e : min i t.length = t.length := by omega
    rw [e, List.drop_of_length_le (Nat.le_refl _), List.drop_of_length_le (show t.length ≤ i by omega), List.take_nil, List.take_nil]
theorem cut1f (t : List Nat) (i : Nat) : cutS (S t) (some (i : Int)) none = S (t.drop i) := by
  have hl : (S t).length = t.length := S_len t
  unfold cutS
  rw [HT.sIx_nat, HT.sIx_none, hl]
  show S _ = S _
  congr 1
  show ((t.drop (min i t.length)).take (t.length - min i t.length)) = _
  by_cases hi : i ≤ t.length
  · rw [Nat.min_eq_left hi, List.take_of_length_le (by rw [List.length_drop]; exact Nat.le_refl _)]
  · have e : min i t.length = t.length := by omega
    rw [e, List.drop_of_length_le (Nat.le_refl _), List.drop_of_length_le (show t.length ≤ i by omega), List.take_nil]
theorem starts2 (p q : List Nat) : Txt.startswith (S p) (S q) = decide (p.take q.length = q) := by
  unfold Txt.startswith
  rw [S_len, S_len, Nat.zero_add]
  have e : Builtin.Str.subAt (S p) (S q) 0 = decide (p.take q.length = q) := by
    unfold Builtin.Str.subAt
    rw [S_len, Nat.zero_add]
    show (p.toArray.extract 0 q.length == q.toArray) = _
    rw [Bool.eq_iff_iff, beq_iff_eq, decide_eq_true_eq]
    constructor
    · intro h
      have h2 := congrArg Array.toList h
      simpa using h2
    · intro h
      rw [List.extract_toArray]
      simp [h]
  rw [e]
  by_cases h : p.take q.length = q
  · have : q.length ≤ p.length := by
      have := congrArg List.length h
      rw [List.length_take] at this
      omega
    rw [decide_eq_true h, decide_eq_true this]
    rfl
  · rw [decide_eq_false h, Bool.and_false]
theorem takeWhile_self {α : Type} {p : α → Bool} : ∀ {l : List α}, (∀ x ∈ l, p x = true) → l.takeWhile p = l
  | [], _ => rfl
  | a :: l, h => by
    rw [List.takeWhile_cons, if_pos (h a List.mem_cons_self), takeWhile_self fun x hx => h x (List.mem_cons_of_mem _ hx)]
/-- where a sign is found from i on -/
theorem find_sign {t : List Nat} {i : Nat} (c : Nat) (hi : i ≤ t.length) :
    (Txt.find3 (S t) (S [c]) (i : Int) = -1 ∧ (t.drop i).takeWhile (· ≠ c) = t.drop i) ∨
    Txt.find3 (S t) (S [c]) (i : Int) = ((i + ((t.drop i).takeWhile (· ≠ c)).length : Nat) : Int) ∧ i + ((t.drop i).takeWhile (· ≠ c)).length < t.length := by
  have fi : fromIndex (S t).length (i : Int) = i := by
    unfold fromIndex
    rw [if_neg (by omega)]
    omega
  have gd : ∀ v, v < t.length → (S t).cps.getD v 0 = t[v]?.getD 0 := fun v hv => by
    simp [S, Array.getD, hv]
  rcases StrLaws.find3_spec (S t) c (i : Int) with ⟨h1, h2⟩ | ⟨k, h1, h2, h3, h4, h5⟩
  · refine .inl ⟨h1, ?_⟩
    refine takeWhile_self fun x hx => ?_
    obtain ⟨j, hj, rfl⟩ := List.getElem_of_mem hx
    rw [List.length_drop] at hj
    have := h2 (i + j) (by rw [fi]; omega) (by rw [S_len]; omega)
    rw [gd _ (by omega), List.getElem?_eq_getElem (by omega)] at this
    rw [List.getElem_drop]
    exact decide_eq_true this
  · rw [fi] at h2
    rw [S_len] at h3
    have key : ((t.drop i).takeWhile (· ≠ c)).length = k - i := by
      have hk : t.drop i = (t.drop i).take (k - i) ++ t.drop k := by
        have e := (List.take_append_drop (k - i) (t.drop i)).symm
        rw [List.drop_drop, show i + (k - i) = k by omega] at e
        exact e
      rw [hk, List.takeWhile_append_of_pos]
      · rw [List.drop_eq_getElem_cons h3, List.takeWhile_cons]
        have hc : t[k] = c := by
          have := h4
          rw [gd _ h3, List.getElem?_eq_getElem h3] at this
          exact this
        rw [if_neg (by simp [hc]), List.append_nil, List.length_take, List.length_drop]
        omega
      · intro x hx
        obtain ⟨j, hj, rfl⟩ := List.getElem_of_mem hx
        rw [List.length_take, List.length_drop] at hj
        have := h5 (i + j) (by rw [fi]; omega) (by omega)
        rw [gd _ (by omega), List.getElem?_eq_getElem (by omega)] at this
        rw [List.getElem_take, List.getElem_drop]
        exact decide_eq_true this
    refine .inr ⟨?_, ?_⟩
    · rw [h1, key, show i + (k - i) = k by omega]
    · rw [key]
      omega
end Pk
set_option Elab.async false
set_option linter.all false
set_option maxRecDepth 100000
set_option maxHeartbeats 4000000
/-! data in a part G of the heap that stands; no row -/
namespace Pk
open PySem PySem.Spec PyProof.Rows L2
theorem rd_sub {G H : Hp} {a : Addr} {o : HO} (k : Same G H) (h : L2.Rd G a o) : L2.Rd H a o := by
  rcases h with h | ⟨u, h⟩
  · exact .inl (k _ _ h)
  · exact .inr ⟨u, k _ _ h⟩
theorem sqL_sub {K : PySem.W.Frag} {G H : Hp} {a : Addr} {xs : List V} (k : Same G H) (h : SqL K G a xs) : SqL K H a xs := by
  rcases h with h | h
  · exact .inl (rd_sub k h)
  · exact .inr h
theorem sqT_sub {K : PySem.W.Frag} {G H : Hp} {a : Addr} {xs : List V} (k : Same G H) (h : SqT K G a xs) : SqT K H a xs := by
  rcases h with h | h
  · exact .inl (rd_sub k h)
  · exact .inr h
mutual
theorem dp_sub {K : PySem.W.Frag} {G H : Hp} (k : Same G H) : ∀ {d : PyData} {v : V}, Dp K G v d → Dp K H v d
  | _, _, .non => .non
  | _, _, .bl b => .bl b
  | _, _, .int i => .int i
  | _, _, .str x => .str x
  | _, _, .lst h r => .lst (sqL_sub k h) (dpAll_sub k r)
  | _, _, .tup h r => .tup (sqT_sub k h) (dpAll_sub k r)
theorem dpAll_sub {K : PySem.W.Frag} {G H : Hp} (k : Same G H) : ∀ {ds : List PyData} {vs : List V}, DpAll K G vs ds → DpAll K H vs ds
  | _, _, .nil => .nil
  | _, _, .cons h r => .cons (dp_sub k h) (dpAll_sub k r)
end
theorem dpAll_len {K : PySem.W.Frag} {G : Hp} : ∀ {vs : List V} {ds : List PyData}, DpAll K G vs ds → vs.length = ds.length
  | _, _, .nil => rfl
  | _, _, .cons _ r => congrArg (· + 1) (dpAll_len r)
theorem dpAll_at {K : PySem.W.Frag} {G : Hp} : ∀ {vs : List V} {ds : List PyData} {i : Nat} {d : PyData}, DpAll K G vs ds → ds[i]? = some d → ∃ v, vs[i]? = some v ∧ Dp K G v d
  | _, _, _, _, .nil, e => by cases e
  | _, _, 0, _, .cons h _, e => by
    cases e
    exact ⟨_, rfl, h⟩
  | _, _, i + 1, _, .cons _ r, e => dpAll_at (i := i) r e
theorem dpAll_val {K : PySem.W.Frag} {G : Hp} : ∀ {vs : List V} {ds : List PyData} {i : Nat} {v : V}, DpAll K G vs ds → vs[i]? = some v → ∃ d, ds[i]? = some d ∧ Dp K G v d
  | _, _, _, _, .nil, e => by cases e
  | _, _, 0, _, .cons h _, e => by
    cases e
    exact ⟨_, rfl, h⟩
  | _, _, i + 1, _, .cons _ r, e => dpAll_val (i := i) r e
theorem dpAll_app {K : PySem.W.Frag} {G : Hp} : ∀ {vs ws : List V} {ds es : List PyData}, DpAll K G vs ds → DpAll K G ws es → DpAll K G (vs ++ ws) (ds ++ es)
  | _, _, _, _, .nil, h => h
  | _, _, _, _, .cons a r, h => .cons a (dpAll_app r h)
theorem dp_int {K : PySem.W.Frag} {G : Hp} {v : V} {i : Int} (h : Dp K G v (.int i)) : v = .int i := by
  cases h
  rfl
theorem dp_str {K : PySem.W.Frag} {G : Hp} {v : V} {x : Str} (h : Dp K G v (.str x)) : v = .str x := by
  cases h
  rfl
theorem dp_non {K : PySem.W.Frag} {G : Hp} {v : V} (h : Dp K G v .none) : v = .non := by
  cases h
  rfl
theorem dp_tup {K : PySem.W.Frag} {G : Hp} {v : V} {ds : List PyData} (h : Dp K G v (.tuple ds)) : ∃ p xs, v = .ref p ∧ SqT K G p xs ∧ DpAll K G xs ds := by
  cases h with
  | tup a b => exact ⟨_, _, rfl, a, b⟩
theorem dp_lst {K : PySem.W.Frag} {G : Hp} {v : V} {ds : List PyData} (h : Dp K G v (.list ds)) : ∃ p xs, v = .ref p ∧ SqL K G p xs ∧ DpAll K G xs ds := by
  cases h with
  | lst a b => exact ⟨_, _, rfl, a, b⟩
theorem dpAll_strs {K : PySem.W.Frag} {G : Hp} : ∀ {vs : List V} {ns : List Str}, DpAll K G vs (ns.map .str) → vs = ns.map V.str
  | _, [], .nil => rfl
  | _, n :: ns, .cons a r => by rw [dp_str a, dpAll_strs r]; rfl
theorem dpAll_of_ints {K : PySem.W.Frag} {G : Hp} : ∀ (ns : List Int), DpAll K G (ns.map V.int) (ns.map .int)
  | [] => .nil
  | n :: ns => .cons (.int n) (dpAll_of_ints ns)
theorem dpAll_nil {K : PySem.W.Frag} {G : Hp} {vs : List V} (h : DpAll K G vs []) : vs = [] := by
  cases h
  rfl
theorem dpAll_cons {K : PySem.W.Frag} {G : Hp} {vs : List V} {d : PyData} {ds : List PyData} (h : DpAll K G vs (d :: ds)) : ∃ v r, vs = v :: r ∧ Dp K G v d ∧ DpAll K G r ds := by
  cases h with
  | cons a b => exact ⟨_, _, rfl, a, b⟩
/-- G with one more object that stands in H -/
theorem same_upd {G H : Hp} {p : Addr} {o : HO} (k : Same G H) (e : H p = some o) : Same (upd G p o) H := fun b u h => by
  by_cases hb : b = p
  · rw [hb, upd_same] at h
    rw [hb, e, ← h]
  · rw [upd_ne hb] at h
    exact k _ _ h
theorem same_new2 {G : Hp} {p : Addr} {o : HO} (h : G p = none) : Same G (upd G p o) := fun b u e => by
  rw [upd_ne (ne_of_none e h)]
  exact e
/-- what stands in a part that the list at p is not in stands when p changes -/
theorem same_set {G H : Hp} {p : Addr} {o : HO} (k : Same G H) (h : G p = none) : Same G (upd H p o) := fun b u e => by
  rw [upd_ne (ne_of_none e h)]
  exact k _ _ e
/-- the new part -/
structure Gr (G G' H : Hp) : Prop where
  sub : Same G G'
  new : ∀ b, G' b ≠ none → G b ≠ none ∨ H b = none
theorem Gr.refl (G H : Hp) : Gr G G H := ⟨Same.refl _, fun _ h => .inl h⟩
theorem Gr.free {G G' H : Hp} {p : Addr} (g : Gr G G' H) (h1 : G p = none) (h2 : H p ≠ none) : G' p = none := by
  cases e : G' p with
  | none => rfl
  | some o =>
    rcases g.new p (by rw [e]; exact fun z => nomatch z) with h | h
    · exact absurd h1 h
    · exact absurd h h2
theorem Gr.trans {G G1 G2 H H1 : Hp} (a : Gr G G1 H) (b : Gr G1 G2 H1) (k : ∀ b, H1 b = none → H b = none) : Gr G G2 H := ⟨a.sub.trans b.sub, fun p h => by
  rcases b.new p h with h | h
  · exact a.new p h
  · exact .inr (k _ h)⟩
theorem Gr.put {G G1 H : Hp} {p : Addr} {o : HO} (a : Gr G G1 H) (h : H p = none) (h1 : G1 p = none) : Gr G (upd G1 p o) H := ⟨a.sub.trans (same_new2 h1), fun b e => by
  by_cases hb : b = p
  · rw [hb]
    exact .inr h
  · rw [upd_ne hb] at e
    exact a.new b e⟩
theorem same_none {H H' : Hp} (k : Same H H') : ∀ b, H' b = none → H b = none := fun b e => k.free e
/-- program[i] -/
def spAcc (K : PySem.W.Frag) (i : Nat) : Sp := fun vs H Q _ => ∃ (v : V) (G : Hp) (ds : List PyData) (d : PyData), vs = [v] ∧ Same G H ∧ Dp K G v (.tuple ds) ∧ ds[i]? = some d ∧ ∀ x, Dp K G x d → Q x H
/-- the name of a part -/
def nm2 (e : List PyData) : Str := match e[1]? with
  | some (PyData.str n) => n
  | _ => Str.empty
theorem nm2_of {e : List PyData} {n : Str} (h : e[1]? = some (.str n)) : nm2 e = n := by
  unfold nm2
  rw [h]
/-- [part[1] for part in parts] -/
def spNames (K : PySem.W.Frag) : Sp := fun vs H Q _ => ∃ (v : V) (G : Hp) (es : List (List PyData)) (ns : List Str), vs = [v] ∧ Same G H ∧ Dp K G v (.list (es.map .tuple)) ∧ es.length ≤ 1000 ∧ (∀ e ∈ es, ∃ n, e[1]? = some (.str n)) ∧ ns = es.map nm2 ∧
  ∀ H' p, Same H H' → H p = none → H' p = some (.lst (ns.map V.str)) → Q (.ref p) H'
/-- the first part with a name, which there is -/
def spPart (K : PySem.W.Frag) : Sp := fun vs H Q _ => ∃ (v : V) (G : Hp) (es : List (List PyData)) (n : Str) (i : Nat) (e : List PyData), vs = [v, .str n] ∧ Same G H ∧ Dp K G v (.list (es.map .tuple)) ∧ (∀ e ∈ es, ∃ n, e[1]? = some (.str n)) ∧
  es[i]? = some e ∧ e[1]? = some (.str n) ∧ (∀ j e', j < i → es[j]? = some e' → e'[1]? ≠ some (.str n)) ∧ ∀ x, Dp K G x (.tuple e) → Q x H
end Pk
set_option Elab.async false
set_option linter.all false
set_option maxRecDepth 100000
set_option maxHeartbeats 4000000
/-! sorted of data; no row -/
namespace Pk
open PySem PySem.Spec PyProof.Rows L2
def rSortD (K : PySem.W.Frag) : List V → Hp → VK → Prop := fun vs H Q => ∃ (a : Addr) (bs : List (V × PyData)), vs = [.ref a] ∧ SqL K H a (bs.map Prod.fst) ∧ (∀ b ∈ bs, Dp K H b.1 b.2) ∧ PySem.W.AllAlike (bs.map Prod.snd) ∧ PySem.W.Sortable (bs.map Prod.snd) ∧ bs.length ≤ sizeLine ∧ (∀ b ∈ bs, b.2.depth ≤ 60) ∧
  ∀ p, H p = none → Q (.ref p) (upd H p (.lst ((bs.mergeSort (PySem.W.dataLe false Prod.snd)).map Prod.fst)))
theorem each_of {us : List Value} : ∀ {bs : List (V × PyData)}, Vals (bs.map Prod.fst) us → PySem.W.EachIs (fun (v : Value) (b : V × PyData) => RelV b.1 v) us bs := by
  induction us with
  | nil =>
    intro bs h
    cases bs with
    | nil => exact .nil
    | cons b r => cases h
  | cons u us ih =>
    intro bs h
    cases bs with
    | nil => cases h
    | cons b r =>
      cases h with
      | cons h1 h2 => exact .cons h1 (ih h2)
theorem vals_each {us : List Value} : ∀ {bs : List (V × PyData)}, PySem.W.EachIs (fun (v : Value) (b : V × PyData) => RelV b.1 v) us bs → Vals (bs.map Prod.fst) us := by
  induction us with
  | nil =>
    intro bs h
    cases h
    exact .nil
  | cons u us ih =>
    intro bs h
    cases h with
    | cons h1 h2 => exact .cons h1 (ih h2)
theorem each_reads {X : Cx} {pins : List (Addr × Obj)} {σ : L2.St} {H : Hp} {s : Shared} (I : L2.Inv X pins σ H s) {us : List Value} : ∀ {bs : List (V × PyData)}, PySem.W.EachIs (fun (v : Value) (b : V × PyData) => RelV b.1 v) us bs → (∀ b ∈ bs, Dp X.K H b.1 b.2) → PySem.W.EachIs (fun v (b : V × PyData) => ∃ as, Reads s.heap v b.2 as) us bs := by
  induction us with
  | nil =>
    intro bs h _
    cases h
    exact .nil
  | cons u us ih =>
    intro bs h hd
    cases h with
    | cons h1 h2 => exact .cons (Dp.reads I _ _ _ (hd _ List.mem_cons_self) h1) (ih h2 fun b hb => hd b (List.mem_cons_of_mem _ hb))
theorem cr_sortD {X : Cx} (hu : X.A.units + 64 < cLine) : CallR X (.builtin "sorted") (rSortD X.K) := by
  intro pins s σ H xs us Q I r h
  obtain ⟨a, bs, rfl, hl, hD, ha, hs, hn, hd, q⟩ := h
  cases r with | cons r0 rr =>
  cases rr with | nil =>
  obtain rfl : _ = Value.ref a := r0
  obtain ⟨us1, v1, p1, _⟩ := I.list hl
  have e1 := each_of v1
  refine PySem.W.sorted_data (β := V × PyData) (bs := bs) (enc := Prod.snd) (R := fun v b => RelV b.1 v) p1.isList e1 (each_reads I e1 hD) ha hs hn (fun b hb => by have := hd b hb; omega) fun out hlen he => ?_
  obtain ⟨e, he2⟩ := PyProof.Rows.sortedAll_at s.heap us1 out.toArray
  have hf : H (s.heap.objs.size + 1) = none := I.hok.fresh (Nat.le_succ _)
  refine ⟨.ref (s.heap.objs.size + 1), _, I.laid (t' := s.toks) (fun b u h => PyProof.Rows.sortedAll_old h) (Nat.le_succ _) ?_, rfl, q _ hf⟩
  refine ⟨?_, out, e, vals_each he, he2⟩
  rw [List.length_map, List.length_mergeSort]
  exact hn
end Pk
set_option Elab.async false
set_option linter.all false
set_option maxRecDepth 100000
set_option maxHeartbeats 4000000
/-! for (a, b), c in d.items(), d a dict with tuple keys; no row -/
namespace Pk
open PySem PySem.Spec PyProof.Rows L2
section
variable {X : Cx} {pins : List (Addr × Obj)} {σ : L2.St} {H : Hp} {s : Shared} {d : Addr} {o : Obj}
theorem frzTv {kvs : List (List L2.Key × V)} (I : Inv X pins σ H s) (h : H d = some (.frz o (.dT kvs))) :
    (d == sysModules) = false ∧ s.heap.get? d = some o ∧ o.ExactDict ∧ ∃ (es : Array DictEntry) (ep : Nat), o.data = .dict es ep ∧ es.size = kvs.length ∧
      ∀ (i : Nat) (k : List L2.Key) (v : V), kvs[i]? = some (k, v) → ∃ (en : DictEntry) (q : Addr), es[i]? = some en ∧ en.key = .ref q ∧ H q = some (.tup (k.map kV)) ∧ RelV v en.val := by
  obtain ⟨hd, z, hs, xs, pr, o', es, ep, ho, hx, hdt, he, _⟩ := I.hok d _ h
  rw [hd] at ho
  cases ho
  refine ⟨hs, hd, hx, es, ep, hdt, ?_, fun i k v e => ?_⟩
  · have l1 : es.size = xs.length := size_of_entries he
    have l2 : kvs.length = xs.length := Paired.length pr
    omega
  · obtain ⟨b, hb, e1, e2, e3⟩ := paired_get pr e
    have q := entry_at he i
    rw [hb] at q
    exact ⟨_, b.2.1, q, rfl, e2, e3⟩
end
/-- the pairs, each a new tuple of the key's own tuple and the value -/
def Itit (d : Addr) (o : Obj) (kvs : List (List L2.Key × V)) : L2.It :=
  ⟨fun i H => H d = some (.frz o (.dT kvs)) ∧ i < kvs.length, fun i H x H' => ∃ (T : Addr) (k : List L2.Key) (v : V) (q : Addr), kvs[i]? = some (k, v) ∧ x = .ref T ∧ H T = none ∧ H q = some (.tup (k.map kV)) ∧ H' = upd H T (.tup [.ref q, v]), fun i H => H d = some (.frz o (.dT kvs)) ∧ kvs.length ≤ i⟩
theorem walk_itemsT {d : Addr} {o : Obj} {kvs : List (List L2.Key × V)} : Walk (Itit d o kvs) kvs.length (fun H => H d = some (.frz o (.dT kvs))) (fun i H x H' => ∃ (T : Addr) (k : List L2.Key) (v : V) (q : Addr), kvs[i]? = some (k, v) ∧ x = .ref T ∧ H T = none ∧ H q = some (.tup (k.map kV)) ∧ H' = upd H T (.tup [.ref q, v])) :=
  ⟨fun i H hi hg => ⟨hg, hi⟩, fun H hg => ⟨hg, Nat.le_refl _⟩, fun i H x H' hi hg hy => hy⟩
section
variable {P : Program} {w : World} {K : PySem.W.Frag} {d : Addr} {o : Obj} {es : Array DictEntry} {ep : Nat}
theorem turn_itemsT {kvs : List (List L2.Key × V)} {elts : List Expr} {kk : Nat} {tpos : Pos} (it : Addr) (hod : o.data = .dict es ep) :
    Turn P w K (.Tuple elts kk tpos) (Itit d o kvs) [it] it (fun i h => ∃ ok ov, IsItemIter h it d i kvs.length ep ok ov) where
  mem := by simp
  obj := fun i h st b hb => by
    have e : b = it := by simpa using hb
    subst e
    obtain ⟨ok, ov, e⟩ := st
    exact ⟨_, e, fun v z => nomatch z⟩
  keep := fun i h h' st k => let ⟨ok, ov, e⟩ := st; ⟨ok, ov, k it (by simp) _ e⟩
  item := by
    intro X hP hw hK hc i pins s σ H E I hf st hg
    subst hP hw hK
    obtain ⟨hd, hi⟩ := hg
    obtain ⟨hs, hgd, hx, es', ep', hdt, hsz, ent⟩ := frzTv I hd
    obtain ⟨rfl, rfl⟩ := dict_ep hod hdt
    obtain ⟨⟨k, v⟩, hkv⟩ : ∃ p, kvs[i]? = some p := ⟨kvs[i], List.getElem?_eq_getElem hi⟩
    obtain ⟨en, q, hen, hkey, hq, rv⟩ := ent i k v hkv
    obtain ⟨ok, ov, he⟩ := st
    rw [← hsz] at he
    have hlt : it < s.heap.objs.size := Heap.lt_size he
    have hie : i < es'.size := by omega
    have een : es'[i] = en := by
      rw [Array.getElem?_eq_getElem hie] at hen
      exact Option.some.inj hen
    refine DT.nextI he ⟨o, hgd, hx, hdt⟩ hie fun h' ho hT hz hk => ?_
    rw [een] at ho hT
    refine ⟨_, rfl, wpAny_letOwnedTupleGo_items (s := { s with heap := h' }) ho fun h'' he' sb => ?_⟩
    have hT2 : h''.get? s.heap.objs.size = some { cls := .type "tuple", data := .seq #[en.key, en.val] } := (sb.2 _ (Nat.ne_of_gt hlt)).trans hT
    have new : ObjOk X.prog X.w (upd H s.heap.objs.size (.tup [.ref q, v])) h'' s.heap.objs.size (.tup [.ref q, v]) :=
      ⟨by show 2 ≤ sizeLine; decide, [en.key, en.val], .cons hkey (.cons rv .nil), ⟨_, hT2, rfl, _, rfl⟩⟩
    have I1 : Inv X pins σ (upd H s.heap.objs.size (.tup [.ref q, v])) { s with heap := h'' } :=
      I.turnedNew (t' := s.toks) (ch := [it]) (fun b ob hb e => (sb.2 b (by simpa using hb)).trans (hk b ob (by simpa using hb) e)) hf (Nat.le_refl _) new
    refine ⟨.ref s.heap.objs.size, _, I1, rfl, ⟨_, k, v, q, hkv, rfl, I.hok.fresh (Nat.le_refl _), hq, rfl⟩, ⟨en.key, en.val, ?_⟩, fun b hb => ?_⟩
    · rw [← hsz]; exact he'
    · have e : b = it := by simpa using hb
      rw [e, upd_ne (Nat.ne_of_lt hlt)]
      exact (hf it (by simp)).1
  done := by
    intro X hP hw hK hc i pins s σ H E I hf st hg
    subst hP hw hK
    obtain ⟨hd, hi⟩ := hg
    obtain ⟨f0, f1, f2, f3, f4, f5⟩ := hf it (by simp)
    obtain ⟨hs, hgd, hx, es', ep', hdt, hsz, ent⟩ := frzTv I hd
    obtain ⟨rfl, rfl⟩ := dict_ep hod hdt
    obtain ⟨ok, ov, he⟩ := st
    rw [← hsz] at he
    exact DT.endI (I.ok.hd hc) he ⟨o, hgd, hx, hdt⟩ (by omega) fun h' eb => ⟨rfl, I.turned (t' := s.toks) (fun b ob hb e => eb b ob hb e) f0 f1 f3 f4 f5⟩
  self := fun A i s Q E st h => let ⟨_, _, e⟩ := st; PySem.W.kcp_self e h
end
def iItemsT (td : TE) : TI := fun σ H R => td σ H fun x H1 => ∃ d o kvs, x = .ref d ∧ H1 d = some (.frz o (.dT kvs)) ∧ R (Itit d o kvs) H1
theorem pi_itemsT {X : Cx} {e : Expr} {td : TE} {apos cpos : Pos} {elts : List Expr} {kk : Nat} {tpos : Pos} (he : PE X e td) (hbase : attributeBase e "items" X.env (eval e X.env) = eval e X.env := by rfl) (hline : (apos.endLine == cpos.line) = true := by rfl) :
    L2.PI X (.Tuple elts kk tpos) (.Call (.Attribute e "items" apos) [] [] cpos) (iItemsT td) := by
  refine ⟨fun pins s σ H R I h => ?_⟩
  refine wpAny_Call_method (T := "dict") (id := "dict.items") hbase rfl hline F.plainAttrs_dict F.slot_dict_items F.type_dict_items (thn (he.run pins s σ H _ I h) fun u s1 ⟨x, H1, I1, rx, d, o, kvs, ex, hd, q⟩ => ?_)
  subst ex
  obtain rfl : u = Value.ref d := rx
  obtain ⟨hs, hgd, hx, es, ep, hdt, hsz, ent⟩ := frzTv I1 hd
  have hraw : DT.Raw s1.heap d es ep := ⟨o, hgd, hx, hdt⟩
  refine ⟨hraw.typeIs, ?_, ?_⟩
  · exact fun b q => by cases q; exact ⟨o, hgd, hx.2.1⟩
  have I2 : Inv X pins σ H1 { s1 with heap := s1.heap.push { cls := .type "dict_items", data := .fields #[.ref d] } } := I1.kept (t' := s1.toks) fun b ob q => Heap.get?_push_of_some _ q
  have fin : wpAny (model X.prog X.w) X.A (pyIter (.ref s1.heap.objs.size)) (PIE X pins σ (.Tuple elts kk tpos) R) X.xe { s1 with heap := s1.heap.push { cls := .type "dict_items", data := .fields #[.ref d] } } := by
    refine DT.iterI (d := d) ⟨_, Heap.get?_push_size _ rfl, rfl, rfl⟩ (hraw.push _) (pi_one (tk := s1.toks) I2 _ (turn_itemsT _ hdt) ⟨.none, .none, ?_⟩ q)
    rw [hsz]
    exact Heap.get?_push_size _ rfl
  show wpAny _ _ (callWith cpos (.builtin "dict.items") [.ref d] [] []) _ X.xe s1
  exact method_meetsIn F.slot_dict_items F.entry_dict_items rfl (PySem.evalArgs_none ⟨rfl, hraw.typeIs, F.args_dict_items_1 _, _, DT.meetsItems hs, ⟨hraw, fin⟩⟩)
end Pk
set_option Elab.async false
set_option linter.all false
set_option maxRecDepth 100000
set_option maxHeartbeats 4000000
/-! dicts with tuple keys: d.clear(), sorted(d); no row -/
namespace Pk
open PySem PySem.Spec PyProof.Rows L2
def rClrT : V → List V → Hp → VK → Prop := fun x xs H Q => ∃ (a : Addr) (kvs : List (List L2.Key × V)), x = .ref a ∧ xs = [] ∧ H a = some (.dT kvs) ∧ Q .non (upd H a (.dT []))
theorem mt_clearT {X : Cx} : MtR X "dict.clear" rClrT := by
  intro pins s σ H x xs v us Q I rx rxs h
  obtain ⟨a, kvs, rfl, rfl, ha, q⟩ := h
  cases rx
  cases rxs
  obtain ⟨z, hd, ys, pr, o, es, ep, ho, hx, hdt, he, _⟩ := dt_of I.hok ha
  have l1 : es.size = ys.length := size_of_entries he
  have l2 : kvs.length = ys.length := Paired.length pr
  refine call_meetsIn F.slot_dict_clear ⟨o, ho, hx.1⟩ F.entry_dict_clear (F.args_dict_clear_1 _) (PySem.meets_dict_clear_raw a) ⟨es, ep, ⟨o, ho, hx, hdt⟩, by omega, fun h' hr hs => ?_⟩
  obtain ⟨o', ho', hx', hdt'⟩ := hr
  have I2 : Inv X pins σ (upd H a (.dT [])) { s with heap := h' } :=
    d_write (t' := s.toks) I (by rw [ha]; exact True.intro) hs ⟨o', ho'⟩ ⟨Nat.zero_le _, hd, [], .nil, o', #[], ep + 1, ho', hx', hdt', rfl, List.nodup_nil⟩
  exact ⟨.non, _, I2, rfl, q⟩
theorem pe_clearT {X : Cx} {o : Expr} {to : TE} {apos cpos : Pos} (ho : PE X o to) (hbase : attributeBase o "clear" X.env (eval o X.env) = eval o X.env := by rfl) (hline : (apos.endLine == cpos.line) = true := by rfl) : PE X (.Call (.Attribute o "clear" apos) [] [] cpos) (tBM0 X.K "dict" rClrT to) :=
  pe_bm0 F.plainAttrs_dict F.slot_dict_clear F.type_dict_clear mt_clearT ho hbase hline
/-- a key as data -/
def kD : L2.Key → PyData
  | .inl i => .int i
  | .inr x => .str x
def keyD (k : List L2.Key) : PyData := .tuple (k.map kD)
theorem dp_kV {K : PySem.W.Frag} {H : Hp} : ∀ k : L2.Key, Dp K H (kV k) (kD k)
  | .inl i => .int i
  | .inr x => .str x
theorem dpAll_kV {K : PySem.W.Frag} {H : Hp} : ∀ k : List L2.Key, DpAll K H (k.map kV) (k.map kD)
  | [] => .nil
  | a :: r => .cons (dp_kV a) (dpAll_kV r)
theorem dp_key {K : PySem.W.Frag} {H : Hp} {a : Addr} {k : List L2.Key} (h : H a = some (.tup (k.map kV))) : Dp K H (.ref a) (keyD k) := .tup (.inl (.inl h)) (dpAll_kV k)
/-- the keys' own tuples, sorted -/
def rSortDT : List V → Hp → VK → Prop := fun vs H Q => ∃ (d : Addr) (kvs : List (List L2.Key × V)), vs = [.ref d] ∧ H d = some (.dT kvs) ∧ PySem.W.AllAlike (kvs.map fun p => keyD p.1) ∧ PySem.W.Sortable (kvs.map fun p => keyD p.1) ∧ (∀ p ∈ kvs, (keyD p.1).depth ≤ 60) ∧
  ∀ (p : Addr) (bs : List (V × PyData)), Paired (fun (e : List L2.Key × V) b => ∃ a, b = (V.ref a, keyD e.1) ∧ H a = some (.tup (e.1.map kV))) kvs bs → H p = none → Q (.ref p) (upd H p (.lst ((bs.mergeSort (PySem.W.dataLe false Prod.snd)).map Prod.fst)))
theorem keys_each {X : Cx} {pins : List (Addr × Obj)} {σ : L2.St} {H : Hp} {s : Shared} (I : L2.Inv X pins σ H s) : ∀ {kvs : List (List L2.Key × V)} {xs : List (List L2.Key × Addr × Value)}, KT H kvs xs →
    ∃ bs : List (V × PyData), Paired (fun (e : List L2.Key × V) b => ∃ a, b = (V.ref a, keyD e.1) ∧ H a = some (.tup (e.1.map kV))) kvs bs ∧ bs.map Prod.snd = kvs.map (fun p => keyD p.1) ∧ bs.length = xs.length ∧
      PySem.W.EachIs (fun (v : Value) (b : V × PyData) => RelV b.1 v) (xs.map fun x => Value.ref x.2.1) bs ∧ ∀ b ∈ bs, Dp X.K H b.1 b.2 := by
  intro kvs xs h
  induction h with
  | nil => exact ⟨[], .nil, rfl, rfl, .nil, fun _ z => nomatch z⟩
  | @cons p q ps qs hq _ ih =>
    obtain ⟨bs, h1, h2, h3, h4, h5⟩ := ih
    obtain ⟨e1, e2, e3⟩ := hq
    refine ⟨(V.ref q.2.1, keyD p.1) :: bs, .cons ⟨_, rfl, e2⟩ h1, congrArg (keyD p.1 :: ·) h2, congrArg (· + 1) h3, .cons rfl h4, fun b hb => ?_⟩
    rcases List.mem_cons.mp hb with rfl | hb
    · exact dp_key e2
    · exact h5 b hb
theorem cr_sortDT {X : Cx} (hc : X.calm = true) (hu : X.A.units + 64 < cLine) : CallR X (.builtin "sorted") rSortDT := by
  intro pins s σ H vs us Q I r h
  obtain ⟨d, kvs, rfl, hd, ha, hs, hdep, q⟩ := h
  obtain ⟨u, rfl, rx⟩ := r.one
  cases rx
  obtain ⟨z, lo, xs, pr, o, es, ep, ho, hx, hdt, he, _⟩ := dt_of I.hok hd
  have l1 : es.size = xs.length := size_of_entries he
  have l2 : kvs.length = xs.length := Paired.length pr
  obtain ⟨bs, b1, b2, b3, b4, b5⟩ := keys_each I pr
  refine Calls.call_function_entry PyProof.Rows.kind_sorted PyProof.Rows.plain_sorted PyProof.Rows.entry_sorted (PyProof.Rows.args_sorted1 _) ?_
  unfold Builtin.«sorted»
  refine wpAny_bind (m := checkCount "sorted" 1 1 _) (wpAny_pure ?_)
  refine wpAny_bind (PySem.W.kdu_collect (A := X.A.in1) (kdl_raw lo hx hdt) (I.ok.hd hc) ho (by omega) fun h' tk acc hk it => ?_)
  have ea : acc.toList = xs.map fun x => Value.ref x.2.1 := by
    have hl : acc.toList.length = xs.length := by rw [Array.length_toList, it.1]; exact l1
    apply List.ext_getElem?
    intro j
    rw [List.getElem?_map]
    cases hj : acc.toList[j]? with
    | none =>
      have h1 := List.getElem?_eq_none_iff.mp hj
      rw [List.getElem?_eq_none (by omega)]
      rfl
    | some v =>
      obtain ⟨en, hen, hv⟩ := it.2 j v (by rw [← Array.getElem?_toList]; exact hj)
      have qe := entry_at he j
      rw [hen] at qe
      cases hb : xs[j]? with
      | none => rw [hb] at qe; exact nomatch (show some en = none from qe)
      | some b =>
        rw [hb] at qe
        have e2 : en = entryOfKey (tupleKind (mixKind X.prog X.w)) b := Option.some.inj qe
        rw [hv, e2]
        rfl
  have I1 : Inv X pins σ H { s with heap := h', toks := tk } := I.kept hk
  have hal : acc.toList.length ≤ sizeLine := by rw [ea, List.length_map]; omega
  refine wpAny_bind (wpAny_newList ?_ hal)
  have hoL : (h'.push (seqObj "list" acc.toList.toArray 0)).get? h'.objs.size = some (seqObj "list" acc.toList.toArray 0) := Heap.get?_push_size _ rfl
  show wpAny _ _ _ _ _ { s with heap := h'.push (seqObj "list" acc.toList.toArray 0), toks := tk }
  have er : PySem.W.EachIs (fun (v : Value) (b : V × PyData) => ∃ as, Reads (h'.push (seqObj "list" acc.toList.toArray 0)) v b.2 as ∧ h'.objs.size ∉ as) acc.toList bs := by
    rw [ea]
    refine (each_reads I1 b4 b5).mono fun v b h => ?_
    obtain ⟨as, hr⟩ := h
    refine ⟨as, PyProof.Rows.Reads.keeps (fun _ _ e => Heap.get?_push_of_some _ e) hr, fun hm => ?_⟩
    obtain ⟨ob, hob⟩ := PyProof.On.reads_mem_get hr _ hm
    exact absurd (Heap.lt_size hob) (Nat.lt_irrefl _)
  refine wpAny_bind (wpAny_holding (PySem.W.list_sort_data (β := V × PyData) (bs := bs) (enc := Prod.snd) (R := fun v b => RelV b.1 v) hoL (by rw [ea]; exact b4) er (by rw [b2]; exact ha) (by rw [b2]; exact hs) (by omega) (fun b hb => ?_) fun out hlen heo => ?_))
  · have hm : b.2 ∈ bs.map Prod.snd := List.mem_map.mpr ⟨b, hb, rfl⟩
    rw [b2] at hm
    obtain ⟨p, hp, ep⟩ := List.mem_map.mp hm
    have := hdep p hp
    rw [ep] at this
    show X.A.units + 1 + 1 + b.2.depth < cLine
    omega
  obtain ⟨e', he'⟩ := PyProof.Rows.sortedHeap_at (vs := acc.toList) (out := out.toArray) hoL
  have hlen2 : ((bs.mergeSort (PySem.W.dataLe false Prod.snd)).map Prod.fst).length ≤ sizeLine := by
    rw [List.length_map, List.length_mergeSort]
    omega
  refine wpAny_pure ⟨_, rfl, .ref h'.objs.size, upd H h'.objs.size (.lst ((bs.mergeSort (PySem.W.dataLe false Prod.snd)).map Prod.fst)), I1.laid (t' := tk) (fun b u e => ?_) (Nat.le_refl _) ⟨hlen2, out, e', vals_each heo, he'⟩, rfl, q _ _ b1 (I1.hok.fresh (Nat.le_refl _))⟩
  have hb : b < h'.objs.size := Heap.lt_size e
  rw [PyProof.Rows.sortedHeap_old (Nat.ne_of_lt hb) (by rw [size_push']; exact Nat.lt_succ_of_lt hb)]
  exact Heap.get?_push_of_some _ e
end Pk
set_option Elab.async false
set_option linter.all false
set_option maxRecDepth 100000
set_option maxHeartbeats 4000000
/-! promises of a def that may ask repr: no repr runs around it; no row -/
namespace Pk
open PySem PySem.Spec PyProof.Rows L2
structure FnG (P : Program) (w : World) (K : PySem.W.Frag) (mg : Str → Option Value) (base : Heap) (CX : CXT) (k : Nat) (f : Addr) (fd : FuncData) (ps : List Str) (sp : Sp) : Prop where
  len : ∀ (vs : List V) (H : Hp) (Q : VK) (E : XK), sp vs H Q E → vs.length = ps.length
  run : ∀ (A : Around) (outer : List Env) (s : Shared) (H : Hp) (args : Args) (us : List Value) (vs : List V) (Q : VK) (E : XK), A.guards = some [] → Room k A → Env0 P w K mg base A outer s H → BindsTo s fd args (ps.zip us) → Vals vs us → sp vs H Q E →
    codeAny (model P w) A (Code.call (Value.ref f) args) (CR CX outer P w H s Q E) s
theorem fn_ofG {CX : CXT} {P : Program} {w : World} {K : PySem.W.Frag} {mg : Str → Option Value} {base : Heap} {k : Nat} {f : Addr} {name qual : Str} {params : Arguments} {body : List Stmt} {scope : Scope} {dV kV doc pm cdv ct oc : Value}
    {an od : Option Addr} {osl : Array (Option Value)} {N ps : List Str} {sp : Sp}
    (lk : List.lookup f K = some { cls := oc, dict := od, data := Data.func (PySem.W.fnOf name qual params body scope dV kV doc pm an cdv ct), slots := osl })
    (hcd : PySem.W.codeIn K cdv qual = true) (S : FnScope N ps scope) (len : ∀ (vs : List V) (H : Hp) (Q : VK) (E : XK), sp vs H Q E → vs.length = ps.length)
    (hbody : ∀ (A : Around) (outer : List Env) (s : Shared) (H : Hp) (vs : List V) (Q : VK) (E : XK), A.guards = some [] → Room k (A.deeper (envOfC qual scope s.heap.objs.size f cdv)) → sp vs H Q E →
      ∃ t, PSs (cxOf CX P w K mg base N qual scope f cdv A outer s H E) body t ∧ t { nx := fun x H' => Q V.non H', rt := Q } (L2.start N vs) H) :
    FnG P w K mg base CX (k + 1) f (PySem.W.fnOf name qual params body scope dV kV doc pm an cdv ct) ps sp := by
  refine ⟨len, fun A outer s H args us vs Q E hg hr e0 hb r hsp => ?_⟩
  have hl := len vs H Q E hsp
  have KX := PySem.W.Frag.In.keeps e0.mod.kin fun b o e => (e0.bs b o e).left
  have lim := Heap.NoLimit.keeps e0.mod.nolimit fun b o e => (e0.bs b o e).left
  refine codeAny_call_function (Room.depth hr) (KX f _ lk) rfl S.co S.gen rfl (PySem.W.codeRec_of KX hcd) (hb (model P w) A.in1 _ _ (wpAny_newFunctionEnv_cells S.kind ?_ fun env he s1 x => ?_))
  · rintro ⟨n, v⟩ hy
    rcases S.par n (List.of_mem_zip hy).left with q | q
    · exact Or.inl q
    · exact Or.inr ⟨q, PySem.W.cellsFrom_some scope.names (s.heap.objs.size + 1) [] (Or.inl q)⟩
  · subst he
    refine ⟨Heap.NoLimit.keeps lim x.toInCall.keep, codeAny_func ?_⟩
    obtain ⟨t, ht, hq⟩ := hbody A outer s H vs Q E hg (Room.deeper hr (envOfC qual scope s.heap.objs.size f cdv)) hsp
    refine wpAny_mono (ht.run [] s1 (L2.start N vs) H { nx := fun x H' => Q V.non H', rt := Q } (inv_start S hr.hd e0 hl r x) hq) (fun fl s' hs => ?_) (fun e s' hs => hs)
    cases fl with
    | next =>
      obtain ⟨σ', H', J, q⟩ := hs
      exact ⟨V.non, H', J.os, J.bare, J.base, J.hok, rfl, q⟩
    | ret u =>
      obtain ⟨v, σ', H', J, rv, q⟩ := hs
      exact ⟨v, H', J.os, J.bare, J.base, J.hok, rv, q⟩
    | _ =>
      obtain ⟨_, _, _, q⟩ := hs
      exact q.elim
theorem okG {P : Program} {w : World} {K : PySem.W.Frag} {mg : Str → Option Value} {base : Heap} {x qual : Str} {st : Stmt} {f : Addr} {fd : FuncData} {N ps : List Str} {k : Nat} {sp : Sp} (F : Fun K x qual st f fd) (S : FnScope N ps (defScope st))
    (len : ∀ (vs : List V) (H : Hp) (Q : VK) (E : XK), sp vs H Q E → vs.length = ps.length)
    (hbody : ∀ (cdv : Value) (A : Around) (outer : List Env) (s : Shared) (H : Hp) (vs : List V) (Q : VK) (E : XK), A.guards = some [] → Room k (A.deeper (envOfC qual (defScope st) s.heap.objs.size f cdv)) → sp vs H Q E →
      ∃ t, PSs (cxOf CX0 P w K mg base N qual (defScope st) f cdv A outer s H E).nox (defBody st) t ∧ t { nx := fun x H' => Q V.non H', rt := Q } (L2.start N vs) H) :
    FnG P w K mg base CX0 (k + 1) f fd ps sp := by
  obtain ⟨oc, od, kV, doc, pm, an, cdv, ct, osl, rfl, lk, hcd⟩ := F.ex
  refine fn_ofG lk hcd S len fun A outer s H vs Q E hg hr hsp => ?_
  obtain ⟨t, h, q⟩ := hbody cdv A outer s H vs Q E hg hr hsp
  exact ⟨t, PSs.nox h, q⟩
theorem law_callG {P : Program} {w : World} {K : PySem.W.Frag} {mg mb : Str → Option Value} {CX : CXT} {k : Nat} {fa a : Addr} {fd : FuncData} {x : Str} {sp : Sp} {s₁ : Shared} {vs : List Value} {ns : List Int}
    (KX : K.In s₁.heap) (hns : s₁.heap.Ns mainGlobals mg) (hb : s₁.heap.Ns builtinsNs mb) (hbb : ∀ (x : Str), x ≠ Str.ofString "__name__" → mb x = bootBuiltins x) (hlim : s₁.heap.NoLimit) (hg : s₁.gens = #[])
    (ha : s₁.heap.get? a = some { cls := Value.type "list", data := Data.seq vs.toArray }) (hi : IntsAre vs ns) (hl : ns.length ≤ sizeLine) (hr : Room k callerA)
    (F : ∀ (base : Heap), K.In base → base.Ns mainGlobals mg → FnG P w K mg base CX k fa fd [x] sp)
    (hbind : ∀ (s : Shared) (u : Value), BindsTo s fd { pos := [u] } [(x, u)])
    (hsp : ∀ (H : Hp), Only H → SqL K H a (List.map V.int ns) → sp [V.ref a] H (fun v x => v = V.bl true) fun x x_1 x_2 => False)
    (hCX : ∀ (H : Hp) (e : Value) (s' : Shared), CX [] H s₁ (fun x x_1 x_2 => False) e s' → False) :
    codeAny (model P w) callerA (Code.call (Value.ref fa) { pos := [Value.ref a] }) (fun r s' => r = Except.ok (Flow.ret (Value.bool true)) ∧ OldK s₁.heap s'.heap ∧ s'.os = s₁.os ∧ AllBare s'.gens) s₁ := by
  have rv := vals_ints hi
  have lenV := IntsAre.length hi
  have core : ∀ H : Hp, Only H → SqL K H a (List.map V.int ns) → HOk P w H s₁.heap → (∀ b, H b ≠ none → b = a) → (H a ≠ none → List.lookup a K = none) →
      codeAny (model P w) callerA (Code.call (Value.ref fa) { pos := [Value.ref a] }) (fun r s' => r = Except.ok (Flow.ret (Value.bool true)) ∧ OldK s₁.heap s'.heap ∧ s'.os = s₁.os ∧ AllBare s'.gens) s₁ := by
    intro H hO hS hok hA hK
    have base_of : ∀ {b : Addr} {o : Obj}, s₁.heap.get? b = some o → H b = none → (hidT s₁.heap H).get? b = some o := fun e n => hidT_get e n
    have noA : ∀ {b : Addr} {o : Obj} {es : Array DictEntry} {ep : Nat}, s₁.heap.get? b = some o → o.data = Data.dict es ep → H b = none := by
      intro b o es ep e d
      cases q : H b with
      | none => rfl
      | some u =>
        have e' := hA b (by rw [q]; exact fun z => nomatch z)
        subst e'
        rw [ha] at e
        cases e
        cases d
    have nsK : ∀ {b : Addr} {m : Str → Option Value}, s₁.heap.Ns b m → (hidT s₁.heap H).Ns b m := by
      intro b m x
      obtain ⟨o, es, ep, e, d, r⟩ := x
      exact ⟨o, es, ep, base_of e (noA e d), d, r⟩
    have hKb : K.In (hidT s₁.heap H) := fun b o e => base_of (KX b o e) (by
      cases q : H b with
      | none => rfl
      | some u =>
        have n0 : H b ≠ none := by rw [q]; exact fun z => nomatch z
        have e' := hA b n0
        subst e'
        have := hK n0
        rw [this] at e
        cases e)
    have hM : L2.Mod K mg (hidT s₁.heap H) := { kin := hKb, glob := nsK hns, blt := ⟨mb, nsK hb, hbb⟩, nolimit := (match hlim with | ⟨mc, h1, h2⟩ => ⟨mc, nsK h1, h2⟩) }
    have e0 : Env0 P w K mg (hidT s₁.heap H) callerA [] s₁ H := { frames := rfl, mod := hM, bs := fun b o e => of_hidT e, bsz := Nat.le_of_eq (hidT_size s₁.heap H), funs := trivial, frf := fun b hb => absurd hb List.not_mem_nil, hok := hok, bare := AllBare.of_eq hg }
    refine codeAny_mono ((F (hidT s₁.heap H) hKb (nsK hns)).run callerA [] s₁ H { pos := [Value.ref a] } [Value.ref a] [V.ref a] (fun v x => v = V.bl true) (fun x x_1 x_2 => False) rfl hr e0 (hbind s₁ (Value.ref a)) (Paired.cons rfl Paired.nil) (hsp H hO hS)) fun r s' h => ?_
    cases r with
    | error e => exact (hCX H e s' h).elim
    | ok fl =>
      cases fl with
      | ret u =>
        obtain ⟨v, H', os, bare, un, hok', r', q⟩ := h
        subst q
        obtain rfl := r'
        refine ⟨rfl, OldK.of_keep fun b o e => ?_, os, bare⟩
        cases q : H b with
        | none => exact un.keep b o e q (fun z => absurd z List.not_mem_nil) List.not_mem_nil
        | some u =>
          rcases hO b with z | ⟨ob, xs, z⟩
          · rw [q] at z
            cases z
          · have z2 := un.frzs b ob (HO.lst xs) z
            have e1 := (hok b _ z).1
            have e2 := (hok' b _ z2).1
            rw [e] at e1
            cases e1
            exact e2
      | _ => exact (h : False).elim
  cases hk : List.lookup a K with
  | none =>
    refine core (fun b => if b = a then some (HO.frz { cls := Value.type "list", data := Data.seq vs.toArray } (HO.lst (List.map V.int ns))) else none) (fun b => ?_) (.inl (.inr ⟨_, if_pos rfl⟩)) (fun b u z => ?_) (fun b z => ?_) fun _ => hk
    · by_cases hb : b = a
      · exact .inr ⟨_, _, if_pos hb⟩
      · exact .inl (if_neg hb)
    · by_cases hb : b = a
      · subst hb
        dsimp only at z
        rw [if_pos rfl] at z
        cases z
        exact ⟨ha, by rw [List.length_map]; exact hl, vs, 0, rv, ha⟩
      · dsimp only at z
        rw [if_neg hb] at z
        cases z
    · by_cases hb : b = a
      · exact hb
      · exact absurd (if_neg hb) z
  | some o =>
    have e := KX a o hk
    rw [ha] at e
    cases e
    refine core (fun _ => none) (fun _ => .inl rfl) (.inr ⟨_, vs.toArray, 0, hk, rfl, rfl, rfl, ?_, rv⟩) (fun b u z => by cases z) (fun b z => absurd rfl z) fun z => absurd rfl z
    rw [List.size_toArray, lenV]
    exact hl
theorem walk_ofG {l : PySem.W.OpenLaw} {n k : Nat} {q : Program} {loose : List Str} {XP : (Str → Option Value) → Heap → Prop} {YP : World → Heap → Prop} {d : DefRec} {K : Params → PySem.W.Frag} {CX : World → CXT} {sp : World → Sp} {x : Str}
    (hn : l.most = some n) (hn2 : n ≤ sizeLine) (hdf : d.params.defaults = []) (hr : Room k callerA) (hY : ∀ (w : World) (h : Heap), YP w h → (K w.params).In h)
    (F : ∀ (w : World) (mg : Str → Option Value) (fa : Addr) (h : Heap), (K w.params).In h → h.Ns mainGlobals mg → mg d.name = some (Value.ref fa) →
      ∃ fd, (∀ (s : Shared) (u : Value), BindsTo s fd { pos := [u] } [(x, u)]) ∧ ∀ (base : Heap), (K w.params).In base → base.Ns mainGlobals mg → FnG l.prog w (K w.params) mg base (CX w) k fa fd [x] (sp w))
    (hsp : ∀ (w : World) (H : Hp) (a : Addr) (ns : List Int), ns.length ≤ n → Only H → SqL (K w.params) H a (List.map V.int ns) → sp w [V.ref a] H (fun v x => v = V.bl true) fun x x_1 x_2 => False)
    (hCX : ∀ (w : World) (H : Hp) (s : Shared) (e : Value) (s' : Shared), CX w [] H s (fun x x_1 x_2 => False) e s' → False) :
    PySem.W.WalkO q loose XP YP l.row.toRowW d [] fun f vs => call f vs :=
  Att.attach_call hn hdf fun w s₀ s₁ mg mb fa o pm cd doc a vs ns G Y ho hd hcd hmg hobj hints hlen hg => by
    have KX := hY w s₁.heap Y
    obtain ⟨fd, hb, hF⟩ := F w mg fa s₁.heap KX G.T.g hmg
    exact law_callG KX G.T.g G.T.b G.T.builtins G.T.nolimit hg hobj hints (Nat.le_trans hlen hn2) hr hF hb (fun H hO hS => hsp w H a ns hlen hO hS) fun H e s' => hCX w H s₁ e s'
end Pk
set_option Elab.async false
set_option linter.all false
set_option maxRecDepth 100000
set_option maxHeartbeats 4000000
/-! repr of data; no row -/
namespace Pk
open PySem PySem.Spec PyProof.Rows L2
mutual
theorem dp_noDict {K : PySem.W.Frag} {G : Hp} : ∀ {d : PyData} {v : V}, Dp K G v d → d.hasDict = false
  | _, _, .non => rfl
  | _, _, .bl b => rfl
  | _, _, .int i => rfl
  | _, _, .str x => rfl
  | _, _, .lst h r => dpAll_noDict r
  | _, _, .tup h r => dpAll_noDict r
theorem dpAll_noDict {K : PySem.W.Frag} {G : Hp} : ∀ {ds : List PyData} {vs : List V}, DpAll K G vs ds → PyData.hasDictAll ds = false
  | _, _, .nil => rfl
  | _, _, .cons h r => by
    rw [show ∀ (x : PyData) xs, PyData.hasDictAll (x :: xs) = (x.hasDict || PyData.hasDictAll xs) from fun _ _ => rfl, dp_noDict h, dpAll_noDict r]
    rfl
end
def rReprD (K : PySem.W.Frag) : List V → Hp → VK → Prop := fun xs H Q => ∃ (a : Addr) (d : PyData), xs = [.ref a] ∧ Dp K H (.ref a) d ∧ d.showable = true ∧ d.shown.length ≤ sizeLine ∧ d.depth ≤ 60 ∧ Q (.str d.shown) H
theorem call_reprD {X : Cx} (hg : X.A.guards = some []) (hu : X.A.units + 64 < cLine) : CallR X (.builtin "repr") (rReprD X.K) := by
  intro pins s σ H xs us Q I r h
  obtain ⟨a, d, rfl, hD, hs, hl, hd, q⟩ := h
  cases r with
  | cons r0 rr =>
    cases rr
    obtain ⟨as, hR⟩ := Dp.reads I d (.ref a) _ hD r0
    obtain rfl := r0
    exact PySem.repr_of_reads' hR hs (fun z => by rw [dp_noDict hD] at z; cases z) hg (by omega) (fun _ _ e => e) (fun h' u tk hk => ⟨.str d.shown, H, I.kept (t' := tk) hk, ⟨u, rfl⟩, q⟩) hl
end Pk
set_option Elab.async false
set_option linter.all false
set_option maxRecDepth 100000
set_option maxHeartbeats 4000000
/-! repr of dicts with tuple keys and ints, and of lists of pairs with such dicts; no row -/
namespace Pk
open PySem PySem.Spec PyProof.Rows L2
def kvI (kns : List (List L2.Key × Int)) : List (List L2.Key × V) := kns.map fun p => (p.1, V.int p.2)
def dcD (kns : List (List L2.Key × Int)) : PyData := .dict (kns.map fun p => (keyD p.1, .int p.2))
theorem flat_reads {h : Heap} : ∀ {k : List L2.Key} {us : List Value}, Vals (k.map kV) us → ReadsAll h us (k.map kD) []
  | [], _, hv => by
    cases hv
    exact .nil
  | .inl i :: r, _, hv => by
    cases hv with
    | cons h1 h2 =>
      obtain ⟨t, rfl⟩ := h1
      exact ReadsAll.cons (as := []) (Reads.int i t) (flat_reads h2)
  | .inr x :: r, _, hv => by
    cases hv with
    | cons h1 h2 =>
      obtain ⟨t, rfl⟩ := h1
      exact ReadsAll.cons (as := []) (Reads.str x t) (flat_reads h2)
section
variable {X : Cx} {pins : List (Addr × Obj)} {σ : L2.St} {H : Hp} {s : Shared}
theorem keys_reads (I : L2.Inv X pins σ H s) : ∀ {kns : List (List L2.Key × Int)} {xs : List (List L2.Key × Addr × Value)}, KT H (kvI kns) xs →
    ReadsAll s.heap (xs.map fun x => Value.ref x.2.1) (kns.map fun p => keyD p.1) [] ∧ ReadsAll s.heap (xs.map fun x => x.2.2) (kns.map fun p => PyData.int p.2) []
  | [], _, hk => by
    cases hk
    exact ⟨.nil, .nil⟩
  | p :: r, _, hk => by
    cases hk with
    | cons h1 h2 =>
      obtain ⟨q1, q2⟩ := keys_reads I h2
      obtain ⟨e1, e2, e3⟩ := h1
      obtain ⟨_, its, rv, o, ho, hc, n, hd⟩ := (show ObjOk X.prog X.w H s.heap _ (.tup (p.1.map kV)) from I.hok _ _ e2)
      obtain ⟨t, e3⟩ := (show ∃ t, _ = Value.int p.2 t from e3)
      refine ⟨ReadsAll.cons (as := []) (Reads.tuple ho hc hd (flat_reads rv)) q1, ?_⟩
      refine ReadsAll.cons (as := []) (bs := []) ?_ q2
      dsimp only
      rw [e3]
      exact Reads.int p.2 t
theorem dict_reads (I : L2.Inv X pins σ H s) {a : Addr} {kns : List (List L2.Key × Int)} (h : Rd H a (.dT (kvI kns))) : Reads s.heap (.ref a) (dcD kns) [a] ∧ sysModules ∉ [a] := by
  obtain ⟨z, lo, xs, pr, o, es, ep, ho, hx, hdt, he, _⟩ := (show ObjOk X.prog X.w H s.heap a (.dT (kvI kns)) from h.ok I.hok)
  obtain ⟨q1, q2⟩ := keys_reads I pr
  have k1 : ReadsAll s.heap (es.toList.map (·.key)) ((kns.map fun p => (keyD p.1, PyData.int p.2)).map (·.1)) [] := by
    rw [he, List.map_map, List.map_map]
    exact q1
  have k2 : ReadsAll s.heap (es.toList.map (·.val)) ((kns.map fun p => (keyD p.1, PyData.int p.2)).map (·.2)) [] := by
    rw [he, List.map_map, List.map_map]
    exact q2
  refine And.intro (Reads.dict ho hx.1 hdt k1 k2) fun hm => ?_
  have e := List.mem_singleton.mp hm
  rw [← e] at lo
  exact absurd lo (by decide)
end
def rReprT : List V → Hp → VK → Prop := fun xs H Q => ∃ (a : Addr) (kns : List (List L2.Key × Int)), xs = [.ref a] ∧ Rd H a (.dT (kvI kns)) ∧ (dcD kns).showable = true ∧ (dcD kns).shown.length ≤ sizeLine ∧ (dcD kns).depth ≤ 60 ∧ Q (.str (dcD kns).shown) H
theorem cr_reprT {X : Cx} (hg : X.A.guards = some []) (hu : X.A.units + 64 < cLine) : CallR X (.builtin "repr") rReprT := by
  intro pins s σ H xs us Q I r h
  obtain ⟨a, kns, rfl, hD, hs, hl, hd, q⟩ := h
  obtain ⟨u, rfl, rx⟩ := r.one
  cases rx
  obtain ⟨hR, hn⟩ := dict_reads I hD
  exact PySem.repr_of_reads' hR hs (fun _ => hn) hg (by omega) (fun _ _ e => e) (fun h' u tk hk => ⟨.str (dcD kns).shown, H, I.kept (t' := tk) hk, ⟨u, rfl⟩, q⟩) hl
/-- repr of a list whose items read away from the table of modules: the list's own place doesn't matter -/
theorem repr_items {prog : Program} {w : World} {A : Around} {E : Value → Shared → Prop} {s : Shared} {Q : Value → Shared → Prop} {p : Addr} {o : Obj} {vs : List Value} {n : Nat} {ds : List PyData} {as : List Addr}
    (ho : s.heap.get? p = some o) (hc : o.cls = .type "list") (hd : o.data = .seq vs.toArray n) (hr : ReadsAll s.heap vs ds as) (hs : PyData.showableAll ds = true) (hn : sysModules ∉ as)
    (hl : (PyData.list ds).shown.length ≤ sizeLine) (hg : A.guards = some []) (hu : A.units + 1 + (PyData.list ds).depth < cLine)
    (q : ∀ h' u tk, (∀ b ob, s.heap.get? b = some ob → h'.get? b = some ob) → Q (.str (PyData.list ds).shown u) { s with heap := h', toks := tk }) :
    wpAny (model prog w) A (call (.builtin "repr") [.ref p]) Q E s := by
  have hl2 : (listText (PyData.shownAll ds)).length ≤ sizeLine := by simpa only [PyData.shown] using hl
  obtain ⟨cs, c1, c2⟩ := ReprAllK.of_readsAll (prog := prog) (w := w) hr hs (fun _ => hn) fun t ht => Nat.le_trans (listText_mem_le ht) hl2
  have rl : Reads s.heap (.ref p) (.list ds) (p :: as) := .list (vs := vs.toArray) ho hc hd hr
  have hnp : p ∉ cs := not_mem_of_deeper rl (show PyData.depthAll ds < (PyData.list ds).depth by simp only [PyData.depth]; omega) c1
  have hu2 : A.units + 1 + (PyData.depthAll ds + 1) < cLine := by simpa only [PyData.depth, Nat.add_comm] using hu
  refine call_repr_slot (T := "list") (by omega) ⟨o, ho, hc⟩ F.slot_list_repr.toG ?_
  simp only [PyData.shown] at q
  cases vs with
  | nil =>
    cases hr
    simp only [PyData.shownAll, listText_nil] at q
    exact call_list_repr_empty ⟨o, ho, hc⟩ ho hd ⟨_, _, rfl, q s.heap _ _ fun _ _ e => e⟩
  | cons x l => exact call_list_reprK (h₀ := s.heap) ho hc hd hnp (by simpa using c2.length_eq) (fun i y e => c2.item i y (by simpa using e)) hg (fun b _ => Clear.nil b) hu2 (fun _ _ e => e) (fun h' u tk hk => ⟨_, _, rfl, q h' u tk hk⟩) hl2
/-- a list of pairs (an int, a dict) -/
def rReprLT : List V → Hp → VK → Prop := fun xs H Q => ∃ (p : Addr) (ys : List V) (rows : List (Int × List (List L2.Key × Int))), xs = [.ref p] ∧ H p = some (.lst ys) ∧
  Paired (fun (y : V) (r : Int × List (List L2.Key × Int)) => ∃ t d, y = .ref t ∧ H t = some (.tup [.int r.1, .ref d]) ∧ Rd H d (.dT (kvI r.2))) ys rows ∧
  PyData.showableAll (rows.map fun r => .tuple [.int r.1, dcD r.2]) = true ∧ (PyData.list (rows.map fun r => .tuple [.int r.1, dcD r.2])).shown.length ≤ sizeLine ∧ (PyData.list (rows.map fun r => .tuple [.int r.1, dcD r.2])).depth ≤ 60 ∧
  Q (.str (PyData.list (rows.map fun r => .tuple [.int r.1, dcD r.2])).shown) H
theorem rows_reads {X : Cx} {pins : List (Addr × Obj)} {σ : L2.St} {H : Hp} {s : Shared} (I : L2.Inv X pins σ H s) : ∀ {ys : List V} {rows : List (Int × List (List L2.Key × Int))} {us : List Value},
    Paired (fun (y : V) (r : Int × List (List L2.Key × Int)) => ∃ t d, y = .ref t ∧ H t = some (.tup [.int r.1, .ref d]) ∧ Rd H d (.dT (kvI r.2))) ys rows → Vals ys us →
    ∃ as, ReadsAll s.heap us (rows.map fun r => .tuple [.int r.1, dcD r.2]) as ∧ sysModules ∉ as
  | [], _, _, hp, hv => by
    cases hp
    cases hv
    exact ⟨[], .nil, List.not_mem_nil⟩
  | y :: ys, _, _, hp, hv => by
    cases hp with
    | @cons _ r _ rs h1 h2 =>
      cases hv with
      | cons v1 v2 =>
        obtain ⟨as, i1, i2⟩ := rows_reads I h2 v2
        obtain ⟨t, d, rfl, ht, hd⟩ := h1
        cases v1
        obtain ⟨_, its, rv, o, ho, hc, n, hdt⟩ := (show ObjOk X.prog X.w H s.heap t (.tup [.int r.1, .ref d]) from I.hok _ _ ht)
        obtain ⟨g1, g2⟩ := dict_reads I hd
        cases rv with
        | cons w1 w2 =>
          cases w2 with
          | cons w3 w4 =>
            cases w4
            obtain ⟨tt, rfl⟩ := w1
            cases w3
            refine ⟨_, ReadsAll.cons (Reads.tuple ho hc hdt (ReadsAll.cons (Reads.int r.1 tt) (ReadsAll.cons g1 .nil))) i1, fun hm => ?_⟩
            rcases List.mem_append.mp hm with hm | hm
            · exact g2 (by simpa using hm)
            · exact i2 hm
theorem cr_reprLT {X : Cx} (hg : X.A.guards = some []) (hu : X.A.units + 64 < cLine) : CallR X (.builtin "repr") rReprLT := by
  intro pins s σ H xs us Q I r h
  obtain ⟨p, ys, rows, rfl, hp, hr, hs, hl, hd, q⟩ := h
  obtain ⟨u, rfl, rx⟩ := r.one
  cases rx
  obtain ⟨_, its, n, hv, ho⟩ := (show ObjOk X.prog X.w H s.heap p (.lst ys) from I.hok _ _ hp)
  obtain ⟨as, g1, g2⟩ := rows_reads I hr hv
  exact repr_items ho rfl rfl g1 hs g2 hl hg (by omega) fun h' u tk hk => ⟨.str _, H, I.kept (t' := tk) hk, ⟨u, rfl⟩, q⟩
end Pk
set_option Elab.async false
set_option linter.all false
set_option maxRecDepth 100000
set_option maxHeartbeats 4000000
/-! two dicts with tuple keys that hold the same: ==, !=; no row -/
namespace Pk
open PySem PySem.Spec PyProof.Rows L2 PySem.W
section
variable {prog : Program} {w : World} {K : Type} [DecidableEq K] {knd : HeapKind prog w K} {A : Around} {E : Value → Shared → Prop} {s : Shared}
theorem pairsT {nm : String} {a b : Addr} {xa xb : List (K × Addr × Value)} {Q : Bool → Shared → Prop} (za : (a == sysModules) = false) (zb : (b == sysModules) = false) (room : knd.room A)
    (da : s.heap.DictOfH knd a xa) (db : s.heap.DictOfH knd b xb) (hl : xa.length = xb.length) (hall : ∀ x ∈ xa, ∃ p, atKey xb x.1 = some p ∧ SeqAt.EqP prog w A s x.2.2 p.2 true) (h : Q true s) :
    wpAny (model prog w) A (Builtin.Dict.samePairs nm a b) Q E s := by
  obtain ⟨o1, e1, n1, g1, _, d1, l1, k1, _⟩ := da
  obtain ⟨o2, e2, n2, g2, _, d2, l2, k2, u2⟩ := db
  have z1 : e1.size = xa.length := size_of_entries l1
  have z2 : e2.size = xb.length := size_of_entries l2
  have zz : e1.size = e2.size := by rw [z1, z2]; exact hl
  unfold Builtin.Dict.samePairs Builtin.Dict.showsAll
  simp only [za, zb, Bool.false_eq_true, if_false]
  refine wpAny_bind (wpAny_pure (wpAny_bind (wpAny_pure ?_)))
  refine wpAny_bind (wpAny_dictEntries g1 d1 ?_)
  refine wpAny_bind (wpAny_dictEntries g2 d2 ?_)
  rw [if_neg (by simp [zz])]
  refine wpAny_bind (wpAny_dictEpoch g1 d1 ?_)
  refine wpAny_bind ?_
  rw [Std.Legacy.Range.forIn_eq_forIn_range']
  simp only [Std.Legacy.Range.size, Nat.sub_zero, Nat.add_sub_cancel, Nat.div_one]
  refine wpAny_forIn_list _ (fun todo q s1 => s1 = s ∧ q = (none, ()) ∧ ∃ i, i ≤ e1.size ∧ todo = List.range' i (e1.size - i)) _ ?_ ?_ _ _ ⟨rfl, rfl, 0, Nat.zero_le _, by simp⟩
  · rintro j todo q s1 ⟨rfl, rfl, i, hi, ht⟩
    have lt : i < e1.size := Nat.lt_of_not_le fun c => by
      rw [Nat.sub_eq_zero_of_le c] at ht
      exact nomatch ht
    have ht2 : j :: todo = i :: List.range' (i + 1) (e1.size - (i + 1)) := by
      rw [ht, show e1.size - i = e1.size - (i + 1) + 1 by omega]
      exact List.range'_succ ..
    obtain ⟨rfl, ht3⟩ := List.cons.inj ht2
    have ltx : j < xa.length := by omega
    obtain ⟨x, hx⟩ : ∃ x, xa[j]? = some x := ⟨_, List.getElem?_eq_getElem ltx⟩
    have he : e1[j]? = some (entryOfKey knd x) := by rw [entry_at l1 j, hx]; rfl
    have hm : x ∈ xa := List.mem_of_getElem? hx
    obtain ⟨p, hp, heq⟩ := hall x hm
    refine wpAny_bind (wpAny_dictEntries g1 d1 ?_)
    rw [he]
    show wpAny _ _ (holding [_, _] _ >>= _) _ _ _
    refine wpAny_bind (wpAny_holding (wpAny_bind (wpAny_dictFind_heap (k := x.1) (a := x.2.1) room (k1 x hm) g2 d2 l2 k2 u2 (fun no => ?_) fun m y hy => ?_)))
    · rw [atKey_none_of_get no] at hp
      exact nomatch hp
    · have ey : some y = some p := (atKey_of_get u2 hy).symm.trans hp
      obtain rfl := Option.some.inj ey
      have hf : e2[m]? = some (entryOfKey knd (x.1, y)) := by rw [entry_at l2 m, hy]; rfl
      refine wpAny_bind (wpAny_dictEntries g2 d2 ?_)
      rw [hf]
      refine wpAny_holding (heq _ _ ?_)
      show wpAny _ _ (if (!true) = true then _ else _) _ _ _
      rw [if_neg (by simp)]
      refine wpAny_bind (wpAny_dictEpoch g1 d1 ?_)
      rw [if_neg (by simp)]
      exact wpAny_pure ⟨rfl, rfl, j + 1, lt, ht3⟩
  · rintro q s1 ⟨rfl, rfl, _⟩
    exact wpAny_pure h
theorem dictsEq {a b : Addr} {xa xb : List (K × Addr × Value)} {Q : Value → Shared → Prop} (za : (a == sysModules) = false) (zb : (b == sysModules) = false) (room : knd.room A.in1) (hu : A.units < cLine)
    (da : s.heap.DictOfH knd a xa) (db : s.heap.DictOfH knd b xb) (hl : xa.length = xb.length) (hall : ∀ x ∈ xa, ∃ p, atKey xb x.1 = some p ∧ SeqAt.EqP prog w A.in1 s x.2.2 p.2 true) (h : Q (.bool true) s) :
    wpAny (model prog w) A (compareOp .Eq (.ref a) (.ref b)) Q E s := by
  refine wpAny_richCompare_same_room (op := .Eq) da.typeIs db.typeIs F.slot_dict_eq (wpAny_call_entry F.slot_dict_eq da.typeIs F.entry_dict_eq ?_ (F.args_dict_eq_2 _ _)) hu
  show wpAny _ _ (Builtin.Dict.dictSlotArgs "__eq__" _ >>= _) _ _ s
  unfold Builtin.Dict.dictSlotArgs
  refine wpAny_bind (wpAny_bind (wpAny_notOrdered_dict da.typeIs (wpAny_pure ?_)))
  refine wpAny_bind (wpAny_isInstance (T := "dict") db.typeIs F.sub_dict_dict ?_)
  simp only [Bool.not_true, Bool.false_eq_true, if_false]
  refine wpAny_bind (wpAny_pure (wpAny_bind (wpAny_pure (wpAny_bind (pairsT za zb room da db hl hall ?_)))))
  exact wpAny_pure ⟨_, rfl, (fun z => nomatch z), h⟩
theorem dictsNe {a b : Addr} {xa xb : List (K × Addr × Value)} {Q : Value → Shared → Prop} (za : (a == sysModules) = false) (zb : (b == sysModules) = false) (room : knd.room A.in1) (hu : A.units < cLine)
    (da : s.heap.DictOfH knd a xa) (db : s.heap.DictOfH knd b xb) (hl : xa.length = xb.length) (hall : ∀ x ∈ xa, ∃ p, atKey xb x.1 = some p ∧ SeqAt.EqP prog w A.in1 s x.2.2 p.2 true) (h : Q (.bool false) s) :
    wpAny (model prog w) A (compareOp .NotEq (.ref a) (.ref b)) Q E s := by
  refine wpAny_richCompare_same_room (op := .NotEq) da.typeIs db.typeIs F.slot_dict_ne (wpAny_call_entry F.slot_dict_ne da.typeIs F.entry_dict_ne ?_ (F.args_dict_ne_2 _ _)) hu
  show wpAny _ _ (Builtin.Dict.dictSlotArgs "__ne__" _ >>= _) _ _ s
  unfold Builtin.Dict.dictSlotArgs
  refine wpAny_bind (wpAny_bind (wpAny_notOrdered_dict da.typeIs (wpAny_pure ?_)))
  refine wpAny_bind (wpAny_isInstance (T := "dict") db.typeIs F.sub_dict_dict ?_)
  simp only [Bool.not_true, Bool.false_eq_true, if_false]
  refine wpAny_bind (wpAny_pure (wpAny_bind (wpAny_pure (wpAny_bind (pairsT za zb room da db hl hall ?_)))))
  exact wpAny_pure ⟨_, rfl, (fun z => nomatch z), h⟩
end
def SmI (H : Hp) (x y : V) : Prop := ∃ (a b : Addr) (ks ls : List (List L2.Key × Int)), x = .ref a ∧ y = .ref b ∧ H a = some (.dT (kvI ks)) ∧ H b = some (.dT (kvI ls)) ∧ ks.length = ls.length ∧ ∀ p ∈ ks, valV (kvI ls) p.1 = some (V.int p.2)
theorem all_hits {P : Program} {w : World} {A : Around} {s : Shared} {H : Hp} {ls : List (List L2.Key × Int)} {xb : List (List L2.Key × Addr × Value)} (rb : KT H (kvI ls) xb) :
    ∀ {ks : List (List L2.Key × Int)} {xa : List (List L2.Key × Addr × Value)}, KT H (kvI ks) xa → (∀ p ∈ ks, valV (kvI ls) p.1 = some (V.int p.2)) → ∀ x ∈ xa, ∃ p, atKey xb x.1 = some p ∧ SeqAt.EqP P w A s x.2.2 p.2 true
  | [], _, ra, _, x, hx => by
    cases ra
    exact nomatch hx
  | k :: ks, _, ra, hv, x, hx => by
    cases ra with
    | cons h1 h2 =>
      rcases List.mem_cons.mp hx with rfl | hx
      · obtain ⟨e1, _, e3⟩ := h1
        obtain ⟨t, e3⟩ := (show ∃ t, x.2.2 = Value.int k.2 t from e3)
        have r := rb.val k.1
        rw [hv k List.mem_cons_self] at r
        have e1 : k.1 = x.1 := e1
        rw [← e1]
        cases c : atKey xb k.1 with
        | none =>
          rw [c] at r
          exact (show False from r).elim
        | some y =>
          rw [c] at r
          obtain ⟨u, e4⟩ := (show ∃ u, y.2 = Value.int k.2 u from r)
          refine ⟨y, rfl, fun E Q q => ?_⟩
          rw [e3, e4]
          exact wpAny_eqBool_int (by rw [beq_self_eq_true]; exact q)
      · exact all_hits rb h2 (fun p hp => hv p (List.mem_cons_of_mem _ hp)) x hx
section
variable {X : Cx}
theorem op_eqT (hu : X.A.units + 64 < cLine) : OpR X (compareOp .Eq) (fun x y H Q => SmI H x y ∧ Q (.bl true) H) := by
  intro pins s σ H x y v u Q I rx ry h
  obtain ⟨⟨a, b, ks, ls, rfl, rfl, ea, eb, hl, hv⟩, q⟩ := h
  cases rx
  cases ry
  obtain ⟨_, za, xa, ra, da⟩ := dt_of I.hok ea
  obtain ⟨_, zb, xb, rb, db⟩ := dt_of I.hok eb
  have la : (kvI ks).length = xa.length := Paired.length ra
  have lb : (kvI ls).length = xb.length := Paired.length rb
  rw [kvI, List.length_map] at la lb
  exact dictsEq (knd := tupleKind (mixKind X.prog X.w)) za zb (show X.A.units + 1 < cLine by omega) (by omega) da db (by omega) (all_hits rb ra hv) (fin_bl I q rfl)
theorem op_neT (hu : X.A.units + 64 < cLine) : OpR X (compareOp .NotEq) (fun x y H Q => SmI H x y ∧ Q (.bl false) H) := by
  intro pins s σ H x y v u Q I rx ry h
  obtain ⟨⟨a, b, ks, ls, rfl, rfl, ea, eb, hl, hv⟩, q⟩ := h
  cases rx
  cases ry
  obtain ⟨_, za, xa, ra, da⟩ := dt_of I.hok ea
  obtain ⟨_, zb, xb, rb, db⟩ := dt_of I.hok eb
  have la : (kvI ks).length = xa.length := Paired.length ra
  have lb : (kvI ls).length = xb.length := Paired.length rb
  rw [kvI, List.length_map] at la lb
  exact dictsNe (knd := tupleKind (mixKind X.prog X.w)) za zb (show X.A.units + 1 < cLine by omega) (by omega) da db (by omega) (all_hits rb ra hv) (fin_bl I q rfl)
end
end Pk
set_option Elab.async false
set_option linter.all false
set_option maxRecDepth 100000
set_option maxHeartbeats 4000000
/-! a dict comprehension whose keys are tuples; no row -/
namespace Pk
open PySem PySem.Spec PyProof.Rows L2
theorem d_dictSetT {X : Cx} {pins : List (Addr × Obj)} {σ : L2.St} {H : Hp} {s : Shared} {E : Value → Shared → Prop} {D b : Addr} {kvs : List (List Key × V)} {k : List Key} {v : V} {r : Value} {Q : Unit → Shared → Prop} (hu : X.A.units + 1 < cLine)
    (I : L2.Inv X pins σ H s) (hD : H D = some (.dT kvs)) (hz : kvs.length < sizeLine) (hb : H b = some (.tup (k.map kV))) (rv : L2.RelV v r) (h : ∀ s', L2.Inv X pins σ (upd H D (.dT (putK kvs k v))) s' → Q () s') :
    wpAny (model X.prog X.w) X.A (dictSet D (Value.ref b) r) Q E s := by
  obtain ⟨z, hd, xs, rel, dd⟩ := dt_of I.hok hD
  have hz' : xs.length ≤ sizeLine := by
    rw [← Paired.length rel]
    exact z
  have hl : (putK kvs k v).length ≤ sizeLine := by
    have := length_putK kvs k v
    omega
  refine wpAny_dictSet_heap (knd := tupleKind (mixKind X.prog X.w)) (k := k) ?_ (key_of I.hok hb) dd (fun h' dd' hs => h { heap := h', gens := s.gens, drawn := s.drawn, toks := s.toks + (tupleKind (mixKind X.prog X.w)).draws k, os := s.os } ?_) hz'
  · show X.A.units < cLine
    omega
  · obtain ⟨q, es, ep, hq, h2, h3, h4, _, h5⟩ := dd'
    exact d_write I (by rw [hD]; trivial) hs ⟨q, hq⟩ ⟨hl, hd, storedH xs k b r, KT.keeps (KT.put rel k hb rv) fun c ys ec => by
      rw [upd_ne (ne_of ec hD fun z => nomatch z)]
      exact ec, q, es, ep, hq, h2, h3, h4, h5⟩
def tDcT (wi : TI) (g : TG) (tt : TT) (tk tv : TE) (vs : List Nat) : TE := fun σ H Q => wi σ H fun J H1 => ∀ D, H1 D = none → ∃ W : Nat → Nat → Hp → Prop, (∃ m, W 0 m (upd H1 D (.dT []))) ∧ ∀ i m H, W i m H → (J.stop i H ∧ Q (.ref D) H) ∨ (J.go i H ∧ ∃ Nx : Hp → Prop, (∀ H', Nx H' → ∃ m', m' < m ∧ W (i + 1) m' H') ∧ ∀ x H', J.yld i H x H' → g x (wipe σ vs) H' fun σ2 H2 => wipe σ2 vs = wipe σ vs ∧ tt σ2 H2 fun b H3 => if b = true then tk σ2 H3 fun y H4 => tv σ2 H4 fun z H5 => ∃ kvs k a, y = .ref a ∧ H5 a = some (.tup (k.map kV)) ∧ H5 D = some (.dT kvs) ∧ kvs.length < sizeLine ∧ Nx (upd H5 D (.dT (putK kvs k z))) else Nx H3)
theorem pe_dcT {X : Cx} {kx vx tg iter : Expr} {ifs : List Expr} {scope : Scope} {own : List (Str × Nat)} {pos : Pos} {wi : TI} {g : TG} {tt : TT} {tk tv : TE} (hc : X.calm = true) (hN : X.N.Nodup) (hu : X.A.units + 1 < cLine) (hi : L2.PI X tg iter wi) (ok : BlkOk X.N X.env.scope scope own)
    (hg : ∀ (s : Shared) (H : Hp) (C : Addr) (cl : List (Str × Addr)) (fp : List Addr), PG (X.blk s H scope (compEnvC scope cl C X.env) fp) tg g) (ht : ∀ (s : Shared) (H : Hp) (C : Addr) (cl : List (Str × Addr)) (fp : List Addr), PTs (X.blk s H scope (compEnvC scope cl C X.env) fp) ifs tt)
    (hk : ∀ (s : Shared) (H : Hp) (C : Addr) (cl : List (Str × Addr)) (fp : List Addr), PE (X.blk s H scope (compEnvC scope cl C X.env) fp) kx tk) (he : ∀ (s : Shared) (H : Hp) (C : Addr) (cl : List (Str × Addr)) (fp : List Addr), PE (X.blk s H scope (compEnvC scope cl C X.env) fp) vx tv)
    (hs : ∀ x : Value, foldedSetIterable iter X.env x = pure x := by intro _; rfl) : PE X (.DictComp kx vx [{ target := tg, iter := iter, ifs := ifs, is_async := 0 }] scope pos) (tDcT wi g tt tk tv (own.map (·.2))) := by
  refine ⟨fun pins s σ H Q I h => ?_⟩
  rw [arm_eval_DictComp]
  have hfree := fun y hy e => (ok.free y hy e).elim (fun k => I.ok.has y.1 (Or.inl k)) fun k => I.ok.has y.1 (Or.inr k)
  refine wpAny_comprehension_free rfl hs (closure_ok hfree) ok.kind (fun y hy e => by rw [ok.uniq y hy, e]) (thn (hi.run pins s σ H _ I h) fun xv s1 hx => thn hx fun itv s2 h2 => ?_)
  obtain ⟨it, fp, tn, J, H2, rfl, I2, T, st2, f2, q⟩ := h2
  refine wpAny_newObj_type (newEnv_comp ?_) (by simp [sizeOk, sizeLine_eq])
  have hDn : H2 s2.heap.objs.size = none := HOk.fresh I2.hok (Nat.le_refl _)
  obtain ⟨W, ⟨m0, w0⟩, turn⟩ := q s2.heap.objs.size hDn
  let S3 : Shared := { heap := s2.heap.push { cls := Value.type "dict", data := Data.dict #[] }, gens := s2.gens, drawn := s2.drawn, toks := s2.toks, os := s2.os }
  have I3 : L2.Inv X pins σ (upd H2 s2.heap.objs.size (.dT [])) S3 := Inv.laid I2 (fun b o e => Heap.get?_push_of_some { cls := Value.type "dict", data := Data.dict #[] } e) (Nat.le_refl _) (dt_empty s2.heap (Inv.big I2))
  have sz : ∀ b, b ∈ fp → b < s2.heap.objs.size := fun b hb => by
    obtain ⟨o, e, _⟩ := T.obj 0 s2.heap st2 b hb
    exact Heap.lt_size e
  have f3 : ∀ b, b ∈ fp → FpOk X pins (upd H2 s2.heap.objs.size (.dT [])) b ∧ b < S3.heap.objs.size := fun b hb => by
    have hlt := sz b hb
    refine ⟨⟨by rw [upd_ne (Nat.ne_of_lt hlt)]; exact (f2 b hb).1, (f2 b hb).2⟩, ?_⟩
    show b < (s2.heap.push _).objs.size
    rw [Heap.size_push]
    exact Nat.lt_succ_of_lt hlt
  have st3 := T.keep 0 s2.heap S3.heap st2 fun b x o e => Heap.get?_push_of_some { cls := Value.type "dict", data := Data.dict #[] } e
  have I4 := block_start I3 ok hN f3
  have pg := hg S3 (upd H2 s2.heap.objs.size (.dT [])) S3.heap.objs.size (cellsFrom (S3.heap.objs.size + 1) scope.names (cloFrom X.env.cells scope.names [])) fp
  have pt := ht S3 (upd H2 s2.heap.objs.size (.dT [])) S3.heap.objs.size (cellsFrom (S3.heap.objs.size + 1) scope.names (cloFrom X.env.cells scope.names [])) fp
  have pk := hk S3 (upd H2 s2.heap.objs.size (.dT [])) S3.heap.objs.size (cellsFrom (S3.heap.objs.size + 1) scope.names (cloFrom X.env.cells scope.names [])) fp
  have pe := he S3 (upd H2 s2.heap.objs.size (.dT [])) S3.heap.objs.size (cellsFrom (S3.heap.objs.size + 1) scope.names (cloFrom X.env.cells scope.names [])) fp
  have nfp : ∀ b, b ∈ fp → (upd H2 s2.heap.objs.size (.dT [])) b = none := fun b hb => (f3 b hb).1.1
  have cL : (compEnvC scope (cellsFrom (S3.heap.objs.size + 1) scope.names (cloFrom X.env.cells scope.names [])) S3.heap.objs.size X.env).locals = S3.heap.objs.size := rfl
  have st4 := T.keep 0 S3.heap (pushCells (S3.heap.push { cls := Value.type "dict", data := Data.dict #[] }) scope.names) st3 fun b x o e => pushCells_keeps scope.names (S3.heap.push { cls := Value.type "dict", data := Data.dict #[] }) b o (Heap.get?_push_of_some { cls := Value.type "dict", data := Data.dict #[] } e)
  generalize hCE : compEnvC scope (cellsFrom (S3.heap.objs.size + 1) scope.names (cloFrom X.env.cells scope.names [])) S3.heap.objs.size X.env = CE at I4 pg pt pk pe cL
  have stat : ∀ {σ' : L2.St} {H' : Hp} {s' : Shared}, L2.Inv (X.blk S3 (upd H2 s2.heap.objs.size (.dT [])) scope CE fp) [] σ' H' s' → (∀ b, b ∈ fp → H' b = none) → ∀ b, b ∈ fp → FpOk (X.blk S3 (upd H2 s2.heap.objs.size (.dT [])) scope CE fp) [] H' b := fun {σ' H' s'} I' hn b hb => ⟨hn b hb, (I'.ok.exf b hb).1, I'.ok.exfs b hb, Or.inl hb, fun x c e => (I'.ok.exf b hb).2 x c e, fun p hp => absurd hp (by simp)⟩
  have loop := compLoop_anyD (prog := X.prog) (w := X.w) (A := X.A) (R := compPost (model X.prog X.w) X.A X.xe none (EP X pins σ Q) (Value.ref s2.heap.objs.size) S3.heap.objs.size) (kx := kx) (vx := vx) (target := tg) (iter := iter) (ifs := ifs) (scope := scope) (pos := pos) (it := Value.ref it) (D := s2.heap.objs.size) (env := CE)
    (fun n s' => ∃ i H', L2.Inv (X.blk S3 (upd H2 s2.heap.objs.size (.dT [])) scope CE fp) [] (wipe σ (own.map (·.2))) H' s' ∧ tn i s'.heap ∧ (∀ b, b ∈ fp → H' b = none) ∧ W i n H') (fun n s5 a => ?_) m0 ⟨0, _, I4, st4, nfp, w0⟩
  · have := codeAny_compStart_dict loop (T.self X.A 0 _ (fun it' s' => codeAny (model X.prog X.w) X.A (Code.compLoop (kx.DictComp vx [{ target := tg, iter := iter, ifs := ifs, is_async := 0 }] scope pos) 0 it' (Value.ref s2.heap.objs.size) CE) (compPost (model X.prog X.w) X.A X.xe none (EP X pins σ Q) (Value.ref s2.heap.objs.size) S3.heap.objs.size) s') (notedBy (model X.prog X.w) X.A CE fun x s' => compPost (model X.prog X.w) X.A X.xe none (EP X pins σ Q) (Value.ref s2.heap.objs.size) S3.heap.objs.size (Except.error x) s') st4 loop)
    rw [← hCE] at this
    exact this
  · obtain ⟨i, H5, I5, st5, n5, w5⟩ := a
    rcases turn i n H5 w5 with ⟨stop, qq⟩ | ⟨go, Nx, hNx, step⟩
    · have td := T.done (X.blk S3 (upd H2 s2.heap.objs.size (.dT [])) scope CE fp) rfl rfl rfl hc i [] s5 (wipe σ (own.map (·.2))) H5 (fun _ _ => False) I5 (stat I5 n5) st5 stop
      refine thnF td fun r s6 x => ?_
      obtain ⟨rfl, I6⟩ := x
      have I7 := Inv.call' I3 I6.os I6.base I6.hok I6.bare fun b hb => ⟨(f3 b hb).1.2.2.2.1, (f3 b hb).1.2.1, (f3 b hb).1.2.2.2.2.1, (f3 b hb).1.2.2.2.2.2⟩
      have nC : H5 S3.heap.objs.size = none := by
        have z := I6.free
        exact (congrArg (fun a => H5 a = none) cL).mp z
      obtain ⟨m, hn, _⟩ := I6.loc
      have hn' : s6.heap.Ns S3.heap.objs.size m := (congrArg (fun a => s6.heap.Ns a m) cL).mp hn
      obtain ⟨g0, g1, g2, g3, g4, g5⟩ := Inv.fpOk I3 (Nat.le_refl S3.heap.objs.size) nC
      refine ⟨m, hn', fun h'' sb => ⟨V.ref s2.heap.objs.size, H5, Inv.turned I7 (fun b o hb e => (sb.2 b hb).trans e) g0 g1 g3 g4 g5, rfl, qq⟩⟩
    · have ti := T.item (X.blk S3 (upd H2 s2.heap.objs.size (.dT [])) scope CE fp) rfl rfl rfl hc i [] s5 (wipe σ (own.map (·.2))) H5 (fun _ _ => False) I5 (stat I5 n5) st5 go
      refine thnF ti fun r s6 x => ?_
      obtain ⟨u, rfl, h6⟩ := x
      refine thnF h6 fun _ s7 x1 => ?_
      obtain ⟨x, H7, I7, r7, y7, st7, n7⟩ := x1
      have I7' := Inv.pinned I7 (stat I7 n7) (T.obj (i + 1) s7.heap st7)
      refine thnF (pg.run _ s7 _ H7 x u _ I7' r7 (step x H7 y7)) fun _ s8 x2 => ?_
      obtain ⟨σ8, H8, I8, hw8, q8⟩ := x2
      refine thnF (pt.run _ s8 σ8 H8 _ I8 q8) fun b s9 x3 => ?_
      obtain ⟨H9, I9, q9⟩ := x3
      have fin : ∀ {s' : Shared} {H' : Hp}, L2.Inv (X.blk S3 (upd H2 s2.heap.objs.size (.dT [])) scope CE fp) ([] ++ pinsAt fp s7.heap) σ8 H' s' → Nx H' → ∃ m, m < n ∧ ∃ i H', L2.Inv (X.blk S3 (upd H2 s2.heap.objs.size (.dT [])) scope CE fp) [] (wipe σ (own.map (·.2))) H' s' ∧ tn i s'.heap ∧ (∀ b, b ∈ fp → H' b = none) ∧ W i m H' := fun {s' H'} I' nx => by
        obtain ⟨m', hm, w'⟩ := hNx H' nx
        have pin' := fun b (hb : b ∈ fp) o (e : s7.heap.get? b = some o) => let z := I'.pin (b, o) (List.mem_append_right (X.blk S3 (upd H2 s2.heap.objs.size (.dT [])) scope CE fp).pn (List.mem_append_right [] (mem_pinsAt hb e))); And.intro z.1 z.2.1
        have hl : (wipe σ (own.map (·.2))).length = σ8.length := by rw [← hw8, wipe_length]
        refine ⟨m', hm, i + 1, H', Inv.weak (Inv.unpinned I') hl fun j v e => (wipe_some (by rw [hw8]; exact e)).1, T.keep (i + 1) s7.heap s'.heap st7 fun b hb o e => (pin' b hb o e).1, fun b hb => ?_, w'⟩
        obtain ⟨o, e, _⟩ := T.obj (i + 1) s7.heap st7 b hb
        exact (pin' b hb o e).2
      cases b with
      | false =>
        rw [if_neg Bool.false_ne_true] at q9 ⊢
        exact fin I9 q9
      | true =>
        rw [if_pos rfl] at q9 ⊢
        refine thnF (pk.run _ s9 σ8 H9 _ I9 q9) fun z s10 x4 => ?_
        obtain ⟨yk, H10, I10, r10, q10⟩ := x4
        refine thnF (pe.run _ s10 σ8 H10 _ I10 q10) fun z2 s11 x5 => ?_
        obtain ⟨yv, H11, I11, r11, kvs, k, a, rfl, eb, hD11, hz11, nx⟩ := x5
        cases r10
        exact d_dictSetT (X := X.blk S3 (upd H2 s2.heap.objs.size (.dT [])) scope CE fp) hu I11 hD11 hz11 eb r11 fun s12 I12 => fin I12 nx
end Pk
set_option Elab.async false
set_option linter.all false
set_option maxRecDepth 100000
set_option maxHeartbeats 4000000
/-! a dict comprehension with tuple keys over a walk; the copy of a dict; no row -/
namespace Pk
open PySem PySem.Spec PyProof.Rows L2
theorem dcT_it {J : L2.It} {n : Nat} {G : Hp → Prop} {Y : Nat → Hp → V → Hp → Prop} (w : Walk J n G Y) {g : TG} {tt : TT} {tk tv : TE} {vs : List Nat} {σ : L2.St} {H1 : Hp} {D : Addr} {Qd : Hp → Prop} (Pv : Nat → Hp → Prop) (h0 : Pv 0 (upd H1 D (.dT [])))
    (hG : ∀ i H, i ≤ n → Pv i H → G H)
    (hs : ∀ i x H H', i < n → Pv i H → Y i H x H' → g x (wipe σ vs) H' fun σ2 H2 => wipe σ2 vs = wipe σ vs ∧ tt σ2 H2 fun b H3 => if b = true then tk σ2 H3 fun y H4 => tv σ2 H4 fun z H5 => ∃ (kvs : List (List L2.Key × V)) (k : List L2.Key) (a : Addr), y = .ref a ∧ H5 a = some (.tup (k.map kV)) ∧ H5 D = some (.dT kvs) ∧ kvs.length < sizeLine ∧ Pv (i + 1) (upd H5 D (.dT (putK kvs k z))) else Pv (i + 1) H3)
    (hd : ∀ H, Pv n H → Qd H) :
    ∃ W : Nat → Nat → Hp → Prop, (∃ m, W 0 m (upd H1 D (.dT []))) ∧ ∀ (i m : Nat) (H : Hp), W i m H → J.stop i H ∧ Qd H ∨ J.go i H ∧ ∃ Nx : Hp → Prop, (∀ (H' : Hp), Nx H' → ∃ m', m' < m ∧ W (i + 1) m' H') ∧ ∀ (x : V) (H' : Hp), J.yld i H x H' →
      g x (wipe σ vs) H' fun σ2 H2 => wipe σ2 vs = wipe σ vs ∧ tt σ2 H2 fun b H3 => if b = true then tk σ2 H3 fun y H4 => tv σ2 H4 fun z H5 => ∃ kvs k a, y = .ref a ∧ H5 a = some (.tup (k.map kV)) ∧ H5 D = some (.dT kvs) ∧ kvs.length < sizeLine ∧ Nx (upd H5 D (.dT (putK kvs k z))) else Nx H3 := by
  refine ⟨fun i m H => i ≤ n ∧ m = n - i ∧ Pv i H, ⟨n, Nat.zero_le _, rfl, h0⟩, fun i m H ⟨hi, hm, hp⟩ => ?_⟩
  rcases Nat.lt_or_ge i n with h | h
  · exact .inr ⟨w.goes i H h (hG i H hi hp), Pv (i + 1), fun H' h' => ⟨n - (i + 1), by omega, by omega, rfl, h'⟩, fun x H' hy => hs i x H H' h hp (w.yields i H x H' h (hG i H hi hp) hy)⟩
  · obtain rfl : i = n := by omega
    exact .inl ⟨w.stops H (hG i H hi hp), hd H hp⟩
/-- b has the keys of the first i entries of a, with a's values -/
def CpK (a b : List (List L2.Key × V)) (i : Nat) : Prop := b.length ≤ i ∧ ∀ k, (k ∈ (a.take i).map Prod.fst → valV b k = valV a k) ∧ (k ∉ (a.take i).map Prod.fst → valV b k = none)
theorem CpK.nil (a : List (List L2.Key × V)) : CpK a [] 0 := ⟨Nat.le_refl _, fun k => ⟨fun h => absurd h List.not_mem_nil, fun _ => rfl⟩⟩
theorem CpK.step {a b : List (List L2.Key × V)} {i : Nat} (h : CpK a b i) {k : List L2.Key} {v z : V} (e : a[i]? = some (k, v)) (ez : valV a k = some z) : CpK a (putK b k z) (i + 1) := by
  have hm : (a.take (i + 1)).map Prod.fst = (a.take i).map Prod.fst ++ [k] := by
    rw [List.take_add_one, e, List.map_append]
    rfl
  refine ⟨Nat.le_trans (length_putK _ _ _) (Nat.succ_le_succ h.1), fun j => ?_⟩
  rw [valV_put, hm]
  by_cases c : j = k
  · subst c
    rw [if_pos rfl]
    exact ⟨fun _ => ez.symm, fun n => absurd (List.mem_append_right _ List.mem_cons_self) n⟩
  · rw [if_neg c]
    refine ⟨fun m => (h.2 j).1 ?_, fun n => (h.2 j).2 fun m => n (List.mem_append_left _ m)⟩
    rcases List.mem_append.mp m with m | m
    · exact m
    · exact absurd (List.mem_singleton.mp m) c
theorem valV_mem {a : List (List L2.Key × V)} {k : List L2.Key} (h : valV a k ≠ none) : k ∈ a.map Prod.fst := by
  induction a with
  | nil => exact absurd rfl h
  | cons p r ih =>
    by_cases c : p.1 = k
    · rw [← c]; exact List.mem_cons_self
    · rw [valV_neg c] at h
      exact List.mem_cons_of_mem _ (ih h)
theorem valV_some {a : List (List L2.Key × V)} {i : Nat} {k : List L2.Key} {v : V} (e : a[i]? = some (k, v)) : ∃ z, valV a k = some z := by
  have hm : k ∈ a.map Prod.fst := List.mem_map.mpr ⟨_, List.mem_of_getElem? e, rfl⟩
  clear e
  induction a with
  | nil => cases hm
  | cons p r ih =>
    by_cases c : p.1 = k
    · exact ⟨_, valV_pos c⟩
    · rw [valV_neg c]
      refine ih ?_
      rcases List.mem_cons.mp hm with h | h
      · exact absurd h.symm c
      · exact h
theorem CpK.all {a b : List (List L2.Key × V)} (h : CpK a b a.length) : ∀ k, valV b k = valV a k := fun k => by
  have hk := h.2 k
  rw [List.take_length] at hk
  by_cases c : k ∈ a.map Prod.fst
  · exact hk.1 c
  · rw [hk.2 c]
    cases e : valV a k with
    | none => rfl
    | some z => exact absurd (valV_mem (by rw [e]; exact fun z => nomatch z)) c
end Pk
set_option Elab.async false
set_option linter.all false
set_option maxRecDepth 100000
set_option maxHeartbeats 4000000
/-! k24: class Ledger -/
namespace Pk
open PySem PySem.Spec PyProof.Rows L2 SX GxR Tk
abbrev sLIn : Stmt := inClass (topS 1) 0
abbrev NLIn : List Str := ["self"]
theorem scLIn : FnScope NLIn ["self"] (defScope sLIn) := ⟨rfl, rfl, rfl, by decide +kernel, rfl, by decide +kernel, by decide +kernel⟩
abbrev sLCo : Stmt := inClass (topS 1) 1
abbrev NLCo : List Str := ["self", "version", "counts", "table", "index", "many", "key"]
theorem scLCo : FnScope NLCo ["self", "version", "counts"] (defScope sLCo) := ⟨rfl, rfl, rfl, by decide +kernel, rfl, by decide +kernel, by decide +kernel⟩
/-- what stands for a key; 0 for none -/
def tI (ks : List (List L2.Key × Int)) (k : List L2.Key) : Int := ((ks.find? fun e => decide (e.1 = k)).map (·.2)).getD 0
/-- n more for a key -/
def adI (ks : List (List L2.Key × Int)) (e : List L2.Key × Int) : List (List L2.Key × Int) :=
  if (ks.any fun kv => decide (kv.1 = e.1)) = true then ks.map (fun kv => if kv.1 = e.1 then (kv.1, tI ks e.1 + e.2) else kv) else ks ++ [(e.1, tI ks e.1 + e.2)]
theorem val_kvI (ks : List (List L2.Key × Int)) (k : List L2.Key) : (valV (kvI ks) k).getD (.int 0) = .int (tI ks k) := by
  induction ks with
  | nil => rfl
  | cons p r ih =>
    by_cases c : p.1 = k
    · rw [show valV (kvI (p :: r)) k = some (V.int p.2) from valV_pos (p := (p.1, V.int p.2)) c]
      simp [tI, c]
    · rw [show valV (kvI (p :: r)) k = valV (kvI r) k from valV_neg (p := (p.1, V.int p.2)) c, ih]
      simp [tI, c]
theorem put_kvI (ks : List (List L2.Key × Int)) (e : List L2.Key × Int) : putK (kvI ks) e.1 (.int (tI ks e.1 + e.2)) = kvI (adI ks e) := by
  unfold putK adI
  have h : ((kvI ks).any fun kv => decide (kv.1 = e.1)) = ks.any fun kv => decide (kv.1 = e.1) := by
    unfold kvI
    rw [List.any_map]
    rfl
  rw [h]
  generalize tI ks e.1 + e.2 = n
  by_cases c : (ks.any fun kv => decide (kv.1 = e.1)) = true
  · rw [if_pos c, if_pos c]
    unfold kvI
    rw [List.map_map, List.map_map]
    refine List.map_congr_left fun p _ => ?_
    show (if p.1 = e.1 then (p.1, V.int n) else (p.1, V.int p.2)) = ((if p.1 = e.1 then (p.1, n) else p).1, V.int (if p.1 = e.1 then (p.1, n) else p).2)
    by_cases c2 : p.1 = e.1
    · rw [if_pos c2, if_pos c2]
    · rw [if_neg c2, if_neg c2]
  · rw [if_neg c, if_neg c]
    unfold kvI
    rw [List.map_append]
    rfl
theorem adI_len (ks : List (List L2.Key × Int)) (e : List L2.Key × Int) : (adI ks e).length ≤ ks.length + 1 := by
  unfold adI
  split
  · rw [List.length_map]; omega
  · rw [List.length_append]; exact Nat.le_refl _
theorem adIs_len (es : List (List L2.Key × Int)) : ∀ ks : List (List L2.Key × Int), (es.foldl adI ks).length ≤ ks.length + es.length := by
  induction es with
  | nil => intro ks; exact Nat.le_refl _
  | cons e r ih =>
    intro ks
    have h1 := ih (adI ks e)
    have h2 := adI_len ks e
    show (r.foldl adI (adI ks e)).length ≤ ks.length + (r.length + 1)
    omega
/-- counts: by pairs -/
def ck (cs : List ((Int × Int) × Int)) : List (List L2.Key × Int) := cs.map fun e => ([.inl e.1.1, .inl e.1.2], e.2)
/-- the same with a version -/
def vk (v : Int) (cs : List ((Int × Int) × Int)) : List (List L2.Key × Int) := cs.map fun e => ([.inl v, .inl e.1.1, .inl e.1.2], e.2)
section
variable {P : Program} {w : World} {K : PySem.W.Frag} {mg : Str → Option Value} {base : Heap} {C : Addr}
structure LeC (K : PySem.W.Frag) (C : Addr) : Prop where
  cl : Cls K C
  n1 : NoAttr K C "sums"
def spLIn (C : Addr) : Sp := fun vs H Q _ => ∃ (a dx : Addr), vs = [.ref a] ∧ H a = some (.ins C dx []) ∧
  ∀ (H' : Hp) (d : Addr), (∀ b o, b ≠ a → H b = some o → H' b = some o) → H d = none → H' a = some (.ins C dx [("sums", .ref d)]) → H' d = some (.dT []) → Q .non H'
theorem ok_LIn {f : Addr} {fd : FuncData} {k : Nat} (F : Fun K "__init__" "Ledger.__init__" sLIn f fd) (R : LeC K C)  : FnOk P w K mg base CX0 (k+1) f fd ["self"] (spLIn C) := by
  refine F.ok scLIn (fun vs H Q E h => ?_) (fun cdv A outer s0 H vs Q E hr h => ?_)
  · obtain ⟨a, dx, rfl, _⟩ := h
    rfl
  · obtain ⟨a, dx, rfl, ha, q⟩ := h
    have nd := scLIn.nd
    refine ⟨_, (pss_one (ps_fld (pv 0) (pe_dnewT) rfl)), ?_⟩
    refine fun d hd => ?_
    have ne : d ≠ a := fun z => by
      rw [z, ha] at hd
      cases hd
    refine ⟨_, rfl, a, C, dx, _, rfl, (by rw [upd_ne (Ne.symm ne)]; exact ha), R.cl, R.n1, by decide, ?_⟩
    refine q _ d (fun b o n e => ?_) hd upd_same ?_
    · rw [upd_ne n, upd_ne (ne_of_none e hd)]
      exact e
    · rw [upd_ne ne]
      exact upd_same
def spLCo (K : PySem.W.Frag) (C : Addr) : Sp := fun vs H Q _ => ∃ (a dx d c : Addr) (v : Int) (ks : List (List L2.Key × Int)) (cs : List ((Int × Int) × Int)), vs = [.ref a, .int v, .ref c] ∧ H a = some (.ins C dx [("sums", .ref d)]) ∧ H d = some (.dT (kvI ks)) ∧ H c = some (.dT (kvI (ck cs))) ∧ d ≠ c ∧ ks.length + cs.length < 1000 ∧
  ∀ (H' : Hp), (∀ b o, b ≠ d → H b = some o → H' b = some o) → H' d = some (.dT (kvI ((vk v cs).foldl adI ks))) → Q .non H'
theorem ok_LCo {f : Addr} {fd : FuncData} {k : Nat} (F : Fun K "collect" "Ledger.collect" sLCo f fd) (R : LeC K C)  : FnOk P w K mg base CX0 (k+1) f fd ["self", "version", "counts"] (spLCo K C) := by
  refine F.ok scLCo (fun vs H Q E h => ?_) (fun cdv A outer s0 H vs Q E hr h => ?_)
  · obtain ⟨a, dx, d, c, v, ks, cs, rfl, _⟩ := h
    rfl
  · obtain ⟨a, dx, d, c, v, ks, cs, rfl, ha, hd, hc, hdc, hl, q⟩ := h
    have nd := scLCo.nd
    refine ⟨_, (pss_one (ps_lock (ps_for PassesOwn.never rfl (pi_itemsT (pv 2)) (pg_tup (by rfl) (pgs_cons (pg_tup (by rfl) (pgs_cons (pg_name (i := 3) nd rfl (.inl rfl)) (pgs_cons (pg_name (i := 4) nd rfl (.inl rfl)) pgs_nil))) (pgs_cons (pg_name (i := 5) nd rfl (.inl rfl)) pgs_nil)))
        (pss_cons (ps_set (i := 6) nd rfl (.inl rfl) (pe_tup (pa_cons (pv 1) (pa_cons (pv 3) (pa_cons (pv 4) pa_nil)))))
        (pss_one (ps_asg (pe_op op_add (pe_dget2 (hu_of hr) (pe_fld (pv 0) rfl) (pv 6) pe_int ⟨rfl, rfl, rfl, rfl⟩) (pv 5)) (pg_sub (pe_fld (pv 0) rfl) (pv 6) (set_dict (hu_of hr))))))))), ?_⟩
    have hac : a ≠ c := fun z => by
      rw [z, hc] at ha
      cases ha
    have had : a ≠ d := fun z => by
      rw [z, hd] at ha
      cases ha
    refine ⟨c, .dT (kvI (ck cs)), hc, trivial, fun od => ?_⟩
    have k1 : ∀ b o, b ≠ c → H b = some o → (upd H c (.frz od (.dT (kvI (ck cs))))) b = some o := fun b o n e => by
      rw [upd_ne n]
      exact e
    have hc1 : (upd H c (.frz od (.dT (kvI (ck cs))))) c = some (.frz od (.dT (kvI (ck cs)))) := upd_same
    generalize upd H c (.frz od (.dT (kvI (ck cs)))) = H1 at k1 hc1 ⊢
    have ha1 := k1 _ _ hac ha
    have hd1 := k1 _ _ hdc hd
    refine ⟨_, rfl, c, od, kvI (ck cs), rfl, hc1, for_it (walk_itemsT (d := c) (o := od) (kvs := kvI (ck cs))) (fun i σ H2 => (∃ x3 x4 x5 x6, σ = [some (.ref a), some (.int v), some (.ref c), x3, x4, x5, x6]) ∧ (∀ b o, b ≠ d → H1 b = some o → H2 b = some o) ∧ H2 d = some (.dT (kvI (((vk v cs).take i).foldl adI ks)))) ⟨⟨_, _, _, _, rfl⟩, fun _ _ _ e => e, hd1⟩ (fun i σ H2 _ h => h.2.1 _ _ (Ne.symm hdc) hc1) ?_ ?_⟩
    · rintro i x σ H2 H3 hi ⟨⟨x3, x4, x5, x6, rfl⟩, s2, e2⟩ ⟨T, kk, y, q2, ek, rfl, nT, eq, rfl⟩
      obtain ⟨e, he, rfl, rfl⟩ : ∃ e, cs[i]? = some e ∧ kk = [.inl e.1.1, .inl e.1.2] ∧ y = V.int e.2 := by
        unfold kvI ck at ek
        rw [List.map_map, List.getElem?_map] at ek
        obtain ⟨e, h1, h2⟩ := Option.map_eq_some_iff.mp ek
        cases h2
        exact ⟨e, h1, rfl, rfl⟩
      have s3 := same_new (o := .tup [.ref q2, .int e.2]) nT
      have eT : (upd H2 T (.tup [.ref q2, .int e.2])) T = some (.tup [.ref q2, .int e.2]) := upd_same
      generalize upd H2 T (.tup [.ref q2, .int e.2]) = H3 at s3 eT ⊢
      refine ⟨T, _, rfl, .inl (.inl eT), rfl, _, _, rfl, q2, _, rfl, .inl (.inl (s3 _ _ eq)), rfl, _, _, rfl, _, _, rfl, rfl, _, _, rfl, rfl, ?_⟩
      refine ⟨_, rfl, _, rfl, _, rfl, (by show 3 ≤ sizeLine; decide), fun T2 nT2 => ?_⟩
      have s4 := same_new (o := .tup [.int v, kV (.inl e.1.1), kV (.inl e.1.2)]) nT2
      have eT2 : (upd H3 T2 (.tup [.int v, kV (.inl e.1.1), kV (.inl e.1.2)])) T2 = some (.tup [.int v, .int e.1.1, .int e.1.2]) := upd_same
      generalize upd H3 T2 (.tup [.int v, kV (.inl e.1.1), kV (.inl e.1.2)]) = H4 at s4 eT2 ⊢
      have ed := s4 _ _ (s3 _ _ e2)
      have ea := s4 _ _ (s3 _ _ (s2 _ _ had ha1))
      have eT3 : H4 T2 = some (.tup (([.inl v, .inl e.1.1, .inl e.1.2] : List L2.Key).map kV)) := eT2
      have hlen : (((vk v cs).take i).foldl adI ks).length < 1000 := by
        have h1 := adIs_len ((vk v cs).take i) ks
        have h2 : (vk v cs).length = cs.length := by simp [vk]
        rw [List.length_take, h2] at h1
        rw [kvI, List.length_map, ck, List.length_map] at hi
        omega
      have hk : ((vk v cs).take (i + 1)).foldl adI ks = adI (((vk v cs).take i).foldl adI ks) ([.inl v, .inl e.1.1, .inl e.1.2], e.2) := by
        have h1 : (vk v cs)[i]? = some ([.inl v, .inl e.1.1, .inl e.1.2], e.2) := by
          rw [vk, List.getElem?_map, he]
          rfl
        rw [List.take_add_one, h1]
        show List.foldl adI ks ((vk v cs).take i ++ [_]) = _
        rw [List.foldl_append]
        rfl
      generalize ((vk v cs).take i).foldl adI ks = kz at ed hlen hk
      refine ⟨_, rfl, a, C, dx, _, _, rfl, ea, R.cl, R.n1, rfl, d, rfl, ?_⟩
      refine ⟨.inr ⟨_, .inl ed⟩, _, rfl, _, DGet.t ed eT3, _, rfl, tI kz [.inl v, .inl e.1.1, .inl e.1.2], e.2, val_kvI _ _, rfl, ?_⟩
      refine ⟨_, rfl, a, C, dx, _, _, rfl, ea, R.cl, R.n1, rfl, _, rfl, d, _, rfl, DPut.t (k := [.inl v, .inl e.1.1, .inl e.1.2]) ed eT3 (small1000 (by rw [kvI, List.length_map]; omega)), ⟨_, _, _, _, rfl⟩, fun b o n eb => ?_, ?_⟩
      · rw [upd_ne n]
        exact s4 _ _ (s3 _ _ (s2 _ _ n eb))
      · rw [upd_same, hk, ← put_kvI]
    · rintro σ H2 ⟨_, s2, e2⟩
      have lk : (kvI (ck cs)).length = (vk v cs).length := by simp [kvI, ck, vk]
      rw [lk, List.take_length] at e2
      refine ⟨s2 _ _ (Ne.symm hdc) hc1, q _ (fun b o n e => ?_) (by rw [upd_ne hdc]; exact e2)⟩
      by_cases z : b = c
      · subst z
        rw [hc] at e
        rw [upd_same]
        exact e
      · rw [upd_ne z]
        exact s2 _ _ n (k1 _ _ z e)
end
end Pk
set_option Elab.async false
set_option linter.all false
set_option maxRecDepth 100000
set_option maxHeartbeats 4000000
/-! k24: _law_counts -/
namespace Pk
open PySem PySem.Spec PyProof.Rows L2 SX GxR Tk
abbrev sLCn : Stmt := topS 6
abbrev NLCn : List Str := ["state", "counts", "k"]
theorem scLCn : FnScope NLCn ["state"] (defScope sLCn) := ⟨rfl, rfl, rfl, by decide +kernel, rfl, by decide +kernel, by decide +kernel⟩
/-- a value for a key -/
def stI (ks : List ((Int × Int) × Int)) (e : (Int × Int) × Int) : List ((Int × Int) × Int) :=
  if (ks.any fun kv => decide (kv.1 = e.1)) = true then ks.map (fun kv => if kv.1 = e.1 then (kv.1, e.2) else kv) else ks ++ [e]
theorem put_ck (cs : List ((Int × Int) × Int)) (e : (Int × Int) × Int) : putK (kvI (ck cs)) [.inl e.1.1, .inl e.1.2] (.int e.2) = kvI (ck (stI cs e)) := by
  have key : ∀ p : Int × Int, (([.inl p.1, .inl p.2] : List L2.Key) = [.inl e.1.1, .inl e.1.2]) = (p = e.1) := fun p => by
    refine propext ⟨fun h => ?_, fun h => by rw [h]⟩
    injection h with h1 h2
    injection h2 with h2 _
    exact Prod.ext (Sum.inl.inj h1) (Sum.inl.inj h2)
  unfold putK stI kvI ck
  rw [List.map_map, List.any_map]
  have hA : (cs.any ((fun kv : List L2.Key × V => decide (kv.1 = [.inl e.1.1, .inl e.1.2])) ∘ ((fun p : List L2.Key × Int => (p.1, V.int p.2)) ∘ fun e : (Int × Int) × Int => (([.inl e.1.1, .inl e.1.2] : List L2.Key), e.2)))) = cs.any fun kv => decide (kv.1 = e.1) := by
    congr 1
    funext x
    show decide (([.inl x.1.1, .inl x.1.2] : List L2.Key) = [.inl e.1.1, .inl e.1.2]) = decide (x.1 = e.1)
    simp only [key]
  rw [hA]
  by_cases c : (cs.any fun kv => decide (kv.1 = e.1)) = true
  · rw [if_pos c, if_pos c, List.map_map, List.map_map, List.map_map]
    refine List.map_congr_left fun x _ => ?_
    show (if ([.inl x.1.1, .inl x.1.2] : List L2.Key) = [.inl e.1.1, .inl e.1.2] then (([.inl x.1.1, .inl x.1.2] : List L2.Key), V.int e.2) else ([.inl x.1.1, .inl x.1.2], V.int x.2)) = _
    simp only [key, Function.comp]
    by_cases c2 : x.1 = e.1
    · rw [if_pos c2, if_pos c2]
    · rw [if_neg c2, if_neg c2]
  · rw [if_neg c, if_neg c, List.map_append, List.map_append, List.map_map]
    rfl
theorem stI_len (cs : List ((Int × Int) × Int)) (e : (Int × Int) × Int) : (stI cs e).length ≤ cs.length + 1 := by
  unfold stI
  split
  · rw [List.length_map]; omega
  · rw [List.length_append]; exact Nat.le_refl _
/-- counts as they are drawn -/
def CtB (cs : List ((Int × Int) × Int)) : Prop := (cs.map Prod.fst).Nodup ∧ ∀ e ∈ cs, 0 ≤ e.1.1 ∧ e.1.1 < 3 ∧ -1 ≤ e.1.2 ∧ e.1.2 < 4 ∧ 1 ≤ e.2 ∧ e.2 ≤ 9
theorem CtB.put {cs : List ((Int × Int) × Int)} (h : CtB cs) {e : (Int × Int) × Int} (he : 0 ≤ e.1.1 ∧ e.1.1 < 3 ∧ -1 ≤ e.1.2 ∧ e.1.2 < 4 ∧ 1 ≤ e.2 ∧ e.2 ≤ 9) : CtB (stI cs e) := by
  unfold stI
  by_cases c : (cs.any fun kv => decide (kv.1 = e.1)) = true
  · rw [if_pos c]
    refine ⟨?_, fun x hx => ?_⟩
    · rw [List.map_map]
      have : (Prod.fst ∘ fun kv : (Int × Int) × Int => if kv.1 = e.1 then (kv.1, e.2) else kv) = Prod.fst := by
        funext x
        show (if x.1 = e.1 then (x.1, e.2) else x).1 = x.1
        split <;> rfl
      rw [this]
      exact h.1
    · obtain ⟨y, hy, rfl⟩ := List.mem_map.mp hx
      have hb := h.2 y hy
      split
      · exact ⟨hb.1, hb.2.1, hb.2.2.1, hb.2.2.2.1, he.2.2.2.2⟩
      · exact hb
  · rw [if_neg c]
    refine ⟨?_, fun x hx => ?_⟩
    · rw [List.map_append, List.nodup_append]
      refine ⟨h.1, by simp, fun a ha b hb z => ?_⟩
      obtain ⟨y, hy, rfl⟩ := List.mem_map.mp ha
      have hb : b = e.1 := by simpa using hb
      exact c (List.any_eq_true.mpr ⟨y, hy, by simp [z, hb]⟩)
    · rcases List.mem_append.mp hx with hx | hx
      · exact h.2 x hx
      · rw [List.mem_singleton.mp hx]
        exact he
section
variable {P : Program} {w : World} {K : PySem.W.Frag} {mg : Str → Option Value} {base : Heap} {C : Addr}
def spLCn : Sp := fun vs H Q _ => ∃ (s c : Addr), vs = [.ref s] ∧ StAt H s c ∧
  ∀ (H' : Hp) (q : Addr) (cs : List ((Int × Int) × Int)), StAt H' s c → Kp s c H H' → H q = none → H' q = some (.dT (kvI (ck cs))) → cs.length ≤ 4 → CtB cs → Q (.ref q) H'
theorem ok_LCn {f : Addr} {fd : FuncData} (F : Fun K "_law_counts" "_law_counts" sLCn f fd) (T : Blt mg) (zRange : mg "range" = none) (D1 : Df P w K mg base CX0 1 "_law_draw" ["state", "many"] spDraw) : FnOk P w K mg base CX0 2 f fd ["state"] spLCn := by
  obtain ⟨f1, fd1, G1, g1, k1, b1⟩ := D1.ex
  refine F.ok scLCn (fun vs H Q E h => ?_) (fun cdv A outer s0 H vs Q E hr h => ?_)
  · obtain ⟨s, c, rfl, _⟩ := h
    rfl
  · obtain ⟨s, c, rfl, hS, q⟩ := h
    have nd := scLCn.nd
    refine ⟨_, (pss_cons (ps_set (i := 1) nd rfl (.inl rfl) (pe_dnewT))
      (pss_cons (ps_for PassesOwn.never rfl (pi_range1 (by rfl) zRange (pa_cons (pe_call G1 (hr.mono (by omega)) (by rfl) g1 k1 b1 .nil pass0 (pa_cons (pv 0) (pa_cons pe_int pa_nil))) pa_nil)) (pg_name (i := 2) nd rfl (.inl rfl))
        (pss_one (ps_asg (pe_op op_add pe_int (pe_call G1 (hr.mono (by omega)) (by rfl) g1 k1 b1 .nil pass0 (pa_cons (pv 0) (pa_cons pe_int pa_nil)))) (pg_sub (pv 1) (pe_tup (pa_cons (pe_call G1 (hr.mono (by omega)) (by rfl) g1 k1 b1 .nil pass0 (pa_cons (pv 0) (pa_cons pe_int pa_nil))) (pa_cons (pe_op op_sub (pe_call G1 (hr.mono (by omega)) (by rfl) g1 k1 b1 .nil pass0 (pa_cons (pv 0) (pa_cons pe_int pa_nil))) pe_int) pa_nil))) (set_dict (hu_of hr))))))
      (pss_one (ps_ret (pv 1))))), ?_⟩
    refine fun d hd => ?_
    have nd1 : d ≠ s ∧ d ≠ c := by
      obtain ⟨cells, seed, h1, h2, _⟩ := id hS
      exact ⟨Ne.symm (ne_of_none h1 hd), Ne.symm (ne_of_none h2 hd)⟩
    refine ⟨_, rfl, s, c, 5, rfl, hS.new hd, by decide, by decide, fun H1 r r0 r1 st1 kp1 => ⟨r, rfl, by omega, by omega, ?_⟩⟩
    have e1 : H1 d = some (.dT []) := kp1 _ _ nd1.1 nd1.2 upd_same
    have kp0 : ∀ b o, b ≠ s → b ≠ c → b ≠ d → H b = some o → H1 b = some o := fun b o h1 h2 h3 e => kp1 _ _ h1 h2 (by rw [upd_ne h3]; exact e)
    refine for_range (lo := 0) (n := r.toNat) (fun i σ H' => ∃ (x : Option V) (cs : List ((Int × Int) × Int)), σ = [some (.ref s), some (.ref d), x] ∧ StAt H' s c ∧ (∀ b o, b ≠ s → b ≠ c → b ≠ d → H b = some o → H' b = some o) ∧ H' d = some (.dT (kvI (ck cs))) ∧ cs.length ≤ i ∧ CtB cs) ⟨none, [], rfl, st1, kp0, e1, Nat.le_refl _, List.nodup_nil, fun _ h => nomatch h⟩ ?_ ?_
    · rintro i σ H2 hi ⟨x, cs, rfl, st2, k2, e2, hl, hb⟩
      refine ⟨.ref s, rfl, s, c, 9, rfl, st2, by decide, by decide, fun H3 n n0 n1 st3 kp3 => ⟨1, n, rfl, rfl, ?_⟩⟩
      refine ⟨_, rfl, _, rfl, s, c, 3, rfl, st3, by decide, by decide, fun H4 t t0 t1 st4 kp4 => ?_⟩
      refine ⟨_, rfl, s, c, 5, rfl, st4, by decide, by decide, fun H5 j j0 j1 st5 kp5 => ⟨j, 1, rfl, rfl, ?_⟩⟩
      refine ⟨by show 2 ≤ sizeLine; decide, fun p hp => ?_⟩
      have kk := (kp3.trans kp4).trans kp5
      have e5 := kk _ _ nd1.1 nd1.2 e2
      have e6 : (upd H5 p (.tup [.int t, .int (j - 1)])) d = some (.dT (kvI (ck cs))) := same_new hp _ _ e5
      have eT : (upd H5 p (.tup [.int t, .int (j - 1)])) p = some (.tup (([.inl t, .inl (j - 1)] : List L2.Key).map kV)) := upd_same
      have st6 := st5.new (o := .tup [.int t, .int (j - 1)]) hp
      have s6 := same_new (o := .tup [.int t, .int (j - 1)]) hp
      generalize upd H5 p (.tup [.int t, .int (j - 1)]) = H6 at e6 eT st6 s6 ⊢
      refine ⟨d, _, rfl, DPut.t (k := [.inl t, .inl (j - 1)]) e6 eT (small1000 (by rw [kvI, ck, List.length_map, List.length_map]; omega)), ?_⟩
      refine ⟨_, stI cs ((t, j - 1), 1 + n), rfl, st6.upd nd1.1 nd1.2, fun b o h1 h2 h3 eb => ?_, ?_, Nat.le_trans (stI_len _ _) (Nat.succ_le_succ hl), hb.put ⟨t0, t1, ?_, ?_, ?_, ?_⟩⟩
      · rw [upd_ne h3]
        exact s6 _ _ (kk _ _ h1 h2 (k2 _ _ h1 h2 h3 eb))
      · rw [upd_same]
        exact congrArg (fun z => some (HO.dT z)) (put_ck cs ((t, j - 1), 1 + n))
      all_goals (dsimp only; omega)
    · rintro σ H2 ⟨x, cs, rfl, st2, k2, e2, hl, hb⟩
      exact ⟨_, rfl, q H2 d cs st2 (fun b o h1 h2 eb => k2 b o h1 h2 (ne_of_none eb hd) eb) hd e2 (by omega) hb⟩
end
end Pk
set_option Elab.async false
set_option linter.all false
set_option maxRecDepth 100000
set_option maxHeartbeats 4000000
/-! dicts with tuple keys and ints, as lists of entries with different keys; no row -/
namespace Pk
open PySem PySem.Spec PyProof.Rows L2
def NdK (ks : List (List L2.Key × Int)) : Prop := (ks.map Prod.fst).Nodup
theorem NdK.inj {ks : List (List L2.Key × Int)} (h : NdK ks) {i j : Nat} {x y : List L2.Key × Int} (hi : ks[i]? = some x) (hj : ks[j]? = some y) (e : x.1 = y.1) : i = j := by
  have li : i < (ks.map Prod.fst).length := by rw [List.length_map]; exact (List.getElem?_eq_some_iff.mp hi).1
  refine (List.getElem?_inj li h).mp ?_
  rw [List.getElem?_map, List.getElem?_map, hi, hj]
  exact congrArg some e
/-- the entry's value by its key -/
theorem val_nd : ∀ {ks : List (List L2.Key × Int)}, NdK ks → ∀ {e : List L2.Key × Int}, e ∈ ks → valV (kvI ks) e.1 = some (V.int e.2)
  | [], _, _, he => nomatch he
  | p :: r, h, e, he => by
    have h2 : p.1 ∉ r.map Prod.fst ∧ (r.map Prod.fst).Nodup := List.nodup_cons.mp h
    rcases List.mem_cons.mp he with rfl | he
    · exact valV_pos (p := (e.1, V.int e.2)) rfl
    · have ne : ¬ p.1 = e.1 := fun z => h2.1 (z ▸ List.mem_map.mpr ⟨e, he, rfl⟩)
      exact (valV_neg (p := (p.1, V.int p.2)) ne).trans (val_nd h2.2 he)
/-- an entry with a new key -/
theorem put_new {ks : List (List L2.Key × Int)} {e : List L2.Key × Int} (h : e.1 ∉ ks.map Prod.fst) : putK (kvI ks) e.1 (.int e.2) = kvI (ks ++ [e]) := by
  have no : ¬ ((kvI ks).any fun kv => decide (kv.1 = e.1)) = true := fun z => by
    obtain ⟨x, hx, hk⟩ := List.any_eq_true.mp z
    obtain ⟨y, hy, rfl⟩ := List.mem_map.mp hx
    have hk : y.1 = e.1 := of_decide_eq_true hk
    exact h (hk ▸ List.mem_map.mpr ⟨y, hy, rfl⟩)
  unfold putK
  rw [if_neg no]
  unfold kvI
  rw [List.map_append]
  rfl
/-- a copy, entry by entry -/
theorem copy_step {ks : List (List L2.Key × Int)} (h : NdK ks) {i : Nat} {e : List L2.Key × Int} (he : ks[i]? = some e) : putK (kvI (ks.take i)) e.1 (.int e.2) = kvI (ks.take (i + 1)) := by
  rw [put_new, List.take_add_one, he]
  · rfl
  · intro z
    obtain ⟨y, hy, hk⟩ := List.mem_map.mp z
    obtain ⟨j, hj⟩ := List.mem_iff_getElem?.mp hy
    rw [List.getElem?_take] at hj
    split at hj
    · have := h.inj hj he hk
      omega
    · cases hj
/-- keys of three ints -/
def K3 (ks : List (List L2.Key × Int)) : Prop := ∀ e ∈ ks, ∃ a b c : Int, e.1 = [.inl a, .inl b, .inl c]
theorem K3.at {ks : List (List L2.Key × Int)} (h : K3 ks) {d : PyData} (hd : d ∈ (kvI ks).map fun p => keyD p.1) : ∃ a b c : Int, d = .tuple [.int a, .int b, .int c] := by
  obtain ⟨x, hx, rfl⟩ := List.mem_map.mp hd
  obtain ⟨y, hy, rfl⟩ := List.mem_map.mp hx
  obtain ⟨a, b, c, e⟩ := h y hy
  exact ⟨a, b, c, by show keyD y.1 = _; rw [e]; rfl⟩
theorem K3.alike {ks : List (List L2.Key × Int)} (h : K3 ks) : PySem.W.AllAlike ((kvI ks).map fun p => keyD p.1) := fun d hd d' hd' => by
  obtain ⟨a, b, c, rfl⟩ := h.at hd
  obtain ⟨a', b', c', rfl⟩ := h.at hd'
  simp [PySem.W.alike, PySem.W.alikeAll]
theorem K3.sortable {ks : List (List L2.Key × Int)} (h : K3 ks) : PySem.W.Sortable ((kvI ks).map fun p => keyD p.1) := .inl fun d hd => by
  obtain ⟨a, b, c, rfl⟩ := h.at hd
  exact ⟨_, _, rfl⟩
theorem K3.depth {ks : List (List L2.Key × Int)} (h : K3 ks) : ∀ p ∈ kvI ks, (keyD p.1).depth ≤ 60 := fun p hp => by
  obtain ⟨a, b, c, e⟩ := h.at (List.mem_map.mpr ⟨p, hp, rfl⟩)
  rw [e]
  simp [PyData.depth, PyData.depthAll]
theorem zip_of {α β : Type} {R : α → β → Prop} : ∀ {xs : List α} {bs : List β}, Paired R xs bs → ∃ Z : List (α × β), Z.map Prod.fst = xs ∧ Z.map Prod.snd = bs ∧ ∀ z ∈ Z, R z.1 z.2
  | _, _, .nil => ⟨[], rfl, rfl, fun _ h => nomatch h⟩
  | _, _, .cons (a := x) (b := b) h r => by
    obtain ⟨Z, h1, h2, h3⟩ := zip_of r
    refine ⟨(x, b) :: Z, congrArg (x :: ·) h1, congrArg (b :: ·) h2, fun z hz => ?_⟩
    rcases List.mem_cons.mp hz with rfl | hz
    · exact h
    · exact h3 z hz
theorem of_zip {α β : Type} {R : α → β → Prop} : ∀ Z : List (α × β), (∀ z ∈ Z, R z.1 z.2) → Paired R (Z.map Prod.fst) (Z.map Prod.snd)
  | [], _ => .nil
  | z :: Z, h => .cons (h z List.mem_cons_self) (of_zip Z fun y hy => h y (List.mem_cons_of_mem _ hy))
/-- what is paired with a list that is sorted comes along -/
theorem paired_sort {α β : Type} {R : α → β → Prop} {xs : List α} {bs : List β} (h : Paired R xs bs) (le : β → β → Bool) : ∃ ys, ys.Perm xs ∧ Paired R ys (bs.mergeSort le) := by
  obtain ⟨Z, rfl, rfl, h3⟩ := zip_of h
  refine ⟨(Z.mergeSort fun x y => le x.2 y.2).map Prod.fst, (List.mergeSort_perm Z _).map _, ?_⟩
  have e : (Z.mergeSort fun x y => le x.2 y.2).map Prod.snd = (Z.map Prod.snd).mergeSort le := List.map_mergeSort fun _ _ _ _ => rfl
  rw [← e]
  exact of_zip _ fun z hz => h3 z ((List.mergeSort_perm Z _).mem_iff.mp hz)
theorem paired_map {α β γ : Type} {R : α → β → Prop} {f : γ → α} : ∀ {xs : List γ} {bs : List β}, Paired R (xs.map f) bs → Paired (fun x b => R (f x) b) xs bs
  | [], _, h => by
    cases h
    exact .nil
  | x :: xs, _, h => by
    cases h with
    | cons h1 h2 => exact .cons h1 (paired_map h2)
end Pk
set_option Elab.async false
set_option linter.all false
set_option maxRecDepth 100000
set_option maxHeartbeats 4000000
/-! sorted keys of three ints ascend; no row -/
namespace Pk
open PySem PySem.Spec PyProof.Rows L2
theorem dl3 {a b c a' b' c' : Int} : PySem.W.dataLt (.tuple [.int a, .int b, .int c]) (.tuple [.int a', .int b', .int c']) = true ↔ a < a' ∨ (a = a' ∧ (b < b' ∨ (b = b' ∧ c < c'))) := by
  rw [PySem.W.dataLt_tuple]
  simp only [PySem.W.keyToksAll, PySem.W.keyToks, List.cons_append, List.nil_append, PyProof.Rows.lexLt, PyProof.Rows.itemLt, Bool.or_eq_true, Bool.and_eq_true, Bool.not_eq_true', decide_eq_true_eq, decide_eq_false_iff_not, Int.lt_irrefl, false_or, not_false_eq_true, true_and, Bool.false_eq_true, and_false, or_false]
  constructor <;> intro h <;> omega
theorem dle_pw (bs : List (V × PyData)) : (bs.mergeSort (PySem.W.dataLe false Prod.snd)).Pairwise fun a b => PySem.W.dataLt b.2 a.2 = false := by
  have le_is : ∀ a b : V × PyData, PySem.W.dataLe false Prod.snd a b = !PySem.W.dataLt b.2 a.2 := fun _ _ => rfl
  have hs := List.pairwise_mergeSort (le := PySem.W.dataLe false (Prod.snd : V × PyData → PyData)) (fun a b c h1 h2 => ?_) (fun a b => ?_) bs
  · refine hs.imp fun {a b} h => ?_
    rw [le_is] at h
    simpa using h
  · rw [le_is] at h1 h2 ⊢
    cases h3 : PySem.W.dataLt c.2 a.2 with
    | false => rfl
    | true =>
      rcases (PyProof.Rows.listOrd PyProof.Rows.itemOrd).negTrans _ (PySem.W.keyToks b.2) _ h3 with h4 | h4
      · have : PySem.W.dataLt c.2 b.2 = true := h4
        rw [this] at h2
        cases h2
      · have : PySem.W.dataLt b.2 a.2 = true := h4
        rw [this] at h1
        cases h1
  · rw [le_is, le_is]
    cases h3 : PySem.W.dataLt b.2 a.2 with
    | false => rfl
    | true =>
      cases h4 : PySem.W.dataLt a.2 b.2 with
      | false => rfl
      | true =>
        have := (PyProof.Rows.listOrd PyProof.Rows.itemOrd).trans _ _ _ h3 h4
        rw [(PyProof.Rows.listOrd PyProof.Rows.itemOrd).irrefl] at this
        cases this
/-- keys ascend strictly -/
def AscK (ts : List (List L2.Key × Int)) : Prop := ts.Pairwise fun x y => PySem.W.dataLt (keyD x.1) (keyD y.1) = true
theorem asc_of {R : List L2.Key × Int → V × PyData → Prop} {ts : List (List L2.Key × Int)} {cs : List (V × PyData)} (h : Paired R ts cs) (hR : ∀ x b, R x b → b.2 = keyD x.1) (hn : NdK ts) (h3 : K3 ts) (hp : cs.Pairwise fun a b => PySem.W.dataLt b.2 a.2 = false) : AscK ts := by
  have lt : ts.length = cs.length := Paired.length h
  refine List.pairwise_iff_getElem.mpr fun i j hi hj hij => ?_
  have hx := List.getElem?_eq_getElem hi
  have hy := List.getElem?_eq_getElem hj
  obtain ⟨bx, hbx, rx⟩ := paired_get h hx
  obtain ⟨bY, hby, ry⟩ := paired_get h hy
  obtain ⟨li, ei⟩ := List.getElem?_eq_some_iff.mp hbx
  obtain ⟨lj, ej⟩ := List.getElem?_eq_some_iff.mp hby
  have hz := List.pairwise_iff_getElem.mp hp i j li lj hij
  rw [ei, ej, hR _ _ rx, hR _ _ ry] at hz
  have ne : ts[i].1 ≠ ts[j].1 := fun z => by
    have := hn.inj hx hy z
    omega
  obtain ⟨a, b, c, e1⟩ := h3 _ (List.getElem_mem hi)
  obtain ⟨a', b', c', e2⟩ := h3 _ (List.getElem_mem hj)
  rw [e1, e2] at hz ne ⊢
  have h1 : ¬ PySem.W.dataLt (.tuple [.int a', .int b', .int c']) (.tuple [.int a, .int b, .int c]) = true := fun w => by
    have : PySem.W.dataLt (.tuple [.int a', .int b', .int c']) (.tuple [.int a, .int b, .int c]) = false := hz
    rw [this] at w
    cases w
  show PySem.W.dataLt (.tuple [.int a, .int b, .int c]) (.tuple [.int a', .int b', .int c']) = true
  rw [dl3] at h1 ⊢
  have h2 : ¬ (a = a' ∧ b = b' ∧ c = c') := fun ⟨w1, w2, w3⟩ => ne (by rw [w1, w2, w3])
  omega
end Pk
set_option Elab.async false
set_option linter.all false
set_option maxRecDepth 100000
set_option maxHeartbeats 4000000
/-! k24: Ledger.total -/
namespace Pk
open PySem PySem.Spec PyProof.Rows L2 SX GxR Tk
structure Mt (P : Program) (w : World) (K : PySem.W.Frag) (mg : Str → Option Value) (base : Heap) (CX : CXT) (k : Nat) (C : Addr) (x : Str) (ps : List Str) (sp : Sp) : Prop where
  ex : ∃ (f : Addr) (fd : FuncData), FnOk P w K mg base CX k f fd ps sp ∧ Meth K C x f ∧ Binds K fd ps []
structure MkC (P : Program) (w : World) (K : PySem.W.Frag) (mg : Str → Option Value) (base : Heap) (CX : CXT) (k : Nat) (C : Addr) (x : Str) (ps : List Str) (sp : Sp) : Prop where
  ex : ∃ (f : Addr) (fd : FuncData), FnOk P w K mg base CX k f fd ps sp ∧ Mk K C f ∧ Binds K fd ps [] ∧ mg x = some (.ref C)
section
variable {P : Program} {w : World} {K : PySem.W.Frag} {mg : Str → Option Value} {base : Heap} {C : Addr}
/-- a pair of a version and counts -/
def OtR (H : Hp) (y : V) (r : Int × List ((Int × Int) × Int)) : Prop := ∃ t c, y = .ref t ∧ H t = some (.tup [.int r.1, .ref c]) ∧ H c = some (.dT (kvI (ck r.2)))
/-- all added -/
def adR (ks : List (List L2.Key × Int)) (r : Int × List ((Int × Int) × Int)) : List (List L2.Key × Int) := (vk r.1 r.2).foldl adI ks
theorem adI_keys (ks : List (List L2.Key × Int)) (e : List L2.Key × Int) : (adI ks e).map Prod.fst = if (ks.any fun kv => decide (kv.1 = e.1)) = true then ks.map Prod.fst else ks.map Prod.fst ++ [e.1] := by
  unfold adI
  split
  · rw [List.map_map]
    refine List.map_congr_left fun x _ => ?_
    show (if x.1 = e.1 then (x.1, _) else x).1 = x.1
    split <;> rfl
  · rw [List.map_append]
    rfl
theorem adI_nd {ks : List (List L2.Key × Int)} (h : NdK ks) (e : List L2.Key × Int) : NdK (adI ks e) := by
  unfold NdK
  rw [adI_keys]
  by_cases c : (ks.any fun kv => decide (kv.1 = e.1)) = true
  · rw [if_pos c]
    exact h
  · rw [if_neg c, List.nodup_append]
    refine ⟨h, by simp, fun a ha b hb z => ?_⟩
    obtain ⟨y, hy, rfl⟩ := List.mem_map.mp ha
    have hb : b = e.1 := by simpa using hb
    exact c (List.any_eq_true.mpr ⟨y, hy, by simp [z, hb]⟩)
theorem k3_iff {ks : List (List L2.Key × Int)} : K3 ks ↔ ∀ k ∈ ks.map Prod.fst, ∃ a b c : Int, k = [.inl a, .inl b, .inl c] :=
  ⟨fun h k hk => let ⟨e, he, z⟩ := List.mem_map.mp hk; z ▸ h e he, fun h e he => h e.1 (List.mem_map.mpr ⟨e, he, rfl⟩)⟩
theorem adI_k3 {ks : List (List L2.Key × Int)} (h : K3 ks) {e : List L2.Key × Int} (he : ∃ a b c : Int, e.1 = [.inl a, .inl b, .inl c]) : K3 (adI ks e) := by
  rw [k3_iff] at h ⊢
  rw [adI_keys]
  split
  · exact h
  · intro k hk
    rcases List.mem_append.mp hk with hk | hk
    · exact h k hk
    · rw [List.mem_singleton.mp hk]
      exact he
theorem adR_ok {ks : List (List L2.Key × Int)} (h : NdK ks ∧ K3 ks) (r : Int × List ((Int × Int) × Int)) : NdK (adR ks r) ∧ K3 (adR ks r) := by
  unfold adR vk
  generalize r.2 = es
  induction es generalizing ks with
  | nil => exact h
  | cons e es ih => exact ih ⟨adI_nd h.1 _, adI_k3 h.2 ⟨_, _, _, rfl⟩⟩
theorem adRs_ok (rows : List (Int × List ((Int × Int) × Int))) : ∀ {ks : List (List L2.Key × Int)}, NdK ks ∧ K3 ks → NdK (rows.foldl adR ks) ∧ K3 (rows.foldl adR ks) := by
  induction rows with
  | nil => exact fun h => h
  | cons r rs ih => exact fun h => ih (adR_ok h r)
theorem adR_len (rows : List (Int × List ((Int × Int) × Int))) : ∀ ks : List (List L2.Key × Int), (rows.foldl adR ks).length ≤ ks.length + (rows.map fun r => r.2.length).sum := by
  induction rows with
  | nil => intro ks; exact Nat.le_refl _
  | cons r rs ih =>
    intro ks
    have h1 := ih (adR ks r)
    have h2 := adIs_len (vk r.1 r.2) ks
    have h3 : (vk r.1 r.2).length = r.2.length := List.length_map ..
    rw [List.map_cons, List.sum_cons]
    show (rs.foldl adR (adR ks r)).length ≤ _
    have h4 : (adR ks r).length ≤ ks.length + r.2.length := by rw [← h3]; exact h2
    omega
theorem adR_at {rows : List (Int × List ((Int × Int) × Int))} {ks : List (List L2.Key × Int)} {i : Nat} {r : Int × List ((Int × Int) × Int)} (h : rows[i]? = some r) :
    ((rows.take i).foldl adR ks).length + r.2.length ≤ ks.length + (rows.map fun r => r.2.length).sum ∧ (rows.take (i + 1)).foldl adR ks = adR ((rows.take i).foldl adR ks) r := by
  have hl := (List.getElem?_eq_some_iff.mp h).1
  have e : rows.take (i + 1) = rows.take i ++ [r] := by rw [List.take_add_one, h]; rfl
  refine ⟨?_, by rw [e, List.foldl_append]; rfl⟩
  have h1 := adR_len (rows.take i) ks
  have h2 : rows = (rows.take i ++ [r]) ++ rows.drop (i + 1) := by rw [← e, List.take_append_drop]
  have h3 : (rows.map fun r => r.2.length).sum = ((rows.take i).map fun r => r.2.length).sum + r.2.length + ((rows.drop (i + 1)).map fun r => r.2.length).sum := by
    conv => lhs; rw [h2]
    simp [Nat.add_assoc]
  omega
def spLTo (K : PySem.W.Frag) (C : Addr) : Sp := fun vs H Q _ => ∃ (a dx d p : Addr) (ks : List (List L2.Key × Int)) (ys : List V) (rows : List (Int × List ((Int × Int) × Int))), vs = [.ref a, .ref p] ∧ H a = some (.ins C dx [("sums", .ref d)]) ∧ H d = some (.dT (kvI ks)) ∧ SqL K H p ys ∧ Paired (OtR H) ys rows ∧ NdK ks ∧ K3 ks ∧ ks.length + (rows.map fun r => r.2.length).sum < 1000 ∧
  ∀ (H' : Hp) (q : Addr) (ts : List (List L2.Key × Int)), Same H H' → H q = none → H' q = some (.dT (kvI ts)) → ts.Perm (rows.foldl adR ks) → AscK ts → Q (.ref q) H'
abbrev sLTo : Stmt := inClass (topS 1) 2
abbrev NLTo : List Str := ["self", "others", "whole", "key", "version", "counts"]
theorem scLTo : FnScope NLTo ["self", "others"] (defScope sLTo) := ⟨rfl, rfl, rfl, by decide +kernel, rfl, by decide +kernel, by decide +kernel⟩
theorem ok_LTo {f : Addr} {fd : FuncData} (F : Fun K "total" "Ledger.total" sLTo f fd) (R : LeC K C) (zSorted : mg "sorted" = none) (D1 : MkC P w K mg base CX0 1 C "Ledger" ["self"] (spLIn C)) (D2 : Mt P w K mg base CX0 1 C "collect" ["self", "version", "counts"] (spLCo K C)) : FnOk P w K mg base CX0 3 f fd ["self", "others"] (spLTo K C) := by
  obtain ⟨f1, fd1, G1, k1, b1, g1⟩ := D1.ex
  obtain ⟨f2, fd2, G2, k2, b2⟩ := D2.ex
  refine F.ok scLTo (fun vs H Q E h => ?_) (fun cdv A outer s0 H vs Q E hr h => ?_)
  · obtain ⟨a, dx, d, p, ks, ys, rows, rfl, _⟩ := h
    rfl
  · obtain ⟨a, dx, d, p, ks, ys, rows, rfl, ha, hd, hp, hr2, hnd, hk3, hln, q⟩ := h
    have nd := scLTo.nd
    refine ⟨_, (pss_cons (ps_set (i := 2) nd rfl (.inr rfl) (pe_make0 k1 G1 (hr.mono (by omega)) (by rfl) g1 b1 .nil pass0))
      (pss_cons (ps_fld (pv 2) (pe_lock (pe_dcT (own := [("key", 3)]) (g := gName 3) (tt := tYes) rfl nd (hu_of hr) (pi_keys (pe_fld (pv 0) rfl)) (blkOk_by (own := [("key", 3)]) (N := NLTo) (sc := defScope sLTo) (by decide +kernel)) (fun _ _ _ _ _ => (pg_name (i := 3) nd rfl (Or.inl rfl))) (fun _ _ _ _ _ => pts_nil) (fun _ _ _ _ _ => (pv 3)) (fun _ _ _ _ _ => (pe_dget (hu_of hr) (@id (PE _ _ (tFld K (tVar 0) "sums")) (pe_fld (pv 0) rfl)) (pv 3) (fun _ _ => rfl))))) rfl)
      (pss_cons (ps_for PassesOwn.never rfl (pi_list (pv 1)) (pg_tup (by rfl) (pgs_cons (pg_name (i := 4) nd rfl (.inl rfl)) (pgs_cons (pg_name (i := 5) nd rfl (.inl rfl)) pgs_nil)))
        (pss_one (ps_expr (pe_meth (pv 2) R.cl k2 G2 (hr.mono (by omega)) b2 .nil pass0 (pa_cons (pv 4) (pa_cons (pv 5) pa_nil))))))
      (pss_one (ps_ret (pe_dcT (own := [("key", 3)]) (g := gName 3) (tt := tYes) rfl nd (hu_of hr) (pi_list (pe_callB (cr_sortDT rfl hr.units) (by rfl) zSorted (by decide +kernel) (pa_cons (pe_fld (pv 2) rfl) pa_nil))) (blkOk_by (own := [("key", 3)]) (N := NLTo) (sc := defScope sLTo) (by decide +kernel)) (fun _ _ _ _ _ => (pg_name (i := 3) nd rfl (Or.inl rfl))) (fun _ _ _ _ _ => pts_nil) (fun _ _ _ _ _ => (pv 3)) (fun _ _ _ _ _ => (pe_dget (hu_of hr) (@id (PE _ _ (tFld K (tVar 2) "sums")) (pe_fld (pv 2) rfl)) (pv 3) (fun _ _ => rfl))))))))), ?_⟩
    refine fun x dx2 nx ndx ne => ?_
    dsimp only [tNil]
    refine ⟨x, dx2, rfl, upd_same, fun H1 d1 k1 nd1 e1 ed1 => ⟨rfl, ?_⟩⟩
    have s1 : Same H H1 := fun b o e => k1 b o (ne_of_none e nx) (by rw [upd_ne (ne_of_none e nx), upd_ne (ne_of_none e ndx)]; exact e)
    have ha1 := s1 _ _ ha
    have hd1 := s1 _ _ hd
    have nad : a ≠ d := fun z => by
      rw [z, hd] at ha
      cases ha
    have nxd : x ≠ d := fun z => by
      rw [z, hd] at nx
      cases nx
    refine ⟨d, .dT (kvI ks), hd1, trivial, fun od => ?_⟩
    have ha2 : (upd H1 d (.frz od (.dT (kvI ks)))) a = some (.ins C dx [("sums", .ref d)]) := by
      rw [upd_ne nad]
      exact ha1
    have hd2 : (upd H1 d (.frz od (.dT (kvI ks)))) d = some (.frz od (.dT (kvI ks))) := upd_same
    have k2 : ∀ b o, b ≠ d → H1 b = some o → (upd H1 d (.frz od (.dT (kvI ks)))) b = some o := fun b o n e => by
      rw [upd_ne n]
      exact e
    have f2 : ∀ b, (upd H1 d (.frz od (.dT (kvI ks)))) b = none → H1 b = none := fun b e => by
      by_cases c : b = d
      · rw [c, upd_same] at e
        cases e
      · rw [upd_ne c] at e
        exact e
    generalize upd H1 d (.frz od (.dT (kvI ks))) = H2 at ha2 hd2 k2 f2 ⊢
    refine ⟨_, rfl, a, C, dx, _, _, rfl, ha2, R.cl, R.n1, rfl, d, od, rfl, .inr ⟨kvI ks, hd2, fun q1 hq1 => dcT_it (walk_keysT (d := d) (o := od) (kvs := kvI ks)) (fun i H5 => Same H2 H5 ∧ H5 q1 = some (.dT (kvI (ks.take i)))) ⟨same_new hq1, upd_same⟩ (fun i H5 _ h => h.1 _ _ hd2) ?_ ?_⟩⟩
    · rintro i y H5 H6 hi ⟨s5, e5⟩ ⟨rfl, kk, v, q2, ek, rfl, eq⟩
      obtain ⟨e, he, rfl, rfl⟩ : ∃ e, ks[i]? = some e ∧ kk = e.1 ∧ v = V.int e.2 := by
        unfold kvI at ek
        rw [List.getElem?_map] at ek
        obtain ⟨e, h1, h2⟩ := Option.map_eq_some_iff.mp ek
        cases h2
        exact ⟨e, h1, rfl, rfl⟩
      refine ⟨rfl, _, rfl, _, rfl, a, C, dx, _, _, rfl, s5 _ _ ha2, R.cl, R.n1, rfl, _, rfl, d, V.int e.2, rfl, .inr ⟨kvI ks, e.1, q2, .inr ⟨od, s5 _ _ hd2⟩, rfl, eq, (val_nd hnd (List.mem_of_getElem? he)).symm⟩, kvI (ks.take i), e.1, q2, rfl, eq, e5, small1000 ?_, same_set s5 hq1, ?_⟩
      · rw [kvI, List.length_map, List.length_take]
        omega
      · rw [upd_same, copy_step hnd he]
    rintro H5 ⟨s5, e5⟩
    rw [show (kvI ks).length = ks.length from List.length_map .., List.take_length] at e5
    refine ⟨s5 _ _ hd2, ?_⟩
    have nq : q1 ≠ d := fun z => by
      rw [z, hd2] at hq1
      cases hq1
    have nqx : q1 ≠ x := fun z => by
      rw [z, k2 _ _ nxd e1] at hq1
      cases hq1
    have hq0 : H q1 = none := by
      cases c : H q1 with
      | none => rfl
      | some o => rw [k2 _ _ nq (s1 _ _ c)] at hq1; cases hq1
    have s6 : Same H (upd H5 d (.dT (kvI ks))) := fun b o e => by
      by_cases c : b = d
      · subst c
        rw [hd] at e
        rw [upd_same]
        exact e
      · rw [upd_ne c]
        exact s5 _ _ (k2 _ _ c (s1 _ _ e))
    have e6 : (upd H5 d (.dT (kvI ks))) x = some (.ins C dx2 [("sums", .ref d1)]) := by
      rw [upd_ne nxd]
      exact s5 _ _ (k2 _ _ nxd e1)
    have q6 : (upd H5 d (.dT (kvI ks))) q1 = some (.dT (kvI ks)) := by
      rw [upd_ne nq]
      exact e5
    generalize upd H5 d (.dT (kvI ks)) = H6 at s6 e6 q6 ⊢
    refine ⟨_, rfl, x, C, dx2, _, rfl, e6, R.cl, R.n1, (by show 1 < 1000; decide), ?_⟩
    have s7 : Same H (upd H6 x (.ins C dx2 [("sums", .ref q1)])) := fun b o e => by
      rw [upd_ne (ne_of_none e nx)]
      exact s6 _ _ e
    have e7 : (upd H6 x (.ins C dx2 [("sums", .ref q1)])) x = some (.ins C dx2 [("sums", .ref q1)]) := upd_same
    have q7 : (upd H6 x (.ins C dx2 [("sums", .ref q1)])) q1 = some (.dT (kvI ks)) := by
      rw [upd_ne nqx]
      exact q6
    show tSeq _ _ _ _ (upd H6 x (.ins C dx2 [("sums", .ref q1)]))
    generalize upd H6 x (.ins C dx2 [("sums", .ref q1)]) = H7 at s7 e7 q7 ⊢
    have lr : ys.length = rows.length := Paired.length hr2
    refine ⟨_, rfl, p, rfl, ⟨_, sqL_sub s7 hp⟩, for_list (K := K) (a := p) (xs := ys) (fun i σ H8 => (∃ x3 x4 x5, σ = [some (.ref a), some (.ref p), some (.ref x), x3, x4, x5]) ∧ (∀ b o, b ≠ q1 → H7 b = some o → H8 b = some o) ∧ H8 q1 = some (.dT (kvI ((rows.take i).foldl adR ks)))) ⟨⟨_, _, _, rfl⟩, fun _ _ _ e => e, q7⟩ (fun i σ H8 _ h => ?_) ?_ ?_⟩
    · exact sqL_sub (fun b o e => h.2.1 _ _ (ne_of_none e hq0) (s7 _ _ e)) hp
    · rintro i y σ H8 hy ⟨⟨x3, x4, x5, rfl⟩, s8, e8⟩
      obtain ⟨r, hr3, t, c, rfl, ht, hc⟩ := paired_get hr2 hy
      have sH : Same H H8 := fun b o e => s8 _ _ (ne_of_none e hq0) (s7 _ _ e)
      obtain ⟨l1, l2⟩ := adR_at (ks := ks) hr3
      refine ⟨t, _, rfl, .inl (.inl (sH _ _ ht)), rfl, _, _, rfl, _, _, rfl, rfl, ?_⟩
      refine ⟨_, rfl, x, dx2, _, rfl, s8 _ _ (Ne.symm nqx) e7, rfl, ?_⟩
      refine ⟨_, rfl, _, rfl, ?_⟩
      dsimp only [tNil]
      refine ⟨x, dx2, q1, c, r.1, (rows.take i).foldl adR ks, r.2, rfl, s8 _ _ (Ne.symm nqx) e7, e8, sH _ _ hc, fun z => ?_, by omega, fun H9 k9 e9 => ⟨⟨_, _, _, rfl⟩, fun b o n e => k9 _ _ n (s8 _ _ n e), ?_⟩⟩
      · rw [z, hc] at hq0
        cases hq0
      · rw [l2]
        exact e9
    · rintro σ H8 ⟨⟨x3, x4, x5, rfl⟩, s8, e8⟩
      have sH : Same H H8 := fun b o e => s8 _ _ (ne_of_none e hq0) (s7 _ _ e)
      rw [lr, List.take_length] at e8
      obtain ⟨zn, z3⟩ := adRs_ok rows ⟨hnd, hk3⟩
      have zl := adR_len rows ks
      generalize rows.foldl adR ks = kz at e8 zn z3 zl q
      refine ⟨_, rfl, x, C, dx2, _, _, rfl, s8 _ _ (Ne.symm nqx) e7, R.cl, R.n1, rfl, ?_⟩
      dsimp only [tNil]
      refine ⟨q1, kvI kz, rfl, e8, z3.alike, z3.sortable, z3.depth, fun p2 bs hbs np2 => ?_⟩
      obtain ⟨ts, hpm, hps⟩ := paired_sort (paired_map hbs) (PySem.W.dataLe false Prod.snd)
      have hpw := dle_pw bs
      generalize bs.mergeSort (PySem.W.dataLe false Prod.snd) = cs at hps hpw
      have s9 : Same H8 (upd H8 p2 (.lst (cs.map Prod.fst))) := same_new np2
      have e9 : (upd H8 p2 (.lst (cs.map Prod.fst))) p2 = some (.lst (cs.map Prod.fst)) := upd_same
      have q9 := s9 _ _ e8
      have x9 := s9 _ _ (s8 _ _ (Ne.symm nqx) e7)
      generalize upd H8 p2 (.lst (cs.map Prod.fst)) = H9 at s9 e9 q9 x9 ⊢
      refine ⟨p2, rfl, ⟨_, SqL.of e9⟩, fun D2 hD2 => dcT_it (walk_list (K := K) (a := p2) (xs := cs.map Prod.fst)) (fun i H5 => Same H9 H5 ∧ H5 D2 = some (.dT (kvI (ts.take i)))) ⟨same_new hD2, upd_same⟩ (fun i H5 _ h => sqL_sub h.1 (SqL.of e9)) ?_ ?_⟩
      · rintro i y H5 H6 hi ⟨s5, e5⟩ hy
        obtain ⟨rfl, hy⟩ : H6 = H5 ∧ (cs.map Prod.fst)[i]? = some y := hy
        have lt : ts.length = cs.length := Paired.length hps
        have l2 : ts.length = kz.length := hpm.length_eq
        rw [List.length_map] at hi
        obtain ⟨e, he⟩ : ∃ e, ts[i]? = some e := ⟨_, List.getElem?_eq_getElem (by omega)⟩
        obtain ⟨b, hb, a2, rfl, ea2⟩ := paired_get hps he
        rw [List.getElem?_map, hb] at hy
        obtain rfl := (Option.some.inj hy).symm
        have tn : NdK ts := (hpm.map Prod.fst).nodup_iff.mpr zn
        have k5 := s5 _ _ (s9 _ _ ea2)
        refine ⟨rfl, _, rfl, _, rfl, x, C, dx2, _, _, rfl, s5 _ _ x9, R.cl, R.n1, rfl, _, rfl, q1, V.int e.2, rfl, .inr ⟨kvI kz, e.1, a2, .inl (s5 _ _ q9), rfl, k5, (val_nd zn (hpm.mem_iff.mp (List.mem_of_getElem? he))).symm⟩, kvI (ts.take i), e.1, a2, rfl, k5, e5, small1000 ?_, same_set s5 hD2, ?_⟩
        · rw [kvI, List.length_map, List.length_take]
          omega
        · rw [upd_same, copy_step tn he]
      · rintro H5 ⟨s5, e5⟩
        have lt : ts.length = cs.length := Paired.length hps
        rw [List.length_map, ← lt, List.take_length] at e5
        refine q H5 D2 ts (sH.trans (s9.trans s5)) ((sH.trans s9).free hD2) e5 hpm (asc_of hps (fun x b hb => by obtain ⟨a2, rfl, _⟩ := hb; rfl) ((hpm.map Prod.fst).nodup_iff.mpr zn) (fun e he => z3 e (hpm.mem_iff.mp he)) hpw)
end
end Pk
set_option Elab.async false
set_option linter.all false
set_option maxRecDepth 100000
/-! bits of masks and prefixes; no row -/
namespace Pk
open PySem
theorem natMask (m n : Nat) : m &&& n = m ↔ m ||| n = n := by
  constructor
  · intro h
    refine Nat.eq_of_testBit_eq fun i => ?_
    have := congrArg (fun z => z.testBit i) h
    simp only [Nat.testBit_and] at this
    rw [Nat.testBit_or]
    revert this
    cases m.testBit i <;> cases n.testBit i <;> simp
  · intro h
    refine Nat.eq_of_testBit_eq fun i => ?_
    have := congrArg (fun z => z.testBit i) h
    simp only [Nat.testBit_or] at this
    rw [Nat.testBit_and]
    revert this
    cases m.testBit i <;> cases n.testBit i <;> simp
theorem natPrefix {v w s : Nat} (hv : v < 2 ^ w) (hs : s ≤ w) : v &&& ((2 ^ s - 1) * 2 ^ (w - s)) = v ↔ v % 2 ^ (w - s) = 0 := by
  have tb : ∀ i, ((2 ^ s - 1) * 2 ^ (w - s)).testBit i = (decide (i ≥ w - s) && decide (i - (w - s) < s)) := fun i => by
    rw [Nat.mul_comm, Nat.testBit_two_pow_mul, Nat.testBit_two_pow_sub_one]
  constructor
  · intro h
    refine Nat.eq_of_testBit_eq fun i => ?_
    have := congrArg (fun z => z.testBit i) h
    simp only [Nat.testBit_and, tb] at this
    rw [Nat.testBit_mod_two_pow, Nat.zero_testBit]
    by_cases hi : i < w - s
    · rw [decide_eq_false (by omega : ¬ i ≥ w - s)] at this
      simp only [Bool.false_and, Bool.and_false] at this
      rw [← this, Bool.and_false]
    · rw [decide_eq_false hi, Bool.false_and]
  · intro h
    refine Nat.eq_of_testBit_eq fun i => ?_
    rw [Nat.testBit_and, tb]
    cases e : v.testBit i with
    | false => rfl
    | true =>
      have h1 : i < w := by
        rcases Nat.lt_or_ge i w with h' | h'
        · exact h'
        · rw [Nat.testBit_lt_two_pow (Nat.lt_of_lt_of_le hv (Nat.pow_le_pow_right (by decide) h'))] at e
          cases e
      have h2 : i ≥ w - s := by
        rcases Nat.lt_or_ge i (w - s) with h' | h'
        · have := congrArg (fun z => z.testBit i) h
          simp only [Nat.testBit_mod_two_pow, Nat.zero_testBit, decide_eq_true h', e] at this
          cases this
        · exact h'
      rw [decide_eq_true h2, decide_eq_true (by omega : i - (w - s) < s)]
      rfl
theorem bitNot_eq (x : Int) : Builtin.bitNot x = -x - 1 := by
  unfold Builtin.bitNot
  omega
theorem bitAnd_nat {a b : Int} (ha : 0 ≤ a) (hb : 0 ≤ b) : Builtin.bitAnd a b = ((a.toNat &&& b.toNat : Nat) : Int) := by
  unfold Builtin.bitAnd
  rw [decide_eq_true ha, decide_eq_true hb]
theorem bitOr_nat {a b : Int} (ha : 0 ≤ a) (hb : 0 ≤ b) : Builtin.bitOr a b = ((a.toNat ||| b.toNat : Nat) : Int) := by
  have e1 : ¬ 0 ≤ Builtin.bitNot a := by rw [bitNot_eq]; omega
  have e2 : ¬ 0 ≤ Builtin.bitNot b := by rw [bitNot_eq]; omega
  have n1 : Builtin.bitNot (Builtin.bitNot a) = a := by rw [bitNot_eq, bitNot_eq]; omega
  have n2 : Builtin.bitNot (Builtin.bitNot b) = b := by rw [bitNot_eq, bitNot_eq]; omega
  unfold Builtin.bitOr Builtin.bitAnd
  rw [decide_eq_false e1, decide_eq_false e2]
  dsimp only
  rw [n1, n2, bitNot_eq, bitNot_eq]
  omega
theorem mask_iff {a b : Int} (ha : 0 ≤ a) (hb : 0 ≤ b) : Builtin.bitAnd a b = a ↔ Builtin.bitOr a b = b := by
  rw [bitAnd_nat ha hb, bitOr_nat ha hb]
  have := natMask a.toNat b.toNat
  omega
theorem prefix_iff {v : Int} {w s : Nat} (h0 : 0 ≤ v) (h1 : v < 2 ^ w) (hs : s ≤ w) : Builtin.bitAnd v ((2 ^ s - 1) * 2 ^ (w - s)) = v ↔ v % 2 ^ (w - s) = 0 := by
  have hp : (0 : Int) ≤ (2 ^ s - 1) * 2 ^ (w - s) := by
    have : (1 : Int) ≤ 2 ^ s := by exact_mod_cast Nat.one_le_two_pow
    exact Int.mul_nonneg (by omega) (Int.le_of_lt (Int.pow_pos (by decide)))
  have hv : v.toNat < 2 ^ w := by
    have : ((v.toNat : Nat) : Int) < ((2 ^ w : Nat) : Int) := by
      rw [Int.toNat_of_nonneg h0]
      push_cast
      exact h1
    exact_mod_cast this
  have ev : ((v.toNat : Nat) : Int) = v := Int.toNat_of_nonneg h0
  have em : ((2 ^ s - 1) * 2 ^ (w - s) : Int).toNat = (2 ^ s - 1) * 2 ^ (w - s) := by
    have h1 : ((2 : Int) ^ s - 1) = ((2 ^ s - 1 : Nat) : Int) := by
      have := Nat.one_le_two_pow (n := s)
      push_cast [this]
      rfl
    have h2 : (2 : Int) ^ (w - s) = ((2 ^ (w - s) : Nat) : Int) := by push_cast; rfl
    rw [h1, h2, ← Int.natCast_mul, Int.toNat_natCast]
  rw [bitAnd_nat h0 hp, em]
  have key := natPrefix hv hs
  have e2 : v % 2 ^ (w - s) = ((v.toNat % 2 ^ (w - s) : Nat) : Int) := by
    push_cast
    rw [ev]
  rw [e2]
  omega
end Pk
set_option Elab.async false
set_option linter.all false
set_option maxRecDepth 100000
set_option maxHeartbeats 4000000
/-! the drawn table, its keys, its entries; no row -/
namespace Pk
open PySem PySem.Spec PyProof.Rows L2
/-- fields by number: owner, name, width -/
def fo : Nat → Str
  | 0 => "packet" | 5 => "meta" | _ => "h"
def fn : Nat → Str
  | 0 => "port" | 1 => "a" | 2 => "b" | 3 => "c" | 4 => "d" | _ => "m"
def fw : Nat → Nat
  | 0 => 3 | 1 => 1 | 2 => 7 | 3 => 8 | 4 => 32 | _ => 5
def kdS : Nat → Str
  | 0 => "exact" | 1 => "mask" | _ => "prefix"
def acS : Nat → Str
  | 0 => "x" | 1 => "y" | _ => "z"
def wds : Nat → List Nat
  | 0 => [] | 1 => [3, 32] | _ => [1]
def pns : Nat → List Str
  | 0 => [] | 1 => ["p", "q"] | _ => ["r"]
def usesOf : Nat → List Nat
  | 0 => [0] | 1 => [0, 1] | _ => [2, 1, 0]
theorem fw_le (i : Nat) : fw i ≤ 32 := by
  unfold fw
  split <;> decide
theorem wds_le (j : Nat) : ∀ w ∈ wds j, w ≤ 32 := by
  unfold wds
  split <;> decide
/-- a key: a field and a kind -/
abbrev Ky := Nat × Nat
def fldD (i : Nat) : PyData := .tuple [.str (fo i), .str (fn i)]
def keyL (k : Ky) : List PyData := [fldD k.1, .str (kdS k.2)]
def ptL (n : Str) (w : Nat) : List PyData := [.str n, .int (w : Nat)]
def hFs : List (Str × Nat) := [("a", 1), ("b", 7), ("c", 8), ("d", 32)]
def mFs : List (Str × Nat) := [("m", 5)]
def ptsD (l : List (Str × Nat)) : PyData := .list (l.map fun x => .tuple (ptL x.1 x.2))
def hdrL : List PyData := [.str "header", .str "h", ptsD hFs]
def pars (j : Nat) : List (Str × Nat) := (pns j).zip (wds j)
def actL (j : Nat) : List PyData := [.str "action", .str (acS j), ptsD (pars j), .list []]
def actsL : List (List PyData) := [actL 0, actL 1, actL 2]
def staL : List PyData := [.str "state", .str "start", .str "h", .tuple [.str "go", .str "accept"]]
def tbsL : List PyData := [.str "table", .str "s", .list [], .list [.str "z"], .tuple [.str "z", .list [.int 1]], .int 2]
def tbtL (ks : List Ky) (us : List Nat) (dflt : PyData) (size : Int) : List PyData := [.str "table", .str "t", .list (ks.map fun k => .tuple (keyL k)), .list (us.map fun j => .str (acS j)), dflt, .int size]
def prgL (ks : List Ky) (us : List Nat) (dflt : PyData) (size : Int) : List PyData :=
  [.str "program", .str "p", .list ([hdrL].map .tuple), ptsD mFs, .list ([staL].map .tuple), .list (actsL.map .tuple), .list ([tbsL, tbtL ks us dflt size].map .tuple), .list [], .list []]
/-- an item of an entry -/
inductive It
  | i (n : Int)
  | p (a b : Int)
def itD : It → PyData
  | .i n => .int n
  | .p a b => .tuple [.int a, .int b]
def entL (its : List It) (prio : Int) (act : Nat) (args : List Int) : List PyData := [.str "entry", .list (its.map itD), .int prio, .str (acS act), .list (args.map .int)]
/-! what is due -/
def okV (n : Int) (w : Nat) : Bool := decide (0 ≤ n ∧ n < 2 ^ w)
def okIt : Nat → Nat → It → Bool
  | 0, w, .i n => okV n w
  | 0, _, .p _ _ => false
  | _ + 1, _, .i _ => false
  | 1, w, .p a b => okV a w && okV b w && decide (Builtin.bitOr a b = b)
  | _ + 2, w, .p a b => okV a w && decide (0 ≤ b ∧ b ≤ (w : Int)) && decide (a % 2 ^ (w - b.toNat) = 0)
def okIts : List Ky → List It → Bool
  | k :: ks, t :: ts => okIt k.2 (fw k.1) t && okIts ks ts
  | _, _ => true
def okArgs : List Nat → List Int → Bool
  | w :: ws, a :: as => okV a w && okArgs ws as
  | _, _ => true
def due (ks : List Ky) (us : List Nat) (its : List It) (prio : Int) (act : Nat) (args : List Int) : Bool :=
  decide (its.length = ks.length) && okV prio 8 && decide (act ∈ us) && okIts ks its && (decide (args.length = (wds act).length) && okArgs (wds act) args)
/-- how is_item goes on with a pair -/
theorem okPair1 {w : Nat} {a b : Int} : (if okV a w then (if okV b w then decide (Builtin.bitAnd a b = a) else false) else false) = okIt 1 w (.p a b) := by
  show _ = (okV a w && okV b w && decide (Builtin.bitOr a b = b))
  cases ha : okV a w
  · rfl
  cases hb : okV b w
  · rfl
  have h1 := (of_decide_eq_true ha).1
  have h2 := (of_decide_eq_true hb).1
  show decide _ = (true && true && decide _)
  rw [Bool.and_self, Bool.true_and]
  exact decide_eq_decide.mpr (mask_iff h1 h2)
theorem okPair2 {w : Nat} {a b : Int} (ha : okV a w = true) (hb : 0 ≤ b ∧ b ≤ (w : Int)) : decide (Builtin.bitAnd a ((2 ^ b.toNat - 1) * 2 ^ (w - b.toNat)) = a) = decide (a % 2 ^ (w - b.toNat) = 0) := by
  have h1 := of_decide_eq_true ha
  exact decide_eq_decide.mpr (prefix_iff h1.1 h1.2 (by omega))
end Pk
set_option Elab.async false
set_option linter.all false
set_option maxRecDepth 100000
set_option maxHeartbeats 4000000
/-! the text of an entry is short; no row -/
namespace Pk
open PySem PySem.Spec PyProof.Rows L2
def smI (n : Int) : Prop := -100000000000 < n ∧ n < 100000000000
def ItB : It → Prop
  | .i n => smI n
  | .p a b => smI a ∧ smI b
def EB (its : List It) (prio : Int) (act : Nat) (args : List Int) : Prop := its.length ≤ 200 ∧ (∀ t ∈ its, ItB t) ∧ smI prio ∧ act < 3 ∧ args.length ≤ 10 ∧ ∀ n ∈ args, smI n
theorem smI_abs {n : Int} (h : smI n) : n.natAbs < 10 ^ 12 := by
  obtain ⟨h1, h2⟩ := h
  have : (10 : Nat) ^ 12 = 1000000000000 := by decide
  rw [this]
  omega
theorem smI_show {n : Int} (h : smI n) : (PyData.int n).showable = true := by
  show decide (n.natAbs.log2 < 1920) = true
  refine decide_eq_true ?_
  by_cases h0 : n.natAbs = 0
  · rw [h0]
    decide
  · rw [Nat.log2_lt h0]
    exact Nat.lt_of_lt_of_le (smI_abs h) (by decide +kernel)
theorem smI_short {n : Int} (h : smI n) : PyData.leavesShort 100 (.int n) = true := by
  show decide ((PyData.int n).shown.length ≤ 100) = true
  exact decide_eq_true (Nat.le_trans (PyData.shown_int_le (smI_abs h)) (by decide))
theorem its_facts : ∀ its : List It, (∀ t ∈ its, ItB t) → PyData.showableAll (its.map itD) = true ∧ PyData.leavesShortAll 100 (its.map itD) = true ∧ PyData.bulkAll (its.map itD) ≤ 3 * its.length ∧ PyData.depthAll (its.map itD) ≤ 1
  | [], _ => ⟨rfl, rfl, Nat.zero_le _, Nat.zero_le _⟩
  | t :: ts, h => by
    obtain ⟨h1, h2, h3, h4⟩ := its_facts ts (fun x hx => h x (List.mem_cons_of_mem _ hx))
    have ht := h t List.mem_cons_self
    have key : (itD t).showable = true ∧ PyData.leavesShort 100 (itD t) = true ∧ (itD t).bulk ≤ 2 ∧ (itD t).depth ≤ 1 := by
      cases t with
      | i n => exact ⟨smI_show ht, smI_short ht, Nat.zero_le _, Nat.zero_le _⟩
      | p a b =>
        refine ⟨?_, ?_, by show (0 + 1 + (0 + 1 + 0)) ≤ 2; decide, by show max 0 (max 0 0) + 1 ≤ 1; decide⟩
        · show ((PyData.int a).showable && ((PyData.int b).showable && true)) = true
          rw [smI_show ht.1, smI_show ht.2]
          rfl
        · show (PyData.leavesShort 100 (.int a) && (PyData.leavesShort 100 (.int b) && true)) = true
          rw [smI_short ht.1, smI_short ht.2]
          rfl
    refine ⟨?_, ?_, ?_, ?_⟩
    · show ((itD t).showable && PyData.showableAll (ts.map itD)) = true
      rw [key.1, h1]
      rfl
    · show (PyData.leavesShort 100 (itD t) && PyData.leavesShortAll 100 (ts.map itD)) = true
      rw [key.2.1, h2]
      rfl
    · show (itD t).bulk + 1 + PyData.bulkAll (ts.map itD) ≤ 3 * (ts.length + 1)
      have := key.2.2.1
      omega
    · show max (itD t).depth (PyData.depthAll (ts.map itD)) ≤ 1
      have := key.2.2.2
      omega
theorem args_facts : ∀ as : List Int, (∀ n ∈ as, smI n) → PyData.showableAll (as.map .int) = true ∧ PyData.leavesShortAll 100 (as.map .int) = true ∧ PyData.bulkAll (as.map .int) ≤ as.length ∧ PyData.depthAll (as.map .int) ≤ 0
  | [], _ => ⟨rfl, rfl, Nat.zero_le _, Nat.zero_le _⟩
  | n :: ts, h => by
    obtain ⟨h1, h2, h3, h4⟩ := args_facts ts (fun x hx => h x (List.mem_cons_of_mem _ hx))
    have ht := h n List.mem_cons_self
    refine ⟨?_, ?_, ?_, ?_⟩
    · show ((PyData.int n).showable && PyData.showableAll (ts.map .int)) = true
      rw [smI_show ht, h1]
      rfl
    · show (PyData.leavesShort 100 (.int n) && PyData.leavesShortAll 100 (ts.map .int)) = true
      rw [smI_short ht, h2]
      rfl
    · show 0 + 1 + PyData.bulkAll (ts.map .int) ≤ ts.length + 1
      omega
    · show max 0 (PyData.depthAll (ts.map .int)) ≤ 0
      omega
theorem acS_facts {act : Nat} (h : act < 3) : PyData.leavesShort 100 (.str (acS act)) = true ∧ (PyData.str (acS act)).bulk ≤ 1 := by
  have : ∀ a < 3, PyData.leavesShort 100 (.str (acS a)) = true ∧ (PyData.str (acS a)).bulk ≤ 1 := by decide +kernel
  exact this act h
theorem ent_repr {its : List It} {prio : Int} {act : Nat} {args : List Int} (h : EB its prio act args) : (PyData.tuple (entL its prio act args)).showable = true ∧ (PyData.tuple (entL its prio act args)).shown.length ≤ sizeLine ∧ (PyData.tuple (entL its prio act args)).depth ≤ 60 := by
  obtain ⟨hl, hi, hp, ha, hal, har⟩ := h
  obtain ⟨i1, i2, i3, i4⟩ := its_facts its hi
  obtain ⟨a1, a2, a3, a4⟩ := args_facts args har
  obtain ⟨s1, s2⟩ := acS_facts ha
  refine ⟨?_, ?_, ?_⟩
  · show (true && (PyData.showableAll (its.map itD) && ((PyData.int prio).showable && (true && (PyData.showableAll (args.map .int) && true))))) = true
    rw [i1, smI_show hp, a1]
    rfl
  · have e1 : PyData.leavesShort 100 (.tuple (entL its prio act args)) = true := by
      show (PyData.leavesShort 100 (.str "entry") && (PyData.leavesShortAll 100 (its.map itD) && (PyData.leavesShort 100 (.int prio) && (PyData.leavesShort 100 (.str (acS act)) && (PyData.leavesShortAll 100 (args.map .int) && true))))) = true
      rw [i2, smI_short hp, s1, a2, (by decide +kernel : PyData.leavesShort 100 (.str "entry") = true)]
      rfl
    have e2 : (PyData.tuple (entL its prio act args)).bulk ≤ 700 := by
      show (PyData.str "entry").bulk + 1 + (PyData.bulkAll (its.map itD) + 1 + (0 + 1 + ((PyData.str (acS act)).bulk + 1 + (PyData.bulkAll (args.map .int) + 1 + 0)))) ≤ 700
      have : (PyData.str "entry").bulk = 5 := by decide +kernel
      omega
    have := PyData.shown_le_bulk 100 (by decide) _ e1
    rw [sizeLine_eq]
    omega
  · show max 0 (max (PyData.depthAll (its.map itD) + 1) (max 0 (max 0 (max (PyData.depthAll (args.map .int) + 1) 0)))) + 1 ≤ 60
    omega
end Pk
set_option Elab.async false
set_option linter.all false
set_option maxRecDepth 100000
set_option maxHeartbeats 4000000
/-! how long the text of data is; no row -/
namespace Pk
open PySem PySem.Spec PyProof.Rows L2
/-- data whose text is short: bulk at most b, depth at most k -/
structure Ft (d : PyData) (b k : Nat) : Prop where
  sh : d.showable = true
  lf : PyData.leavesShort 100 d = true
  bk : d.bulk ≤ b
  dp : d.depth ≤ k
structure FtA (ds : List PyData) (b k : Nat) : Prop where
  sh : PyData.showableAll ds = true
  lf : PyData.leavesShortAll 100 ds = true
  bk : PyData.bulkAll ds ≤ b
  dp : PyData.depthAll ds ≤ k
theorem Ft.up {d : PyData} {b k b' k' : Nat} (h : Ft d b k) (hb : b ≤ b') (hk : k ≤ k') : Ft d b' k' := ⟨h.sh, h.lf, Nat.le_trans h.bk hb, Nat.le_trans h.dp hk⟩
theorem FtA.up {d : List PyData} {b k b' k' : Nat} (h : FtA d b k) (hb : b ≤ b') (hk : k ≤ k') : FtA d b' k' := ⟨h.sh, h.lf, Nat.le_trans h.bk hb, Nat.le_trans h.dp hk⟩
theorem Ft.str {x : Str} {n : Nat} (h : PyData.strOk x = true) (hl : x.length ≤ n) : Ft (.str x) n 0 := by
  refine ⟨rfl, ?_, hl, Nat.le_refl _⟩
  show (x.cps.toList.all fun c => decide (c < 16 ^ 8)) = true
  have h' : (x.cps.all fun c => decide (c < 1114112)) = true := h
  rw [← Array.all_toList, List.all_eq_true] at h'
  rw [List.all_eq_true]
  intro c hc
  have h1 : c < 1114112 := of_decide_eq_true (h' c hc)
  exact decide_eq_true (Nat.lt_trans h1 (by decide))
theorem Ft.int {n : Int} (h : smI n) : Ft (.int n) 0 0 := ⟨smI_show h, smI_short h, Nat.le_refl _, Nat.le_refl _⟩
theorem Ft.non : Ft .none 0 0 := ⟨rfl, rfl, Nat.le_refl _, Nat.le_refl _⟩
theorem Ft.bool (b : Bool) : Ft (.bool b) 0 0 := ⟨rfl, rfl, Nat.le_refl _, Nat.le_refl _⟩
theorem FtA.nil : FtA [] 0 0 := ⟨rfl, rfl, Nat.le_refl _, Nat.le_refl _⟩
theorem FtA.cons {d : PyData} {ds : List PyData} {b b' k k' : Nat} (h : Ft d b k) (r : FtA ds b' k') : FtA (d :: ds) (b + 1 + b') (max k k') := by
  refine ⟨?_, ?_, ?_, ?_⟩
  · show (d.showable && PyData.showableAll ds) = true
    rw [h.sh, r.sh]
    rfl
  · show (PyData.leavesShort 100 d && PyData.leavesShortAll 100 ds) = true
    rw [h.lf, r.lf]
    rfl
  · show d.bulk + 1 + PyData.bulkAll ds ≤ b + 1 + b'
    have h1 := h.bk
    have h2 := r.bk
    omega
  · show max d.depth (PyData.depthAll ds) ≤ max k k'
    have h1 := h.dp
    have h2 := r.dp
    omega
theorem FtA.app {ds es : List PyData} {b b' k : Nat} (h : FtA ds b k) (r : FtA es b' k) : FtA (ds ++ es) (b + b') k := by
  induction ds generalizing b with
  | nil => exact r.up (by omega) (Nat.le_refl _)
  | cons d l ih =>
    have h1 : d.showable = true ∧ PyData.showableAll l = true := Bool.and_eq_true_iff.mp h.sh
    have h2 : PyData.leavesShort 100 d = true ∧ PyData.leavesShortAll 100 l = true := Bool.and_eq_true_iff.mp h.lf
    have h3 : d.bulk + 1 + PyData.bulkAll l ≤ b := h.bk
    have h4 : max d.depth (PyData.depthAll l) ≤ k := h.dp
    have h5 := FtA.cons (b := d.bulk) (k := k) ⟨h1.1, h2.1, Nat.le_refl _, by omega⟩ (ih (b := PyData.bulkAll l) ⟨h1.2, h2.2, Nat.le_refl _, by omega⟩)
    exact h5.up (by omega) (by omega)
theorem FtA.map {α : Type} {f : α → PyData} {b k : Nat} : ∀ {l : List α} {n : Nat}, (∀ x ∈ l, Ft (f x) b k) → l.length ≤ n → FtA (l.map f) ((b + 1) * n) k
  | [], n, _, _ => FtA.nil.up (Nat.zero_le _) (Nat.zero_le _)
  | x :: l, 0, _, h => absurd h (Nat.not_succ_le_zero _)
  | x :: l, n + 1, hf, h => by
    have h1 := FtA.map (l := l) (n := n) (fun y hy => hf y (List.mem_cons_of_mem _ hy)) (Nat.le_of_succ_le_succ h)
    refine (FtA.cons (hf x List.mem_cons_self) h1).up ?_ (by omega)
    rw [Nat.mul_succ]
    omega
theorem Ft.lst {ds : List PyData} {b k : Nat} (h : FtA ds b k) : Ft (.list ds) b (k + 1) := ⟨h.sh, h.lf, h.bk, Nat.succ_le_succ h.dp⟩
theorem Ft.tup {ds : List PyData} {b k : Nat} (h : FtA ds b k) : Ft (.tuple ds) b (k + 1) := ⟨h.sh, h.lf, h.bk, Nat.succ_le_succ h.dp⟩
/-- what repr asks -/
theorem Ft.repr {d : PyData} {b k : Nat} (h : Ft d b k) (hb : b ≤ 150000) (hk : k ≤ 60) : d.showable = true ∧ d.shown.length ≤ sizeLine ∧ d.depth ≤ 60 := by
  refine ⟨h.sh, ?_, Nat.le_trans h.dp hk⟩
  have h1 := PyData.shown_le_bulk 100 (by decide) _ h.lf
  have h2 := h.bk
  rw [sizeLine_eq]
  omega
end Pk
set_option Elab.async false
set_option linter.all false
set_option maxRecDepth 100000
set_option maxHeartbeats 4000000
/-! k24: sums by keys, in any order -/
namespace Pk
open PySem PySem.Spec PyProof.Rows L2
abbrev KN := List L2.Key × Int
/-- what stands for a key -/
def lkI (ks : List KN) (k : List L2.Key) : Option Int := (ks.find? fun e => decide (e.1 = k)).map (·.2)
theorem tI_lk (ks : List KN) (k : List L2.Key) : tI ks k = (lkI ks k).getD 0 := rfl
theorem lkI_cons (p : KN) (r : List KN) (k : List L2.Key) : lkI (p :: r) k = if p.1 = k then some p.2 else lkI r k := by
  unfold lkI
  by_cases c : p.1 = k
  · rw [List.find?_cons_of_pos (by simpa using c), if_pos c]; rfl
  · rw [List.find?_cons_of_neg (by simpa using c), if_neg c]
theorem lkI_mem : ∀ {ks : List KN}, NdK ks → ∀ e : KN, e ∈ ks ↔ lkI ks e.1 = some e.2
  | [], _, e => Iff.intro (fun h => nomatch h) (fun h => by cases h)
  | p :: r, h, e => by
    have h2 : p.1 ∉ r.map Prod.fst ∧ (r.map Prod.fst).Nodup := List.nodup_cons.mp h
    rw [lkI_cons, List.mem_cons]
    by_cases c : p.1 = e.1
    · rw [if_pos c]
      refine ⟨fun z => ?_, fun z => .inl ?_⟩
      · rcases z with z | z
        · rw [z]
        · exact absurd (c ▸ List.mem_map.mpr ⟨e, z, rfl⟩) h2.1
      · exact Prod.ext c.symm (Option.some.inj z).symm
    · rw [if_neg c, ← lkI_mem h2.2 e]
      refine ⟨fun z => ?_, .inr⟩
      rcases z with z | z
      · exact absurd (congrArg Prod.fst z).symm c
      · exact z
theorem NdK.nodup {ks : List KN} (h : NdK ks) : ks.Nodup := (List.pairwise_map.mp h).imp fun n z => n (congrArg Prod.fst z)
theorem perm_lk {ks ls : List KN} (h1 : NdK ks) (h2 : NdK ls) (h : ∀ k, lkI ks k = lkI ls k) : ks.Perm ls :=
  (List.perm_ext_iff_of_nodup h1.nodup h2.nodup).mpr fun e => by rw [lkI_mem h1, lkI_mem h2, h]
/-- a step, by keys -/
def stL (f : List L2.Key → Option Int) (e : KN) : List L2.Key → Option Int := fun k => if k = e.1 then some ((f k).getD 0 + e.2) else f k
theorem lkI_map (k0 : List L2.Key) (n : Int) : ∀ (ks : List KN) (k : List L2.Key), lkI (ks.map fun kv => if kv.1 = k0 then (kv.1, n) else kv) k = if k = k0 then (lkI ks k).map fun _ => n else lkI ks k
  | [], k => by
    split <;> rfl
  | p :: r, k => by
    have e1 : (if p.1 = k0 then (p.1, n) else p).1 = p.1 := by split <;> rfl
    rw [List.map_cons, lkI_cons, lkI_cons, lkI_map k0 n r k, e1]
    by_cases c : p.1 = k
    · rw [if_pos c, if_pos c]
      by_cases c2 : k = k0
      · rw [if_pos c2, if_pos (c.trans c2)]; rfl
      · rw [if_neg c2, if_neg (fun z => c2 (c ▸ z))]
    · rw [if_neg c, if_neg c]
theorem lkI_app (ks : List KN) (e : KN) (k : List L2.Key) : lkI (ks ++ [e]) k = (lkI ks k).or (if e.1 = k then some e.2 else none) := by
  induction ks with
  | nil => rw [List.nil_append, lkI_cons]; rfl
  | cons p r ih =>
    rw [List.cons_append, lkI_cons, lkI_cons, ih]
    by_cases c : p.1 = k
    · rw [if_pos c, if_pos c]; rfl
    · rw [if_neg c, if_neg c]
theorem lkI_any (k : List L2.Key) : ∀ ks : List KN, (ks.any fun kv => decide (kv.1 = k)) = (lkI ks k).isSome
  | [] => rfl
  | p :: r => by
    rw [List.any_cons, lkI_cons, lkI_any k r]
    by_cases c : p.1 = k
    · rw [if_pos c, decide_eq_true c]; rfl
    · rw [if_neg c, decide_eq_false c]; rfl
theorem lkI_adI (ks : List KN) (e : KN) : lkI (adI ks e) = stL (lkI ks) e := by
  funext k
  unfold adI stL
  rw [lkI_any]
  cases c : lkI ks e.1 with
  | none =>
    rw [if_neg (by simp), lkI_app]
    by_cases c2 : k = e.1
    · rw [if_pos c2, if_pos c2.symm, c2, c, tI_lk, c]; rfl
    · rw [if_neg c2, if_neg (Ne.symm c2)]
      cases lkI ks k <;> rfl
  | some x =>
    rw [if_pos (by rfl), lkI_map]
    by_cases c2 : k = e.1
    · rw [if_pos c2, if_pos c2, c2, c, tI_lk, c]; rfl
    · rw [if_neg c2, if_neg c2]
theorem lkI_fold (es : List KN) : ∀ ks : List KN, lkI (es.foldl adI ks) = es.foldl stL (lkI ks) := by
  induction es with
  | nil => intro ks; rfl
  | cons e r ih => intro ks; rw [List.foldl_cons, List.foldl_cons, ih, lkI_adI]
theorem stL_comm (f : List L2.Key → Option Int) (a b : KN) : stL (stL f a) b = stL (stL f b) a := by
  funext k
  unfold stL
  by_cases c1 : k = b.1
  · by_cases c2 : k = a.1
    · rw [if_pos c1, if_pos c2, if_pos c2, if_pos c1]
      show some ((f k).getD 0 + a.2 + b.2) = some ((f k).getD 0 + b.2 + a.2)
      congr 1
      omega
    · rw [if_pos c1, if_neg c2, if_neg c2, if_pos c1]
  · by_cases c2 : k = a.1
    · rw [if_neg c1, if_pos c2, if_pos c2, if_neg c1]
    · rw [if_neg c1, if_neg c2, if_neg c2, if_neg c1]
theorem adIs_nd (es : List KN) : ∀ {ks : List KN}, NdK ks → NdK (es.foldl adI ks) := by
  induction es with
  | nil => exact fun h => h
  | cons e r ih => exact fun h => ih (adI_nd h e)
theorem adI_perm {es es' : List KN} (h : es.Perm es') : (es.foldl adI []).Perm (es'.foldl adI []) := by
  refine perm_lk (adIs_nd es List.nodup_nil) (adIs_nd es' List.nodup_nil) fun k => ?_
  rw [lkI_fold, lkI_fold]
  exact congrFun (h.foldl_eq' (fun x _ y _ z => stL_comm z x y) _) k
theorem adRs_flat (rows : List (Int × List ((Int × Int) × Int))) : ∀ ks : List KN, rows.foldl adR ks = (rows.flatMap fun r => vk r.1 r.2).foldl adI ks := by
  induction rows with
  | nil => intro ks; rfl
  | cons r rs ih => intro ks; rw [List.foldl_cons, ih, List.flatMap_cons, List.foldl_append]; rfl
theorem adIs_k3 (es : List KN) : ∀ {ks : List KN}, K3 ks → K3 es → K3 (es.foldl adI ks) := by
  induction es with
  | nil => exact fun h _ => h
  | cons e r ih => exact fun h h2 => ih (adI_k3 h (h2 e List.mem_cons_self)) fun x hx => h2 x (List.mem_cons_of_mem _ hx)
theorem k3_tri {k l : List L2.Key} (h1 : ∃ a b c : Int, k = [.inl a, .inl b, .inl c]) (h2 : ∃ a b c : Int, l = [.inl a, .inl b, .inl c]) (h3 : ¬ PySem.W.dataLt (keyD l) (keyD k) = true) (ne : k ≠ l) : PySem.W.dataLt (keyD k) (keyD l) = true := by
  obtain ⟨a, b, c, e1⟩ := h1
  obtain ⟨a', b', c', e2⟩ := h2
  rw [e1, e2] at h3 ne ⊢
  change ¬ PySem.W.dataLt (.tuple [.int a', .int b', .int c']) (.tuple [.int a, .int b, .int c]) = true at h3
  show PySem.W.dataLt (.tuple [.int a, .int b, .int c]) (.tuple [.int a', .int b', .int c']) = true
  rw [dl3] at h3 ⊢
  have h2 : ¬ (a = a' ∧ b = b' ∧ c = c') := fun ⟨w1, w2, w3⟩ => ne (by rw [w1, w2, w3])
  omega
theorem k3_asym {k l : List L2.Key} (h1 : ∃ a b c : Int, k = [.inl a, .inl b, .inl c]) (h2 : ∃ a b c : Int, l = [.inl a, .inl b, .inl c]) (h3 : PySem.W.dataLt (keyD l) (keyD k) = true) : ¬ PySem.W.dataLt (keyD k) (keyD l) = true := by
  obtain ⟨a, b, c, e1⟩ := h1
  obtain ⟨a', b', c', e2⟩ := h2
  rw [e1, e2] at h3 ⊢
  change PySem.W.dataLt (.tuple [.int a', .int b', .int c']) (.tuple [.int a, .int b, .int c]) = true at h3
  show ¬ PySem.W.dataLt (.tuple [.int a, .int b, .int c]) (.tuple [.int a', .int b', .int c']) = true
  rw [dl3] at h3 ⊢
  omega
theorem asc_keys {ts : List KN} : AscK ts ↔ (ts.map Prod.fst).Pairwise fun x y => PySem.W.dataLt (keyD x) (keyD y) = true := by
  rw [List.pairwise_map]
  rfl
/-- sums of sorted rows ascend -/
theorem asc_fold : ∀ (es : List KN) {ks : List KN}, K3 es → K3 ks → AscK ks → (es.Pairwise fun x y => ¬ PySem.W.dataLt (keyD y.1) (keyD x.1) = true) → (∀ k ∈ ks, ∀ e ∈ es, ¬ PySem.W.dataLt (keyD e.1) (keyD k.1) = true) → AscK (es.foldl adI ks)
  | [], _, _, _, h, _, _ => h
  | e :: r, ks, h3, k3, ha, hp, hb => by
    obtain ⟨p1, p2⟩ := List.pairwise_cons.mp hp
    have he := h3 e List.mem_cons_self
    refine asc_fold r (fun x hx => h3 x (List.mem_cons_of_mem _ hx)) (adI_k3 k3 he) ?_ p2 fun k hk x hx => ?_
    · rw [asc_keys, adI_keys]
      by_cases c : (ks.any fun kv => decide (kv.1 = e.1)) = true
      · rw [if_pos c]
        exact asc_keys.mp ha
      · rw [if_neg c, List.pairwise_append]
        refine ⟨asc_keys.mp ha, List.pairwise_singleton _ _, fun x hx y hy => ?_⟩
        rw [List.mem_singleton.mp hy]
        obtain ⟨z, hz, rfl⟩ := List.mem_map.mp hx
        exact k3_tri (k3 z hz) he (hb z hz e List.mem_cons_self) fun w => c (List.any_eq_true.mpr ⟨z, hz, decide_eq_true w⟩)
    · have : k.1 ∈ (adI ks e).map Prod.fst := List.mem_map.mpr ⟨k, hk, rfl⟩
      rw [adI_keys] at this
      have h2 : k.1 ∈ ks.map Prod.fst ∨ k.1 = e.1 := by
        split at this
        · exact .inl this
        · rcases List.mem_append.mp this with z | z
          · exact .inl z
          · exact .inr (List.mem_singleton.mp z)
      rcases h2 with z | z
      · obtain ⟨y, hy, ey⟩ := List.mem_map.mp z
        rw [← ey]
        exact hb y hy x (List.mem_cons_of_mem _ hx)
      · rw [z]
        exact p1 x hx
/-- two ascending lists of the same entries are equal -/
theorem asc_eq : ∀ {ts us : List KN}, K3 ts → AscK ts → AscK us → ts.Perm us → ts = us
  | [], us, _, _, _, h => (List.nil_perm.mp h).symm
  | t :: ts, [], _, _, _, h => nomatch (List.perm_nil.mp h)
  | t :: ts, u :: us, h3, ht, hu, h => by
    have e : t = u := by
      have m1 : t ∈ u :: us := h.mem_iff.mp List.mem_cons_self
      have m2 : u ∈ t :: ts := h.mem_iff.mpr List.mem_cons_self
      rcases List.mem_cons.mp m1 with z | z
      · exact z
      · rcases List.mem_cons.mp m2 with w | w
        · exact w.symm
        · exact absurd ((List.pairwise_cons.mp hu).1 t z) (k3_asym (h3 u m2) (h3 t List.mem_cons_self) ((List.pairwise_cons.mp ht).1 u w))
    subst e
    rw [asc_eq (fun x hx => h3 x (List.mem_cons_of_mem _ hx)) (List.pairwise_cons.mp ht).2 (List.pairwise_cons.mp hu).2 ((List.perm_cons _).mp h)]
/-! rows as data -/
def rwD (e : KN) : PyData := .tuple [keyD e.1, .int e.2]
theorem dl4 {a b c n a' b' c' n' : Int} (h : PySem.W.dataLt (.tuple [.int a, .int b, .int c]) (.tuple [.int a', .int b', .int c']) = true) : PySem.W.dataLt (.tuple [.tuple [.int a, .int b, .int c], .int n]) (.tuple [.tuple [.int a', .int b', .int c'], .int n']) = true := by
  rw [dl3] at h
  rw [PySem.W.dataLt_tuple]
  simp only [PySem.W.keyToksAll, PySem.W.keyToks, List.cons_append, List.nil_append, PyProof.Rows.lexLt, PyProof.Rows.itemLt, Bool.or_eq_true, Bool.and_eq_true, Bool.not_eq_true', decide_eq_true_eq, decide_eq_false_iff_not, Int.lt_irrefl, false_or, not_false_eq_true, true_and, Bool.false_eq_true, and_false, or_false]
  omega
theorem rw_lt {e e' : KN} (h : ∃ a b c : Int, e.1 = [.inl a, .inl b, .inl c]) (h' : ∃ a b c : Int, e'.1 = [.inl a, .inl b, .inl c]) (z : ¬ PySem.W.dataLt (rwD e) (rwD e') = true) : ¬ PySem.W.dataLt (keyD e.1) (keyD e'.1) = true := by
  obtain ⟨a, b, c, e1⟩ := h
  obtain ⟨a', b', c', e2⟩ := h'
  intro w
  refine z ?_
  unfold rwD
  rw [e1, e2] at w ⊢
  exact dl4 w
theorem rw_alike {es : List KN} (h : K3 es) : PySem.W.AllAlike (es.map rwD) := fun d hd d' hd' => by
  obtain ⟨x, hx, rfl⟩ := List.mem_map.mp hd
  obtain ⟨y, hy, rfl⟩ := List.mem_map.mp hd'
  obtain ⟨a, b, c, e1⟩ := h x hx
  obtain ⟨a', b', c', e2⟩ := h y hy
  unfold rwD
  rw [e1, e2]
  simp [PySem.W.alike, PySem.W.alikeAll, keyD, kD]
theorem rw_sortable {es : List KN} : PySem.W.Sortable (es.map rwD) := .inl fun d hd => by
  obtain ⟨x, hx, rfl⟩ := List.mem_map.mp hd
  exact ⟨_, _, rfl⟩
theorem rw_depth {e : KN} (h : ∃ a b c : Int, e.1 = [.inl a, .inl b, .inl c]) : (rwD e).depth ≤ 60 := by
  obtain ⟨a, b, c, e1⟩ := h
  unfold rwD
  rw [e1]
  simp [PyData.depth, PyData.depthAll, keyD, kD]
end Pk
set_option Elab.async false
set_option linter.all false
set_option maxRecDepth 100000
set_option maxHeartbeats 4000000
/-! as Gd, and sys.modules stands in the base; no row -/
namespace Pk
open PySem PySem.Spec PyProof.Rows L2
theorem law_callGS {P : Program} {w : World} {K : PySem.W.Frag} {mg mb : Str → Option Value} {CX : CXT} {k : Nat} {fa a : Addr} {fd : FuncData} {x : Str} {sp : Sp} {s₁ : Shared} {vs : List Value} {ns : List Int}
    (KX : K.In s₁.heap) (hns : s₁.heap.Ns mainGlobals mg) (hb : s₁.heap.Ns builtinsNs mb) (hbb : ∀ (x : Str), x ≠ Str.ofString "__name__" → mb x = bootBuiltins x) (hlim : s₁.heap.NoLimit) (hg : s₁.gens = #[])
    (ha : s₁.heap.get? a = some { cls := Value.type "list", data := Data.seq vs.toArray }) (hi : IntsAre vs ns) (hl : ns.length ≤ sizeLine) (hr : Room k callerA)
    (hth : ∃ mm, s₁.heap.Ns sysModules mm)
    (F : ∀ (base : Heap), K.In base → base.Ns mainGlobals mg → (∃ mm, base.Ns sysModules mm) → FnG P w K mg base CX k fa fd [x] sp)
    (hbind : ∀ (s : Shared) (u : Value), BindsTo s fd { pos := [u] } [(x, u)])
    (hsp : ∀ (H : Hp), Only H → SqL K H a (List.map V.int ns) → sp [V.ref a] H (fun v x => v = V.bl true) fun x x_1 x_2 => False)
    (hCX : ∀ (H : Hp) (e : Value) (s' : Shared), CX [] H s₁ (fun x x_1 x_2 => False) e s' → False) :
    codeAny (model P w) callerA (Code.call (Value.ref fa) { pos := [Value.ref a] }) (fun r s' => r = Except.ok (Flow.ret (Value.bool true)) ∧ OldK s₁.heap s'.heap ∧ s'.os = s₁.os ∧ AllBare s'.gens) s₁ := by
  have rv := vals_ints hi
  have lenV := IntsAre.length hi
  have core : ∀ H : Hp, Only H → SqL K H a (List.map V.int ns) → HOk P w H s₁.heap → (∀ b, H b ≠ none → b = a) → (H a ≠ none → List.lookup a K = none) →
      codeAny (model P w) callerA (Code.call (Value.ref fa) { pos := [Value.ref a] }) (fun r s' => r = Except.ok (Flow.ret (Value.bool true)) ∧ OldK s₁.heap s'.heap ∧ s'.os = s₁.os ∧ AllBare s'.gens) s₁ := by
    intro H hO hS hok hA hK
    have base_of : ∀ {b : Addr} {o : Obj}, s₁.heap.get? b = some o → H b = none → (hidT s₁.heap H).get? b = some o := fun e n => hidT_get e n
    have noA : ∀ {b : Addr} {o : Obj} {es : Array DictEntry} {ep : Nat}, s₁.heap.get? b = some o → o.data = Data.dict es ep → H b = none := by
      intro b o es ep e d
      cases q : H b with
      | none => rfl
      | some u =>
        have e' := hA b (by rw [q]; exact fun z => nomatch z)
        subst e'
        rw [ha] at e
        cases e
        cases d
    have nsK : ∀ {b : Addr} {m : Str → Option Value}, s₁.heap.Ns b m → (hidT s₁.heap H).Ns b m := by
      intro b m x
      obtain ⟨o, es, ep, e, d, r⟩ := x
      exact ⟨o, es, ep, base_of e (noA e d), d, r⟩
    have hKb : K.In (hidT s₁.heap H) := fun b o e => base_of (KX b o e) (by
      cases q : H b with
      | none => rfl
      | some u =>
        have n0 : H b ≠ none := by rw [q]; exact fun z => nomatch z
        have e' := hA b n0
        subst e'
        have := hK n0
        rw [this] at e
        cases e)
    have hM : L2.Mod K mg (hidT s₁.heap H) := { kin := hKb, glob := nsK hns, blt := ⟨mb, nsK hb, hbb⟩, nolimit := (match hlim with | ⟨mc, h1, h2⟩ => ⟨mc, nsK h1, h2⟩) }
    have e0 : Env0 P w K mg (hidT s₁.heap H) callerA [] s₁ H := { frames := rfl, mod := hM, bs := fun b o e => of_hidT e, bsz := Nat.le_of_eq (hidT_size s₁.heap H), funs := trivial, frf := fun b hb => absurd hb List.not_mem_nil, hok := hok, bare := AllBare.of_eq hg }
    refine codeAny_mono ((F (hidT s₁.heap H) hKb (nsK hns) (let ⟨mm, n1⟩ := hth; ⟨mm, nsK n1⟩)).run callerA [] s₁ H { pos := [Value.ref a] } [Value.ref a] [V.ref a] (fun v x => v = V.bl true) (fun x x_1 x_2 => False) rfl hr e0 (hbind s₁ (Value.ref a)) (Paired.cons rfl Paired.nil) (hsp H hO hS)) fun r s' h => ?_
    cases r with
    | error e => exact (hCX H e s' h).elim
    | ok fl =>
      cases fl with
      | ret u =>
        obtain ⟨v, H', os, bare, un, hok', r', q⟩ := h
        subst q
        obtain rfl := r'
        refine ⟨rfl, OldK.of_keep fun b o e => ?_, os, bare⟩
        cases q : H b with
        | none => exact un.keep b o e q (fun z => absurd z List.not_mem_nil) List.not_mem_nil
        | some u =>
          rcases hO b with z | ⟨ob, xs, z⟩
          · rw [q] at z
            cases z
          · have z2 := un.frzs b ob (HO.lst xs) z
            have e1 := (hok b _ z).1
            have e2 := (hok' b _ z2).1
            rw [e] at e1
            cases e1
            exact e2
      | _ => exact (h : False).elim
  cases hk : List.lookup a K with
  | none =>
    refine core (fun b => if b = a then some (HO.frz { cls := Value.type "list", data := Data.seq vs.toArray } (HO.lst (List.map V.int ns))) else none) (fun b => ?_) (.inl (.inr ⟨_, if_pos rfl⟩)) (fun b u z => ?_) (fun b z => ?_) fun _ => hk
    · by_cases hb : b = a
      · exact .inr ⟨_, _, if_pos hb⟩
      · exact .inl (if_neg hb)
    · by_cases hb : b = a
      · subst hb
        dsimp only at z
        rw [if_pos rfl] at z
        cases z
        exact ⟨ha, by rw [List.length_map]; exact hl, vs, 0, rv, ha⟩
      · dsimp only at z
        rw [if_neg hb] at z
        cases z
    · by_cases hb : b = a
      · exact hb
      · exact absurd (if_neg hb) z
  | some o =>
    have e := KX a o hk
    rw [ha] at e
    cases e
    refine core (fun _ => none) (fun _ => .inl rfl) (.inr ⟨_, vs.toArray, 0, hk, rfl, rfl, rfl, ?_, rv⟩) (fun b u z => by cases z) (fun b z => absurd rfl z) fun z => absurd rfl z
    rw [List.size_toArray, lenV]
    exact hl
theorem walk_ofGS {l : PySem.W.OpenLaw} {n k : Nat} {q : Program} {loose : List Str} {XP : (Str → Option Value) → Heap → Prop} {YP : World → Heap → Prop} {d : DefRec} {K : Params → PySem.W.Frag} {CX : World → CXT} {sp : World → Sp} {x : Str}
    (hseer : importsNone q = true) (hn : l.most = some n) (hn2 : n ≤ sizeLine) (hdf : d.params.defaults = []) (hr : Room k callerA) (hY : ∀ (w : World) (h : Heap), YP w h → (K w.params).In h)
    (F : ∀ (w : World) (mg : Str → Option Value) (fa : Addr) (h : Heap), (K w.params).In h → h.Ns mainGlobals mg → mg d.name = some (Value.ref fa) →
      ∃ fd, (∀ (s : Shared) (u : Value), BindsTo s fd { pos := [u] } [(x, u)]) ∧ ∀ (base : Heap), (K w.params).In base → base.Ns mainGlobals mg → (∃ mm, base.Ns sysModules mm) → FnG l.prog w (K w.params) mg base (CX w) k fa fd [x] (sp w))
    (hsp : ∀ (w : World) (H : Hp) (a : Addr) (ns : List Int), ns.length ≤ n → Only H → SqL (K w.params) H a (List.map V.int ns) → sp w [V.ref a] H (fun v x => v = V.bl true) fun x x_1 x_2 => False)
    (hCX : ∀ (w : World) (H : Hp) (s : Shared) (e : Value) (s' : Shared), CX w [] H s (fun x x_1 x_2 => False) e s' → False) :
    PySem.W.WalkO q loose XP YP l.row.toRowW d [] fun f vs => call f vs :=
  Att.attach_call hn hdf fun w s₀ s₁ mg mb fa o pm cd doc a vs ns G Y ho hd hcd hmg hobj hints hlen hg => by
    have KX := hY w s₁.heap Y
    obtain ⟨fd, hb, hF⟩ := F w mg fa s₁.heap KX G.T.g hmg
    exact law_callGS KX G.T.g G.T.b G.T.builtins G.T.nolimit hg hobj hints (Nat.le_trans hlen hn2) hr (let ⟨mm, n1, _⟩ := (G.T.seer hseer).mods; ⟨mm, n1⟩) hF hb (fun H hO hS => hsp w H a ns hlen hO hS) fun H e s' => hCX w H s₁ e s'
end Pk
set_option Elab.async false
set_option linter.all false
set_option maxRecDepth 100000
set_option maxHeartbeats 4000000
/-! k24: rows, texts of counts -/
namespace Pk
open PySem PySem.Spec PyProof.Rows L2 SX GxR Tk
/-- tuples stand -/
def TpK (H H' : Hp) : Prop := ∀ b xs, H b = some (.tup xs) → H' b = some (.tup xs)
theorem TpK.refl (H : Hp) : TpK H H := fun _ _ e => e
theorem TpK.trans {H H1 H2 : Hp} (a : TpK H H1) (b : TpK H1 H2) : TpK H H2 := fun x o e => b _ _ (a _ _ e)
theorem TpK.same {H H1 : Hp} (a : Same H H1) : TpK H H1 := fun x o e => a _ _ e
theorem TpK.kp {s c : Addr} {H H1 : Hp} (st : StAt H s c) (a : Kp s c H H1) : TpK H H1 := fun x o e => by
  obtain ⟨cells, seed, h1, h2, _⟩ := st
  refine a x _ (fun z => ?_) (fun z => ?_) e
  · rw [z, h1] at e; cases e
  · rw [z, h2] at e; cases e
theorem TpK.upd {H : Hp} {p : Addr} {o : HO} (h : ∀ xs, H p ≠ some (.tup xs)) : TpK H (L2.upd H p o) := fun x xs e => by
  rw [upd_ne (fun z => h xs (by rw [← z]; exact e))]
  exact e
/-- a row: (key, n) -/
def RwR (H : Hp) (y : V) (e : KN) : Prop := ∃ t t2, y = .ref t ∧ H t = some (.tup [.ref t2, .int e.2]) ∧ H t2 = some (.tup (e.1.map kV))
theorem RwR.keep {H H' : Hp} {y : V} {e : KN} (h : RwR H y e) (k : TpK H H') : RwR H' y e := by
  obtain ⟨t, t2, h1, h2, h3⟩ := h
  exact ⟨t, t2, h1, k _ _ h2, k _ _ h3⟩
theorem paired_mono {α β : Type} {R S : α → β → Prop} (k : ∀ a b, R a b → S a b) : ∀ {xs : List α} {bs : List β}, Paired R xs bs → Paired S xs bs
  | [], _, .nil => .nil
  | _ :: _, _, .cons h r => .cons (k _ _ h) (paired_mono k r)
theorem rws_keep {H H' : Hp} {ys : List V} {es : List KN} (h : Paired (RwR H) ys es) (k : TpK H H') : Paired (RwR H') ys es := paired_mono (fun _ _ r => r.keep k) h
theorem RwR.dp {K : PySem.W.Frag} {H : Hp} {y : V} {e : KN} (h : RwR H y e) : Dp K H y (rwD e) := by
  obtain ⟨t, t2, rfl, h2, h3⟩ := h
  exact .tup (.inl (.inl h2)) (.cons (dp_key h3) (.cons (.int _) .nil))
theorem paired_app {α β : Type} {R : α → β → Prop} : ∀ {xs ys : List α} {as bs : List β}, Paired R xs as → Paired R ys bs → Paired R (xs ++ ys) (as ++ bs)
  | [], _, _, _, .nil, h => h
  | _ :: _, _, _ :: _, _, .cons h r, h2 => .cons h (paired_app r h2)
/-! texts -/
theorem Ft.dict {kvs : List (PyData × PyData)} {b k : Nat} : ∀ {n : Nat}, (∀ p ∈ kvs, Ft p.1 b k ∧ Ft p.2 b k) → kvs.length ≤ n → Ft (.dict kvs) ((2 * b + 2) * n) (k + 1) := by
  intro n h hn
  suffices g : PyData.showableKv kvs = true ∧ PyData.leavesShortKv 100 kvs = true ∧ PyData.bulkKv kvs ≤ (2 * b + 2) * n ∧ PyData.depthKv kvs ≤ k from ⟨g.1, g.2.1, g.2.2.1, Nat.succ_le_succ g.2.2.2⟩
  induction kvs generalizing n with
  | nil => exact ⟨rfl, rfl, Nat.zero_le _, Nat.zero_le _⟩
  | cons p r ih =>
    cases n with
    | zero => exact absurd hn (Nat.not_succ_le_zero _)
    | succ n =>
      obtain ⟨x, y⟩ := p
      obtain ⟨h1, h2⟩ := h _ List.mem_cons_self
      obtain ⟨g1, g2, g3, g4⟩ := ih (n := n) (fun p hp => h p (List.mem_cons_of_mem _ hp)) (Nat.le_of_succ_le_succ hn)
      refine ⟨?_, ?_, ?_, ?_⟩
      · show (x.showable && y.showable && PyData.showableKv r) = true
        rw [h1.sh, h2.sh, g1]; rfl
      · show (PyData.leavesShort 100 x && PyData.leavesShort 100 y && PyData.leavesShortKv 100 r) = true
        rw [h1.lf, h2.lf, g2]; rfl
      · show x.bulk + y.bulk + 2 + PyData.bulkKv r ≤ _
        have a1 := h1.bk
        have a2 := h2.bk
        rw [Nat.mul_succ]
        dsimp only at a1 a2
        omega
      · show max (max x.depth y.depth) (PyData.depthKv r) ≤ k
        have a1 := h1.dp
        have a2 := h2.dp
        dsimp only at a1 a2
        omega
theorem ck_ft {cs : List ((Int × Int) × Int)} (h : CtB cs) (hl : cs.length ≤ 4) : Ft (dcD (ck cs)) 40 2 := by
  unfold dcD ck
  rw [List.map_map]
  refine (Ft.dict (b := 4) (k := 1) (n := 4) (fun p hp => ?_) (by rw [List.length_map]; exact hl)).up (by decide) (by decide)
  obtain ⟨e, he, rfl⟩ := List.mem_map.mp hp
  obtain ⟨h1, h2, h3, h4, h5, h6⟩ := h.2 e he
  refine ⟨?_, ?_⟩
  · refine Ft.up (Ft.tup (FtA.cons (Ft.int (n := e.1.1) ⟨by omega, by omega⟩) (FtA.cons (Ft.int (n := e.1.2) ⟨by omega, by omega⟩) FtA.nil))) (by decide) (by decide)
  · exact Ft.up (Ft.int (n := e.2) ⟨by omega, by omega⟩) (by decide) (by decide)
/-- others, as a text -/
theorem ot_ft {rows : List (Int × List ((Int × Int) × Int))} (h : ∀ r ∈ rows, (0 ≤ r.1 ∧ r.1 < 4) ∧ CtB r.2 ∧ r.2.length ≤ 4) (hl : rows.length ≤ 5) :
    Ft (.list ((rows.map fun r => (r.1, ck r.2)).map fun r => .tuple [.int r.1, dcD r.2])) 300 4 := by
  rw [List.map_map]
  refine (Ft.lst (FtA.map (b := 50) (k := 3) (n := 5) (fun r hr => ?_) hl)).up (by decide) (by decide)
  obtain ⟨⟨h1, h2⟩, h3, h4⟩ := h r hr
  exact Ft.up (Ft.tup (FtA.cons (Ft.int (n := r.1) ⟨by omega, by omega⟩) (FtA.cons (ck_ft h3 h4) FtA.nil))) (by decide) (by decide)
/-! the comprehension over counts -/
def tCmp (K : PySem.W.Frag) : TE := tLockE (tLc (iKeys (tVar 6)) (gName 8) tYes (tTup (tCons (tTup (tCons (tVar 5) (tCons (tOp (rIxT K) (tVar 8) (tC (.int 0))) (tCons (tOp (rIxT K) (tVar 8) (tC (.int 1))) tNil)))) (tCons (tDGet (tVar 6) (tVar 8)) tNil))) [8])
theorem ck_nd {cs : List ((Int × Int) × Int)} (h : CtB cs) : NdK (ck cs) := by
  unfold NdK ck
  rw [List.map_map]
  have : (Prod.fst ∘ fun e : (Int × Int) × Int => (([.inl e.1.1, .inl e.1.2] : List L2.Key), e.2)) = (fun p : Int × Int => ([.inl p.1, .inl p.2] : List L2.Key)) ∘ Prod.fst := rfl
  rw [this, ← List.map_map]
  refine List.pairwise_map.mpr (h.1.imp fun {a b} n z => n ?_)
  injection z with z1 z2
  injection z2 with z2 _
  exact Prod.ext (Sum.inl.inj z1) (Sum.inl.inj z2)
theorem cmp_rd {K : PySem.W.Frag} {x0 x1 x2 x3 x4 x7 x8 x9 x10 x11 x12 x13 x14 x15 : Option V} {H : Hp} {Q : VK} {c : Addr} {v : Int} {cs : List ((Int × Int) × Int)} (hc : H c = some (.dT (kvI (ck cs)))) (hl : cs.length ≤ 4) (hb : CtB cs)
    (q : ∀ (D : Addr) (H' : Hp) (ys : List V), Same H H' → H D = none → H' D = some (.lst ys) → Paired (RwR H') ys (vk v cs) → Q (.ref D) H') : tCmp K [x0, x1, x2, x3, x4, some (.int v), some (.ref c), x7, x8, x9, x10, x11, x12, x13, x14, x15] H Q := by
  unfold tCmp
  refine ⟨c, .dT (kvI (ck cs)), hc, trivial, fun od => ?_⟩
  have hc1 : (upd H c (.frz od (.dT (kvI (ck cs))))) c = some (.frz od (.dT (kvI (ck cs)))) := upd_same
  have k1 : ∀ b o, b ≠ c → H b = some o → (upd H c (.frz od (.dT (kvI (ck cs))))) b = some o := fun b o n e => by
    rw [upd_ne n]
    exact e
  have f1 : ∀ b, (upd H c (.frz od (.dT (kvI (ck cs))))) b = none → H b = none := fun b e => by
    by_cases z : b = c
    · rw [z, upd_same] at e
      cases e
    · rw [upd_ne z] at e
      exact e
  generalize upd H c (.frz od (.dT (kvI (ck cs)))) = H1 at hc1 k1 f1 ⊢
  refine ⟨_, rfl, c, od, rfl, .inr ⟨kvI (ck cs), hc1, fun D hD => lc_it (walk_keysT (d := c) (o := od) (kvs := kvI (ck cs))) (fun i H5 => Same H1 H5 ∧ ∃ ys, H5 D = some (.lst ys) ∧ ys.length = i ∧ Paired (RwR H5) ys ((vk v cs).take i)) ⟨same_new hD, [], upd_same, rfl, .nil⟩ (fun i H5 _ h => h.1 _ _ hc1) ?_ ?_⟩⟩
  · rintro i x H5 H6 hi ⟨s5, ys, e5, hy, hp⟩ ⟨rfl, kk, y, q2, ek, rfl, eq⟩
    obtain ⟨e, he, rfl, rfl⟩ : ∃ e, cs[i]? = some e ∧ kk = [.inl e.1.1, .inl e.1.2] ∧ y = V.int e.2 := by
      unfold kvI ck at ek
      rw [List.map_map, List.getElem?_map] at ek
      obtain ⟨e, h1, h2⟩ := Option.map_eq_some_iff.mp ek
      cases h2
      exact ⟨e, h1, rfl, rfl⟩
    have eq5 : H6 q2 = some (.tup [.int e.1.1, .int e.1.2]) := eq
    refine ⟨rfl, _, rfl, _, rfl, q2, [.int e.1.1, .int e.1.2], 0, .int e.1.1, rfl, rfl, .inl (.inl eq5), rfl, _, rfl, q2, [.int e.1.1, .int e.1.2], 1, .int e.1.2, rfl, rfl, .inl (.inl eq5), rfl, ?_⟩
    refine ⟨by show 3 ≤ sizeLine; decide, fun t2 ht2 => ?_⟩
    have s6 := same_new (o := .tup [.int v, .int e.1.1, .int e.1.2]) ht2
    have e6 : (upd H6 t2 (.tup [.int v, .int e.1.1, .int e.1.2])) t2 = some (.tup [.int v, .int e.1.1, .int e.1.2]) := upd_same
    generalize upd H6 t2 (.tup [.int v, .int e.1.1, .int e.1.2]) = H7 at s6 e6 ⊢
    have c7 := s6 _ _ (s5 _ _ hc1)
    refine ⟨_, rfl, _, rfl, c, .int e.2, rfl, .inr ⟨kvI (ck cs), [.inl e.1.1, .inl e.1.2], q2, .inr ⟨od, c7⟩, rfl, s6 _ _ eq, (val_nd (ck_nd hb) (e := ([.inl e.1.1, .inl e.1.2], e.2)) (List.mem_map.mpr ⟨e, List.mem_of_getElem? he, rfl⟩)).symm⟩, ?_⟩
    refine ⟨by show 2 ≤ sizeLine; decide, fun t ht => ?_⟩
    have s7 := same_new (o := .tup [.ref t2, .int e.2]) ht
    have e7 : (upd H7 t (.tup [.ref t2, .int e.2])) t = some (.tup [.ref t2, .int e.2]) := upd_same
    generalize upd H7 t (.tup [.ref t2, .int e.2]) = H8 at s7 e7 ⊢
    have s8 := (s5.trans s6).trans s7
    have e8 := s7 _ _ (s6 _ _ e5)
    have tk : TpK H8 (upd H8 D (.lst (ys ++ [.ref t]))) := TpK.upd fun xs z => by
      rw [e8] at z
      cases z
    refine ⟨ys, e8, small1000 (by rw [kvI, ck, List.length_map, List.length_map] at hi; omega), same_set s8 hD, ys ++ [.ref t], upd_same, by rw [List.length_append, hy]; rfl, ?_⟩
    have h1 : (vk v cs)[i]? = some ([.inl v, .inl e.1.1, .inl e.1.2], e.2) := by
      rw [vk, List.getElem?_map, he]
      rfl
    rw [List.take_add_one, h1]
    exact paired_app (rws_keep hp (((TpK.same s6).trans (TpK.same s7)).trans tk)) (.cons ⟨t, t2, rfl, tk _ _ e7, tk _ _ (s7 _ _ e6)⟩ .nil)
  · rintro H5 ⟨s5, ys, e5, hy, hp⟩
    rw [show (kvI (ck cs)).length = (vk v cs).length by simp [kvI, ck, vk], List.take_length] at hp
    have hcd : c ≠ D := fun z => by rw [← z, hc1] at hD; cases hD
    have sH : Same H (upd H5 c (.dT (kvI (ck cs)))) := fun b o e => by
      by_cases z : b = c
      · subst z
        rw [hc] at e
        rw [upd_same]
        exact e
      · rw [upd_ne z]
        exact s5 _ _ (k1 _ _ z e)
    refine ⟨s5 _ _ hc1, q D _ ys sH (f1 _ hD) (by rw [upd_ne (Ne.symm hcd)]; exact e5) (rws_keep hp (TpK.upd fun xs z => ?_))⟩
    rw [s5 _ _ hc1] at z
    cases z
end Pk
set_option Elab.async false
set_option linter.all false
set_option maxRecDepth 100000
set_option maxHeartbeats 4000000
/-! written data: displays of displays, in one step; no row -/
namespace Pk
open PySem PySem.Spec PyProof.Rows L2
theorem StAt.neS {H : Hp} {s c p : Addr} (h : StAt H s c) (hp : H p = none) : p ≠ s ∧ p ≠ c := by
  obtain ⟨cells, seed, h1, h2, _⟩ := h
  exact ⟨Ne.symm (ne_of_none h1 hp), Ne.symm (ne_of_none h2 hp)⟩
/-- a part G that stands, beside the drawing state -/
structure Sg (G H : Hp) (s c : Addr) : Prop where
  sub : Same G H
  st : StAt H s c
  gs : G s = none
  gc : G c = none
theorem Sg.new {G H : Hp} {s c p : Addr} {o : HO} (C : Sg G H s c) (hp : H p = none) : Sg (upd G p o) (upd H p o) s c :=
  ⟨fun b u h => by
    by_cases hb : b = p
    · rw [hb, upd_same] at h
      rw [hb, upd_same]
      exact h
    · rw [upd_ne hb] at h
      rw [upd_ne hb]
      exact C.sub _ _ h, C.st.new hp, by rw [upd_ne (Ne.symm (C.st.neS hp).1)]; exact C.gs, by rw [upd_ne (Ne.symm (C.st.neS hp).2)]; exact C.gc⟩
theorem same_kp {G H H' : Hp} {s c : Addr} (h : Same G H) (gs : G s = none) (gc : G c = none) (k : Kp s c H H') : Same G H' := fun b o e => k b o (ne_of_none e gs) (ne_of_none e gc) (h b o e)
theorem Sg.kp {G H H' : Hp} {s c : Addr} (C : Sg G H s c) (k : Kp s c H H') (st : StAt H' s c) : Sg G H' s c := ⟨same_kp C.sub C.gs C.gc k, st, C.gs, C.gc⟩
theorem Sg.same {G H H' : Hp} {s c : Addr} (C : Sg G H s c) (k : Same H H') : Sg G H' s c := ⟨C.sub.trans k, C.st.same k, C.gs, C.gc⟩
theorem Sg.set {G H : Hp} {s c p : Addr} {o : HO} (C : Sg G H s c) (h : G p = none) (n : p ≠ s ∧ p ≠ c) : Sg G (upd H p o) s c := ⟨same_set C.sub h, C.st.upd n.1 n.2, C.gs, C.gc⟩
theorem Sg.frz {G H : Hp} {s c p : Addr} {o : HO} (C : Sg G H s c) (h : H p = some o) (n : p ≠ s ∧ p ≠ c) : Sg (upd G p o) H s c := ⟨same_upd C.sub h, C.st, by rw [upd_ne (Ne.symm n.1)]; exact C.gs, by rw [upd_ne (Ne.symm n.2)]; exact C.gc⟩
/-- te gives the data d from the part G0 -/
def DE (K : PySem.W.Frag) (σ : L2.St) (G0 : Hp) (te : TE) (d : PyData) : Prop := ∀ (G H : Hp) (s c : Addr) (Q : VK), Same G0 G → Sg G H s c → (∀ v G' H', Sg G' H' s c → Gr G G' H → Same H H' → Dp K G' v d → Q v H') → te σ H Q
def DEs (K : PySem.W.Frag) (σ : L2.St) (G0 : Hp) (ta : TA) (ds : List PyData) : Prop := ∀ (G H : Hp) (s c : Addr) (Q : List V → Hp → Prop), Same G0 G → Sg G H s c → (∀ vs G' H', Sg G' H' s c → Gr G G' H → Same H H' → DpAll K G' vs ds → Q vs H') → ta σ H Q
section
variable {K : PySem.W.Frag} {σ : L2.St} {G0 : Hp}
theorem DE.int (i : Int) : DE K σ G0 (tC (.int i)) (.int i) := fun G H s c Q _ C q => q _ G H C (Gr.refl _ _) (Same.refl _) (.int i)
theorem DE.str (x : Str) : DE K σ G0 (tC (.str x)) (.str x) := fun G H s c Q _ C q => q _ G H C (Gr.refl _ _) (Same.refl _) (.str x)
theorem DE.non : DE K σ G0 (tC .non) .none := fun G H s c Q _ C q => q _ G H C (Gr.refl _ _) (Same.refl _) .non
theorem DE.var {i : Nat} {v : V} {d : PyData} (h : σ[i]? = some (some v)) (hd : Dp K G0 v d) : DE K σ G0 (tVar i) d := fun G H s c Q g C q => ⟨v, h, q _ G H C (Gr.refl _ _) (Same.refl _) (dp_sub g hd)⟩
theorem DEs.nil : DEs K σ G0 tNil [] := fun G H s c Q _ C q => q _ G H C (Gr.refl _ _) (Same.refl _) .nil
theorem DEs.cons {te : TE} {ta : TA} {d : PyData} {ds : List PyData} (h : DE K σ G0 te d) (r : DEs K σ G0 ta ds) : DEs K σ G0 (tCons te ta) (d :: ds) := fun G H s c Q g C q =>
  h G H s c _ g C fun v G1 H1 C1 s1 t1 hd => r G1 H1 s c _ (g.trans s1.sub) C1 fun vs G2 H2 C2 s2 t2 hds => q _ G2 H2 C2 (s1.trans s2 (same_none t1)) (t1.trans t2) (.cons (dp_sub s2.sub hd) hds)
theorem DE.lst {ta : TA} {ds : List PyData} (h : DEs K σ G0 ta ds) (hl : ds.length ≤ 1000) : DE K σ G0 (tLst ta) (.list ds) := fun G H s c Q g C q =>
  h G H s c _ g C fun vs G1 H1 C1 s1 t1 hds => ⟨Nat.le_of_lt (small1000 (by rw [dpAll_len hds]; exact hl)), fun p hp => q _ _ _ (C1.new hp) (s1.put (t1.free hp) (C1.sub.free hp)) (t1.trans (same_new hp)) (.lst (SqL.of upd_same) (dpAll_sub (same_new2 (C1.sub.free hp)) hds))⟩
theorem DE.tup {ta : TA} {ds : List PyData} (h : DEs K σ G0 ta ds) (hl : ds.length ≤ 1000) : DE K σ G0 (tTup ta) (.tuple ds) := fun G H s c Q g C q =>
  h G H s c _ g C fun vs G1 H1 C1 s1 t1 hds => ⟨Nat.le_of_lt (small1000 (by rw [dpAll_len hds]; exact hl)), fun p hp => q _ _ _ (C1.new hp) (s1.put (t1.free hp) (C1.sub.free hp)) (t1.trans (same_new hp)) (.tup (SqT.of upd_same) (dpAll_sub (same_new2 (C1.sub.free hp)) hds))⟩
/-- x = DATA; rest -/
theorem set_rd {te : TE} {d : PyData} {g : TG} {rest : TS} {D : Ends} {G H : Hp} {s c : Addr} (h : DE K σ G te d) (C : Sg G H s c) (q : ∀ v G' H', Sg G' H' s c → Gr G G' H → Same H H' → Dp K G' v d → g v σ H' (fun σ2 H2 => rest D σ2 H2)) : tSeq (tAsg te g) rest D σ H := by
  unfold tSeq tAsg
  exact h G H s c (fun v H1 => g v σ H1 fun σ2 H2 => rest D σ2 H2) (Same.refl _) C q
theorem setlst_rd {ta : TA} {ds : List PyData} {g : TG} {rest : TS} {D : Ends} {G H : Hp} {s c : Addr} (h : DEs K σ G ta ds) (C : Sg G H s c) (hl : ds.length ≤ 1000)
    (q : ∀ p vs G' H', Sg G' H' s c → Gr G G' H → Same H H' → G' p = some (.lst vs) → DpAll K G' vs ds → g (.ref p) σ H' (fun σ2 H2 => rest D σ2 H2)) : tSeq (tAsg (tLst ta) g) rest D σ H := by
  unfold tSeq tAsg
  exact h G H s c _ (Same.refl _) C fun vs G1 H1 C1 s1 t1 hds => ⟨Nat.le_of_lt (small1000 (by rw [dpAll_len hds]; exact hl)), fun p hp => q _ _ _ _ (C1.new hp) (s1.put (t1.free hp) (C1.sub.free hp)) (t1.trans (same_new hp)) upd_same (dpAll_sub (same_new2 (C1.sub.free hp)) hds)⟩
/-- x = []; rest -/
theorem setnil_rd {g : TG} {rest : TS} {D : Ends} {H : Hp} (q : ∀ p H', H p = none → Same H H' → H' p = some (.lst []) → g (.ref p) σ H' (fun σ2 H2 => rest D σ2 H2)) : tSeq (tAsg (tLst tNil) g) rest D σ H := by
  unfold tSeq tAsg
  exact ⟨Nat.zero_le _, fun p hp => q p _ hp (same_new hp) upd_same⟩
/-- x = e; rest, the rest by its name -/
theorem setany_rd {te : TE} {g : TG} {rest : TS} {D : Ends} {H : Hp} (q : te σ H fun x H1 => g x σ H1 fun σ2 H2 => rest D σ2 H2) : tSeq (tAsg te g) rest D σ H := q
/-- return DATA -/
theorem ret_rd {te : TE} {d : PyData} {D : Ends} {G H : Hp} {s c : Addr} (h : DE K σ G te d) (C : Sg G H s c) (q : ∀ v G' H', Sg G' H' s c → Gr G G' H → Same H H' → Dp K G' v d → D.rt v H') : tRet te D σ H := by
  unfold tRet
  exact h G H s c D.rt (Same.refl _) C q
theorem setpick_rd {ta : TA} {ds : List PyData} {g : TG} {rest : TS} {D : Ends} {G H : Hp} {s c : Addr} (h0 : σ[0]? = some (some (.ref s))) (h : DEs K σ G ta ds) (C : Sg G H s c) (hl : 0 < ds.length) (hl2 : ds.length ≤ 1000)
    (q : ∀ (x : V) (G' H' : Hp) (i : Nat) (d : PyData), Sg G' H' s c → Gr G G' H → Kp s c H H' → ds[i]? = some d → Dp K G' x d → g x σ H' fun σ2 H2 => rest D σ2 H2) :
    tSeq (tAsg (tCall (spPick K) [] E0 (tCons (tVar 0) (tCons (tLst ta) tNil))) g) rest D σ H := by
  refine ⟨_, h0, ?_⟩
  refine h G H s c _ (Same.refl _) C fun vs G1 H1 C1 s1 t1 hds => ?_
  have hlen := dpAll_len hds
  refine ⟨Nat.le_of_lt (small1000 (by omega)), fun p hp => ?_⟩
  have n1 := C1.st.neS hp
  refine ⟨s, c, p, vs, rfl, C1.st.new hp, SqL.of upd_same, n1.1, n1.2, by omega, by omega, fun H2 i x hx st2 kp2 => ?_⟩
  obtain ⟨d, ed, hd2⟩ := dpAll_val hds hx
  exact q x G1 H2 i d ((C1.same (same_new hp)).kp kp2 st2) s1 (((Kp.same t1).trans (Kp.new hp)).trans kp2) ed hd2
end
/-- items of an entry or of a list of ints by their values -/
theorem pick_ints {ns : List Int} {i : Nat} {x : V} (h : (ns.map V.int)[i]? = some x) : ∃ n, n ∈ ns ∧ x = .int n := by
  rw [List.getElem?_map] at h
  cases e : ns[i]? with
  | none => rw [e] at h; cases h
  | some n => rw [e] at h; exact ⟨n, List.mem_of_getElem? e, (Option.some.inj h).symm⟩
end Pk
set_option Elab.async false
set_option linter.all false
set_option maxRecDepth 100000
set_option maxHeartbeats 4000000
/-! k24: the law -/
namespace Pk
open PySem PySem.Spec PyProof.Rows L2 SX GxR Tk
def spLaw (K : PySem.W.Frag) : Sp := fun vs H Q _ => ∃ (a : Addr) (ns : List Int), vs = [.ref a] ∧ SqL K H a (ns.map V.int) ∧ ns.length ≤ 63 ∧ ∀ H', Q (.bl true) H'
structure BkL (mg : Str → Option Value) : Prop where
  zRange : mg "range" = none
  zRepr : mg "repr" = none
  zList : mg "list" = none
  zSorted : mg "sorted" = none
  zIsi : mg "isinstance" = none
  zDict : mg "dict" = none
/-- the ledger, the rows -/
structure Lr (C s c x dx d r : Addr) (H : Hp) (ys : List V) (es : List KN) : Prop where
  st : StAt H s c
  hx : H x = some (.ins C dx [("sums", .ref d)])
  hd : H d = some (.dT (kvI (es.foldl adI [])))
  hr : H r = some (.lst ys)
  hp : Paired (RwR H) ys es
  k3 : K3 es
  rs : r ≠ s ∧ r ≠ c
theorem StAt.neO {H : Hp} {s c p : Addr} {o : HO} (h : StAt H s c) (hp : H p = some o) (ho : ∀ xs, o ≠ .lst xs) : p ≠ s ∧ p ≠ c := by
  obtain ⟨cells, seed, h1, h2, _⟩ := h
  refine ⟨fun z => ?_, fun z => ?_⟩
  · rw [z, h1] at hp
    exact ho _ (Option.some.inj hp).symm
  · rw [z, h2] at hp
    exact ho _ (Option.some.inj hp).symm
section
variable {C s c x dx d r : Addr} {H H' : Hp} {ys : List V} {es : List KN}
theorem Lr.xs (J : Lr C s c x dx d r H ys es) : x ≠ s ∧ x ≠ c := J.st.neO J.hx fun _ z => nomatch z
theorem Lr.ds (J : Lr C s c x dx d r H ys es) : d ≠ s ∧ d ≠ c := J.st.neO J.hd fun _ z => nomatch z
theorem Lr.kp (J : Lr C s c x dx d r H ys es) (k : Kp s c H H') (st : StAt H' s c) : Lr C s c x dx d r H' ys es :=
  ⟨st, k _ _ J.xs.1 J.xs.2 J.hx, k _ _ J.ds.1 J.ds.2 J.hd, k _ _ J.rs.1 J.rs.2 J.hr, rws_keep J.hp (TpK.kp J.st k), J.k3, J.rs⟩
theorem Lr.same (J : Lr C s c x dx d r H ys es) (k : Same H H') : Lr C s c x dx d r H' ys es :=
  ⟨J.st.same k, k _ _ J.hx, k _ _ J.hd, k _ _ J.hr, rws_keep J.hp (TpK.same k), J.k3, J.rs⟩
theorem Lr.put {D : Addr} {zs ws : List V} (J : Lr C s c x dx d r H ys es) (h : H D = some (.lst zs)) (n : D ≠ s ∧ D ≠ c ∧ D ≠ r) : Lr C s c x dx d r (upd H D (.lst ws)) ys es := by
  have h1 : x ≠ D := fun z => by
    have := J.hx
    rw [z, h] at this
    cases this
  have h2 : d ≠ D := fun z => by
    have := J.hd
    rw [z, h] at this
    cases this
  refine ⟨J.st.upd n.1 n.2.1, by rw [upd_ne h1]; exact J.hx, by rw [upd_ne h2]; exact J.hd, by rw [upd_ne (Ne.symm n.2.2)]; exact J.hr, rws_keep J.hp (TpK.upd fun xs z => ?_), J.k3, J.rs⟩
  rw [h] at z
  cases z
theorem OtR.put {H : Hp} {D : Addr} {zs ws : List V} {y : V} {r : Int × List ((Int × Int) × Int)} (h : OtR H y r) (hD : H D = some (.lst zs)) : OtR (upd H D (.lst ws)) y r := by
  obtain ⟨t, q, h1, h2, h3⟩ := h
  refine ⟨t, q, h1, ?_, ?_⟩
  · rw [upd_ne (fun z => by rw [z, hD] at h2; cases h2)]
    exact h2
  · rw [upd_ne (fun z => by rw [z, hD] at h3; cases h3)]
    exact h3
theorem Lr.len (J : Lr C s c x dx d r H ys es) : ys.length = es.length := Paired.length J.hp
end
theorem ikeys_dp {K : PySem.W.Frag} {H : Hp} : ∀ {ks : List KN} {bs : List Addr}, IsKeys H (kvI ks) bs → DpAll K H (bs.map V.ref) (ks.map fun e => keyD e.1)
  | [], [], _ => .nil
  | e :: ks, b :: bs, h => by
    cases h with
    | cons h r => exact .cons (dp_key h) (ikeys_dp r)
theorem keys_lay {ks : List KN} (h : K3 ks) : PyData.canLay0 (.list (ks.map fun e => keyD e.1)) = true := by
  show PyData.canLayAll0 (ks.map fun e => keyD e.1) = true
  induction ks with
  | nil => rfl
  | cons e r ih =>
    obtain ⟨a, b, c, he⟩ := h e List.mem_cons_self
    show (PyData.canLay0 (keyD e.1) && PyData.canLayAll0 (r.map fun e => keyD e.1)) = true
    rw [ih fun x hx => h x (List.mem_cons_of_mem _ hx), he]
    rfl
theorem keys_shaped {ks : List KN} (h : K3 ks) : SeqAt.shaped (.list (ks.map fun e => keyD e.1)) = true := by
  have hd : PyData.depthAll (ks.map fun e => keyD e.1) ≤ 1 := by
    induction ks with
    | nil => exact Nat.zero_le _
    | cons e r ih =>
      obtain ⟨a, b, c, he⟩ := h e List.mem_cons_self
      show max (keyD e.1).depth (PyData.depthAll (r.map fun e => keyD e.1)) ≤ 1
      have h1 := ih fun x hx => h x (List.mem_cons_of_mem _ hx)
      have h2 : (keyD e.1).depth ≤ 1 := by
        rw [he]
        exact Nat.le_refl _
      omega
  show (PyData.canLay0 (.list (ks.map fun e => keyD e.1)) && decide (PyData.depthAll (ks.map fun e => keyD e.1) + 1 ≤ 64)) = true
  rw [keys_lay h, decide_eq_true (by omega)]
  rfl
theorem iteSame {x : V} {A B : Prop} (h : B) : if (!decide (x = x)) = true then A else B := by
  rw [decide_eq_true rfl]
  exact h
theorem flat_len : ∀ {rows : List (Int × List ((Int × Int) × Int))}, (∀ r ∈ rows, r.2.length ≤ 4) → (rows.flatMap fun r => vk r.1 r.2).length ≤ 4 * rows.length
  | [], _ => Nat.zero_le _
  | r :: rows, h => by
    have h1 := h r List.mem_cons_self
    have h2 := flat_len (rows := rows) fun x hx => h x (List.mem_cons_of_mem _ hx)
    rw [List.flatMap_cons, List.length_append, List.length_cons]
    have h3 : (vk r.1 r.2).length = r.2.length := List.length_map ..
    omega
theorem sum_len : ∀ {rows : List (Int × List ((Int × Int) × Int))}, (∀ r ∈ rows, r.2.length ≤ 4) → (rows.map fun r => r.2.length).sum ≤ 4 * rows.length
  | [], _ => Nat.zero_le _
  | r :: rows, h => by
    have h1 := h r List.mem_cons_self
    have h2 := sum_len (rows := rows) fun x hx => h x (List.mem_cons_of_mem _ hx)
    rw [List.map_cons, List.sum_cons, List.length_cons]
    omega
theorem paired_get' {α β : Type} {F : α → β → Prop} : ∀ {l : List α} {m : List β}, Paired F l m → ∀ {i : Nat} {u : α}, l[i]? = some u → ∃ k, m[i]? = some k ∧ F u k
  | _, _, .cons h _, 0, _, e => ⟨_, rfl, Option.some.inj e ▸ h⟩
  | _, _, .cons _ r, i + 1, _, e => paired_get' r (i := i) e
theorem paired_getL {α β : Type} {F : α → β → Prop} : ∀ {l : List α} {m : List β}, Paired F l m → ∀ {i : Nat} {u : β}, m[i]? = some u → ∃ k, l[i]? = some k ∧ F k u
  | _, _, .cons h _, 0, _, e => ⟨_, rfl, Option.some.inj e ▸ h⟩
  | _, _, .cons _ r, i + 1, _, e => paired_getL r (i := i) e
theorem paired_mapR {α β γ : Type} {R : α → β → Prop} {f : γ → β} : ∀ {xs : List α} {bs : List γ}, Paired (fun x b => R x (f b)) xs bs → Paired R xs (bs.map f)
  | [], _, .nil => .nil
  | _ :: _, _, .cons h r => .cons h (paired_mapR r)
theorem vk_k3 (v : Int) (cs : List ((Int × Int) × Int)) : K3 (vk v cs) := fun e he => by
  obtain ⟨x, _, rfl⟩ := List.mem_map.mp he
  exact ⟨_, _, _, rfl⟩
theorem k3_app {es fs : List KN} (h : K3 es) (g : K3 fs) : K3 (es ++ fs) := fun e he => (List.mem_append.mp he).elim (h e) (g e)
theorem OtR.same {H H' : Hp} {y : V} {r : Int × List ((Int × Int) × Int)} (h : OtR H y r) (k : Same H H') : OtR H' y r := by
  obtain ⟨t, c, h1, h2, h3⟩ := h
  exact ⟨t, c, h1, k _ _ h2, k _ _ h3⟩
theorem OtR.kp {H H' : Hp} {s c : Addr} {y : V} {r : Int × List ((Int × Int) × Int)} (h : OtR H y r) (st : StAt H s c) (k : Kp s c H H') : OtR H' y r := by
  obtain ⟨t, q, h1, h2, h3⟩ := h
  exact ⟨t, q, h1, k _ _ (st.neO h2 fun _ z => nomatch z).1 (st.neO h2 fun _ z => nomatch z).2 h2, k _ _ (st.neO h3 fun _ z => nomatch z).1 (st.neO h3 fun _ z => nomatch z).2 h3⟩
/-- what one round of the last loop asks -/
def W3 (es : List KN) (H : Hp) (y : V) : Prop := ∃ (T g dd : Addr) (gys : List V) (grows : List (Int × List ((Int × Int) × Int))) (dys : List V) (des : List KN), y = .ref T ∧ H T = some (.tup [.ref g, .ref dd]) ∧ H g = some (.lst gys) ∧ Paired (OtR H) gys grows ∧ H dd = some (.lst dys) ∧ Paired (RwR H) dys des ∧ des = es ++ grows.flatMap (fun r => vk r.1 r.2) ∧ (∀ r ∈ grows, r.2.length ≤ 4) ∧ grows.length ≤ 5
theorem W3.same {es : List KN} {H H' : Hp} {y : V} (h : W3 es H y) (k : Same H H') : W3 es H' y := by
  obtain ⟨T, g, dd, gys, grows, dys, des, h1, h2, h3, h4, h5, h6, h7, h8, h9⟩ := h
  exact ⟨T, g, dd, gys, grows, dys, des, h1, k _ _ h2, k _ _ h3, paired_mono (fun _ _ z => OtR.same z k) h4, k _ _ h5, rws_keep h6 (TpK.same k), h7, h8, h9⟩
section
variable {P : Program} {w : World} {K : PySem.W.Frag} {mg : Str → Option Value} {base : Heap} {C : Addr}
abbrev sLaw : Stmt := topS 7
abbrev NLw : List Str := ["script", "state", "ledger", "rows", "k", "version", "counts", "kept", "key", "others", "more", "given", "due", "sums", "number", "told"]
theorem scLaw : FnScope NLw ["script"] (defScope sLaw) := ⟨rfl, rfl, rfl, by decide +kernel, rfl, by decide +kernel, by decide +kernel⟩
theorem ok_law {f : Addr} {fd : FuncData} (F : Fun K "law" "law" sLaw f fd) (R : LeC K C) (T : BkL mg) (D1 : Df P w K mg base CX0 1 "_law_state" ["script"] (spState K)) (D2 : Df P w K mg base CX0 1 "_law_draw" ["state", "many"] spDraw) (D3 : Df P w K mg base CX0 2 "_law_counts" ["state"] spLCn) (D4 : MkC P w K mg base CX0 1 C "Ledger" ["self"] (spLIn C)) (D5 : Mt P w K mg base CX0 1 C "collect" ["self", "version", "counts"] (spLCo K C)) (D6 : Mt P w K mg base CX0 3 C "total" ["self", "others"] (spLTo K C)) : FnG P w K mg base CX0 4 f fd ["script"] (spLaw K) := by
  obtain ⟨f1, fd1, G1, g1, k1, b1⟩ := D1.ex
  obtain ⟨f2, fd2, G2, g2, k2, b2⟩ := D2.ex
  obtain ⟨f3, fd3, G3, g3, k3, b3⟩ := D3.ex
  obtain ⟨f4, fd4, G4, k4, b4, g4⟩ := D4.ex
  obtain ⟨f5, fd5, G5, k5, b5⟩ := D5.ex
  obtain ⟨f6, fd6, G6, k6, b6⟩ := D6.ex
  refine okG F scLaw (fun vs H Q E h => ?_) (fun cdv A outer s0 H vs Q E hg hr h => ?_)
  · obtain ⟨a, ns, rfl, _⟩ := h
    rfl
  · obtain ⟨a, ns, rfl, hS, hn, qq⟩ := h
    have nd := scLaw.nd
    refine ⟨_, (pss_cons (ps_set (i := 1) nd rfl (.inr rfl) (pe_call G1 (hr.mono (by omega)) (by rfl) g1 k1 b1 .nil pass0 (pa_cons (pv 0) pa_nil)))
      (pss_cons (ps_set (i := 2) nd rfl (.inl rfl) (pe_make0 k4 G4 (hr.mono (by omega)) (by rfl) g4 b4 .nil pass0))
      (pss_cons (ps_set (i := 3) nd rfl (.inl rfl) (pe_lst pa_nil))
      (pss_cons (ps_for PassesOwn.never rfl (pi_range1 (by rfl) T.zRange (pa_cons (pe_call G2 (hr.mono (by omega)) (by rfl) g2 k2 b2 .nil pass0 (pa_cons (pv 1) (pa_cons pe_int pa_nil))) pa_nil)) (pg_name (i := 4) nd rfl (.inl rfl))
        (pss_cons (ps_set (i := 5) nd rfl (.inr rfl) (pe_call G2 (hr.mono (by omega)) (by rfl) g2 k2 b2 .nil pass0 (pa_cons (pv 1) (pa_cons pe_int pa_nil))))
        (pss_cons (ps_set (i := 6) nd rfl (.inr rfl) (pe_call G3 (hr.mono (by omega)) (by rfl) g3 k3 b3 .nil pass0 (pa_cons (pv 1) pa_nil)))
        (pss_cons (ps_set (i := 7) nd rfl (.inl rfl) (pe_callB (cr_reprT hg hr.units) (by rfl) T.zRepr (by decide +kernel) (pa_cons (pv 6) pa_nil)))
        (pss_cons (ps_expr (pe_meth (pv 2) R.cl k5 G5 (hr.mono (by omega)) b5 .nil pass0 (pa_cons (pv 5) (pa_cons (pv 6) pa_nil))))
        (pss_cons (ps_if (pt_cmpR op_ne (pe_callB (cr_reprT hg hr.units) (by rfl) T.zRepr (by decide +kernel) (pa_cons (pv 6) pa_nil)) (pv 7) (nomark _)) (pss_one (ps_ret pe_bl)) pss_nil)
        (pss_cons (ps_set (i := 3) nd rfl (.inl rfl) (pe_op op_cat (pv 3) (pe_lock (pe_lc (own := [("key", 8)]) (g := gName 8) (tt := tYes) rfl nd (pi_keys (pv 6)) (blkOk_by (own := [("key", 8)]) (N := NLw) (sc := defScope sLaw) (by decide +kernel)) (fun _ _ _ _ _ => (pg_name (i := 8) nd rfl (Or.inl rfl))) (fun _ _ _ _ _ => pts_nil) (fun _ _ _ _ _ => (pe_tup (pa_cons (pe_tup (pa_cons (pv 5) (pa_cons (pe_ix (r := rIxT K) ix_tup (pv 8) pe_int (fun _ _ => rfl)) (pa_cons (pe_ix (r := rIxT K) ix_tup (pv 8) pe_int (fun _ _ => rfl)) pa_nil)))) (pa_cons (pe_dget (hu_of hr) (pv 6) (pv 8) (fun _ _ => rfl)) pa_nil))))))))
        (pss_one (ps_expr (pe_clearT (pv 6)))))))))))
      (pss_cons (ps_setLc (i := 9) (own := [("k", 4)]) (g := gName 4) (tt := tYes) rfl nd rfl rfl (sw_true rfl rfl rfl (by decide +kernel)) (pi_range1 (by rfl) T.zRange (pa_cons (pe_call G2 (hr.mono (by omega)) (by rfl) g2 k2 b2 .nil pass0 (pa_cons (pv 1) (pa_cons pe_int pa_nil))) pa_nil)) (blkOk_by (own := [("k", 4)]) (N := NLw) (sc := defScope sLaw) (by decide +kernel)) (fun _ _ _ _ _ => (pg_name (i := 4) nd rfl (Or.inl rfl))) (fun _ _ _ _ _ => pts_nil) (fun _ _ _ _ _ => (pe_tup (pa_cons (pe_call G2 (hr.mono (by omega)) (by rfl) g2 k2 b2 .nil pass0 (pa_cons (pv 1) (pa_cons pe_int pa_nil))) (pa_cons (pe_call G3 (hr.mono (by omega)) (by rfl) g3 k3 b3 .nil pass0 (pa_cons (pv 1) pa_nil)) pa_nil)))))
      (pss_cons (ps_set (i := 10) nd rfl (.inl rfl) (pe_callTy call_list_of (by rfl) T.zList (by decide +kernel) (pa_cons (pv 3) pa_nil)))
      (pss_cons (ps_for PassesOwn.never rfl (pi_list (pv 9)) (pg_tup (by rfl) (pgs_cons (pg_name (i := 5) nd rfl (.inr rfl)) (pgs_cons (pg_name (i := 6) nd rfl (.inr rfl)) pgs_nil)))
        (pss_one (ps_set (i := 10) nd rfl (.inl rfl) (pe_op op_cat (pv 10) (pe_lock (pe_lc (own := [("key", 8)]) (g := gName 8) (tt := tYes) rfl nd (pi_keys (pv 6)) (blkOk_by (own := [("key", 8)]) (N := NLw) (sc := defScope sLaw) (by decide +kernel)) (fun _ _ _ _ _ => (pg_name (i := 8) nd rfl (Or.inl rfl))) (fun _ _ _ _ _ => pts_nil) (fun _ _ _ _ _ => (pe_tup (pa_cons (pe_tup (pa_cons (pv 5) (pa_cons (pe_ix (r := rIxT K) ix_tup (pv 8) pe_int (fun _ _ => rfl)) (pa_cons (pe_ix (r := rIxT K) ix_tup (pv 8) pe_int (fun _ _ => rfl)) pa_nil)))) (pa_cons (pe_dget (hu_of hr) (pv 6) (pv 8) (fun _ _ => rfl)) pa_nil))))))))))
      (pss_cons (ps_set (i := 7) nd rfl (.inl rfl) (pe_callB (cr_reprLT hg hr.units) (by rfl) T.zRepr (by decide +kernel) (pa_cons (pv 9) pa_nil)))
      (pss_cons (ps_for PassesOwn.never rfl (pi_list (pe_lst (pa_cons (pe_tup (pa_cons (pe_lst pa_nil) (pa_cons (pv 3) pa_nil))) (pa_cons (pe_tup (pa_cons (pv 9) (pa_cons (pv 10) pa_nil))) (pa_cons (pe_tup (pa_cons (pe_lst pa_nil) (pa_cons (pv 3) pa_nil))) pa_nil))))) (pg_tup (by rfl) (pgs_cons (pg_name (i := 11) nd rfl (.inl rfl)) (pgs_cons (pg_name (i := 12) nd rfl (.inl rfl)) pgs_nil)))
        (pss_cons (ps_set (i := 13) nd rfl (.inl rfl) (pe_dnewT))
        (pss_cons (ps_for PassesOwn.never rfl (pi_list (pe_callB (cr_sortD hr.units) (by rfl) T.zSorted (by decide +kernel) (pa_cons (pv 12) pa_nil))) (pg_tup (by rfl) (pgs_cons (pg_name (i := 8) nd rfl (.inl rfl)) (pgs_cons (pg_name (i := 14) nd rfl (.inl rfl)) pgs_nil)))
          (pss_one (ps_asg (pe_op op_add (pe_dget2 (hu_of hr) (pv 13) (pv 8) pe_int ⟨rfl, rfl, rfl, rfl⟩) (pv 14)) (pg_sub (pv 13) (pv 8) (set_dict (hu_of hr))))))
        (pss_cons (ps_set (i := 15) nd rfl (.inl rfl) (pe_meth (pv 2) R.cl k6 G6 (hr.mono (by omega)) b6 .nil pass0 (pa_cons (pv 11) pa_nil)))
        (pss_cons (ps_if (PW.pt (pw_or (pt_not (pt_val (pe_callB call_isi (by rfl) T.zIsi PyProof.Rows.boot_isinstance (pa_cons (pv 15) (pa_cons (pe_bltn (v := .ty "dict") (u := .type "dict") rfl T.zDict (by decide +kernel) rfl) pa_nil))) (by intro _; rfl))) (pw_or (pt_cmpR (op_neT hr.units) (pv 15) (pv 13) (nomark _)) (pw_or1 (pt_cmpR (op_neD hr.units) (pe_callTy (call_list_dT rfl) (by rfl) T.zList (by decide +kernel) (pa_cons (pv 15) pa_nil)) (pe_callTy (call_list_dT rfl) (by rfl) T.zList (by decide +kernel) (pa_cons (pv 13) pa_nil)) (nomark _)))))) (pss_one (ps_ret pe_bl)) pss_nil)
        (pss_one (ps_asg pe_int (pg_sub (pv 15) (pe_tup (pa_cons pe_int (pa_cons pe_int (pa_cons pe_int pa_nil)))) (set_dict (hu_of hr))))))))))
      (pss_one (ps_ret (pe_cmpR op_eq (pe_callB (cr_reprLT hg hr.units) (by rfl) T.zRepr (by decide +kernel) (pa_cons (pv 9) pa_nil)) (pv 7) (nomark _))))))))))))), ?_⟩
    refine ⟨_, rfl, a, ns, rfl, hS, hn, fun H1 s c s1 _ _ st1 => ?_⟩
    refine fun x dx nx ndx ne => ?_
    dsimp only [tNil]
    refine ⟨x, dx, rfl, upd_same, fun H2 d k2 nd2 e2 ed2 => ⟨rfl, ?_⟩⟩
    have s2 : Same H1 H2 := fun b o e => k2 b o (ne_of_none e nx) (by rw [upd_ne (ne_of_none e nx), upd_ne (ne_of_none e ndx)]; exact e)
    refine ⟨Nat.zero_le _, fun r hr0 => ?_⟩
    have J3 : Lr C s c x dx d r (upd H2 r (.lst [])) [] [] := ⟨(st1.same s2).new hr0, same_new hr0 _ _ e2, same_new hr0 _ _ ed2, upd_same, .nil, (fun e he => nomatch he), (st1.same s2).neS hr0⟩
    generalize upd H2 r (.lst []) = H3 at J3 ⊢
    refine ⟨_, rfl, s, c, 21, rfl, J3.st, by decide, by decide, fun H4 n n0 n1 st4 kp4 => ⟨n, rfl, by omega, by omega, ?_⟩⟩
    refine for_range (lo := 0) (n := n.toNat) (fun i σ H => ∃ x4 x5 x6 x7 x8 r ys es, σ = [some (.ref a), some (.ref s), some (.ref x), some (.ref r), x4, x5, x6, x7, x8, none, none, none, none, none, none, none] ∧ Lr C s c x dx d r H ys es ∧ es.length ≤ 4 * i) ⟨none, none, none, none, none, r, [], [], rfl, J3.kp kp4 st4, Nat.zero_le _⟩ ?_ ?_
    · rintro i σ H5 hi ⟨x4, x5, x6, x7, x8, r, ys, es, rfl, J5, hl⟩
      refine ⟨_, rfl, s, c, 4, rfl, J5.st, by decide, by decide, fun H6 v v0 v1 st6 kp6 => ?_⟩
      have J6 := J5.kp kp6 st6
      refine ⟨_, rfl, s, c, rfl, st6, fun H7 q cs st7 kp7 hq0 hq hcl hcb => ?_⟩
      have J7 := J6.kp kp7 st7
      have ft := (ck_ft hcb hcl).repr (by decide) (by decide)
      have hql := J7.st.neO hq fun _ z => nomatch z
      have hqd : d ≠ q := fun z => by
        have := J6.hd
        rw [z, hq0] at this
        cases this
      have hqr : r ≠ q := fun z => by
        have := J6.hr
        rw [z, hq0] at this
        cases this
      have nkI := ck_nd hcb
      refine ⟨_, rfl, q, ck cs, rfl, .inl hq, ft.1, ft.2.1, ft.2.2, ?_⟩
      refine ⟨_, rfl, x, dx, _, rfl, J7.hx, rfl, ?_⟩
      refine ⟨_, rfl, _, rfl, ?_⟩
      dsimp only [tNil]
      refine ⟨x, dx, d, q, v, es.foldl adI [], cs, rfl, J7.hx, J7.hd, hq, hqd, ?_, fun H8 k8 e8 => ?_⟩
      · have := adIs_len es []
        have : (List.length ([] : List KN)) = 0 := rfl
        omega
      have st8 : StAt H8 s c := by
        obtain ⟨cells, seed, h1, h2, h3⟩ := J7.st
        exact ⟨cells, seed, k8 _ _ (Ne.symm J7.ds.1) h1, k8 _ _ (Ne.symm J7.ds.2) h2, h3⟩
      have hxd : x ≠ d := fun z => by
        have := J7.hx
        rw [z, J7.hd] at this
        cases this
      have hrd : r ≠ d := fun z => by
        have := J7.hr
        rw [z, J7.hd] at this
        cases this
      have x8' := k8 _ _ hxd J7.hx
      have r8 := k8 _ _ hrd J7.hr
      have q8 := k8 _ _ (Ne.symm hqd) hq
      have p8 := rws_keep J7.hp (H' := H8) fun b xs e => k8 _ _ (fun z => by
        rw [z, J7.hd] at e
        cases e) e
      rw [← List.foldl_append] at e8
      refine ⟨_, rfl, q, ck cs, rfl, .inl q8, ft.1, ft.2.1, ft.2.2, _, rfl, rfl, _, rfl, iteSame ?_⟩
      refine ⟨_, rfl, cmp_rd q8 hcl hcb fun D H9 ys2 s9 D0 e9 p9 => ?_⟩
      have ll := Paired.length p9
      have l0 := J7.len
      have lv : (vk v cs).length = cs.length := List.length_map ..
      refine ⟨r, D, ys, ys2, rfl, rfl, s9 _ _ r8, e9, Nat.le_of_lt (small1000 (by omega)), fun p hp => ?_⟩
      have sA := s9.trans (same_new (o := .lst (ys ++ ys2)) hp)
      have tA : TpK H9 (upd H9 p (.lst (ys ++ ys2))) := TpK.same (same_new hp)
      have eA : (upd H9 p (.lst (ys ++ ys2))) p = some (.lst (ys ++ ys2)) := upd_same
      have np := (st8.same s9).neS hp
      generalize upd H9 p (.lst (ys ++ ys2)) = HA at sA tA eA ⊢
      have qA := sA _ _ q8
      have npq : p ≠ q := fun z => by
        rw [z, s9 _ _ q8] at hp
        cases hp
      have nxq : x ≠ q := fun z => by
        rw [z, q8] at x8'
        cases x8'
      have tB : TpK HA (upd HA q (.dT [])) := TpK.upd fun xs z => by
        rw [qA] at z
        cases z
      refine ⟨_, rfl, .inr (.inr (.inl ⟨rfl, .inr ⟨_, qA⟩⟩)), q, kvI (ck cs), rfl, rfl, qA, ?_⟩
      refine ⟨_, _, _, _, _, p, ys ++ ys2, es ++ vk v cs, rfl, ⟨(st8.same sA).upd hql.1 hql.2, by rw [upd_ne nxq]; exact sA _ _ x8', by rw [upd_ne hqd]; exact sA _ _ e8, by rw [upd_ne npq]; exact eA, rws_keep (paired_app (rws_keep p8 (TpK.same sA)) (rws_keep p9 tA)) tB, k3_app J7.k3 (vk_k3 _ _), np⟩, ?_⟩
      rw [List.length_append]
      omega
    rintro σ H5 ⟨x4, x5, x6, x7, x8, r, ys, es, rfl, J5, hl⟩
    refine ⟨_, rfl, s, c, 6, rfl, J5.st, by decide, by decide, fun H6 m m0 m1 st6 kp6 => ⟨m, rfl, by omega, by omega, fun D hD => ?_⟩⟩
    have J6 := J5.kp kp6 st6
    have nD := st6.neS hD
    have nDr : D ≠ r := fun z => by
      have := J6.hr
      rw [← z, hD] at this
      cases this
    refine lc_range (lo := 0) (n := m.toNat) (fun i H => Lr C s c x dx d r H ys es ∧ ∃ ys2 ors, H D = some (.lst ys2) ∧ Paired (OtR H) ys2 ors ∧ ors.length = i ∧ ∀ r ∈ ors, (0 ≤ r.1 ∧ r.1 < 4) ∧ CtB r.2 ∧ r.2.length ≤ 4) ⟨J6.same (same_new hD), [], [], upd_same, .nil, rfl, fun _ h => nomatch h⟩ ?_ ?_
    · rintro i H7 hi ⟨J7, ys2, ors, e7, p7, l7, b7⟩
      refine ⟨rfl, _, rfl, s, c, 4, rfl, J7.st, by decide, by decide, fun H8 v v0 v1 st8 kp8 => ?_⟩
      refine ⟨_, rfl, s, c, rfl, st8, fun H9 q cs st9 kp9 hq0 hq hcl hcb => ?_⟩
      refine ⟨by show 2 ≤ sizeLine; decide, fun t ht => ?_⟩
      have kk := kp8.trans kp9
      have JA := (J7.kp kk st9).same (same_new (o := .tup [.int v, .ref q]) ht)
      have eA := same_new (o := .tup [.int v, .ref q]) ht _ _ (kk _ _ nD.1 nD.2 e7)
      have pA := paired_mono (fun _ _ h => (h.kp J7.st kk).same (same_new (o := .tup [.int v, .ref q]) ht)) p7
      have tA : OtR (upd H9 t (.tup [.int v, .ref q])) (.ref t) (v, cs) := ⟨t, q, rfl, upd_same, same_new ht _ _ hq⟩
      generalize upd H9 t (.tup [.int v, .ref q]) = HA at JA eA pA tA ⊢
      have ll := Paired.length pA
      refine ⟨ys2, eA, small1000 (by omega), JA.put eA ⟨nD.1, nD.2, nDr⟩, ys2 ++ [.ref t], ors ++ [(v, cs)], upd_same, paired_app (paired_mono (fun _ _ h => h.put eA) pA) (.cons (tA.put eA) .nil), by rw [List.length_append, l7]; rfl, fun z hz => ?_⟩
      rcases List.mem_append.mp hz with hz | hz
      · exact b7 z hz
      · rw [List.mem_singleton.mp hz]
        exact ⟨⟨v0, v1⟩, hcb, hcl⟩
    rintro H7 ⟨J7, ys2, ors, e7, p7, l7, b7⟩
    have hes : es.length ≤ 80 := by omega
    have hos : ors.length ≤ 5 := by omega
    clear hl l7 n0 n1 m0 m1 kp4 kp6
    refine ⟨_, rfl, r, ys, rfl, .inl (SqL.of J7.hr), fun m hm => ?_⟩
    have J8 := J7.same (same_new (o := .lst ys) hm)
    have eD := same_new (o := .lst ys) hm _ _ e7
    have pO := paired_mono (fun _ _ h => OtR.same h (same_new (o := .lst ys) hm)) p7
    have em : (upd H7 m (.lst ys)) m = some (.lst ys) := upd_same
    generalize upd H7 m (.lst ys) = H8 at J8 eD pO em ⊢
    clear J7 e7 p7 hm
    have lO := Paired.length pO
    have bO : ∀ r ∈ ors, r.2.length ≤ 4 := fun z hz => (b7 z hz).2.2
    refine ⟨_, rfl, D, rfl, ⟨_, SqL.of eD⟩, for_list (K := K) (a := D) (xs := ys2) (fun i σ H => ∃ x4 x5 x6 x7 x8 m zs, σ = [some (.ref a), some (.ref s), some (.ref x), some (.ref r), x4, x5, x6, x7, x8, some (.ref D), some (.ref m), none, none, none, none, none] ∧ Same H8 H ∧ H m = some (.lst zs) ∧ Paired (RwR H) zs (es ++ (ors.take i).flatMap fun r => vk r.1 r.2)) ⟨_, _, _, _, _, m, ys, rfl, Same.refl _, em, by rw [List.take_zero, List.flatMap_nil, List.append_nil]; exact J8.hp⟩ (fun i σ H _ h => ?_) ?_ ?_⟩
    · obtain ⟨_, _, _, _, _, m, zs, _, s9, _⟩ := h
      exact SqL.of (s9 _ _ eD)
    · rintro i y σ H9 hy ⟨x4, x5, x6, x7, x8, m, zs, rfl, s9, e9, p9⟩
      obtain ⟨o, ho, t, q, rfl, ht, hq⟩ := paired_get' pO hy
      have om := List.mem_of_getElem? ho
      refine ⟨t, _, rfl, .inl (.inl (s9 _ _ ht)), rfl, _, _, rfl, _, _, rfl, rfl, ?_⟩
      refine ⟨_, rfl, cmp_rd (s9 _ _ hq) (bO o om) (b7 o om).2.1 fun L HA ws sA L0 eA pA => ?_⟩
      have lp := Paired.length p9
      have lw := Paired.length pA
      have lf := flat_len (rows := ors.take i) fun r hr => bO r (List.mem_of_mem_take hr)
      have lt : (ors.take i).length ≤ 5 := by rw [List.length_take]; omega
      have lv : (vk o.1 o.2).length = o.2.length := List.length_map ..
      have lo := bO o om
      rw [List.length_append] at lp
      refine ⟨m, L, zs, ws, rfl, rfl, sA _ _ e9, eA, Nat.le_of_lt (small1000 (by omega)), fun p hp => ?_⟩
      refine ⟨_, _, _, _, _, p, zs ++ ws, rfl, (s9.trans sA).trans (same_new hp), upd_same, ?_⟩
      rw [List.take_add_one, ho, List.flatMap_append, ← List.append_assoc]
      exact paired_app (rws_keep p9 (TpK.same (sA.trans (same_new hp)))) (rws_keep (by rw [Option.toList_some, List.flatMap_singleton]; exact pA) (TpK.same (same_new hp)))
    rintro σ H9 ⟨x4, x5, x6, x7, x8, m, zs, rfl, s9, e9, p9⟩
    rw [lO, List.take_length] at p9
    have J9 := J8.same s9
    have eD9 := s9 _ _ eD
    have pO9 := paired_mono (fun _ _ h => OtR.same h s9) pO
    clear J8 s9 eD pO em
    have ft := (ot_ft b7 hos).repr (by decide) (by decide)
    have rO : ∀ {H : Hp}, Paired (OtR H) ys2 ors → Paired (fun (y : V) (r : Int × List (List L2.Key × Int)) => ∃ t d, y = .ref t ∧ H t = some (.tup [.int r.1, .ref d]) ∧ Rd H d (.dT (kvI r.2))) ys2 (ors.map fun r => (r.1, ck r.2)) := fun h => paired_mapR (paired_mono (fun y r z => by
      obtain ⟨t, q, h1, h2, h3⟩ := z
      exact ⟨t, q, h1, h2, .inl h3⟩) h)
    refine ⟨_, rfl, D, ys2, _, rfl, eD9, rO pO9, ?_, ft.2.1, ft.2.2, ?_⟩
    · exact ft.1
    refine ⟨Nat.zero_le _, fun L1 hL1 => ⟨_, rfl, by show 2 ≤ sizeLine; decide, fun T1 hT1 => ?_⟩⟩
    have sA := (same_new (o := .lst []) hL1).trans (same_new (o := .tup [.ref L1, .ref r]) hT1)
    have w1 : W3 es (upd (upd H9 L1 (.lst [])) T1 (.tup [.ref L1, .ref r])) (.ref T1) := ⟨T1, L1, r, [], [], ys, es, rfl, upd_same, same_new hT1 _ _ upd_same, .nil, sA _ _ J9.hr, rws_keep J9.hp (TpK.same sA), (List.append_nil _).symm, fun _ h => (nomatch h), Nat.zero_le _⟩
    generalize upd (upd H9 L1 (.lst [])) T1 (.tup [.ref L1, .ref r]) = HA at sA w1 ⊢
    refine ⟨_, rfl, _, rfl, by show 2 ≤ sizeLine; decide, fun T2 hT2 => ?_⟩
    have sB := same_new (o := .tup [.ref D, .ref m]) hT2
    have w2 : W3 es (upd HA T2 (.tup [.ref D, .ref m])) (.ref T2) := ⟨T2, D, m, ys2, ors, zs, _, rfl, upd_same, sB _ _ (sA _ _ eD9), paired_mono (fun _ _ z => OtR.same z (sA.trans sB)) pO9, sB _ _ (sA _ _ e9), rws_keep p9 (TpK.same (sA.trans sB)), rfl, bO, hos⟩
    have w1 := w1.same sB
    have sB := sA.trans sB
    clear sA
    generalize upd HA T2 (.tup [.ref D, .ref m]) = HB at sB w1 w2 ⊢
    refine ⟨Nat.zero_le _, fun L3 hL3 => ⟨_, rfl, by show 2 ≤ sizeLine; decide, fun T3 hT3 => ?_⟩⟩
    have sC := (same_new (o := .lst []) hL3).trans (same_new (o := .tup [.ref L3, .ref r]) hT3)
    have w3 : W3 es (upd (upd HB L3 (.lst [])) T3 (.tup [.ref L3, .ref r])) (.ref T3) := ⟨T3, L3, r, [], [], ys, es, rfl, upd_same, same_new hT3 _ _ upd_same, .nil, sC _ _ (sB _ _ J9.hr), rws_keep J9.hp (TpK.same (sB.trans sC)), (List.append_nil _).symm, fun _ h => (nomatch h), Nat.zero_le _⟩
    have w1 := w1.same sC
    have w2 := w2.same sC
    have sC := sB.trans sC
    clear sB
    generalize upd (upd HB L3 (.lst [])) T3 (.tup [.ref L3, .ref r]) = HC at sC w1 w2 w3 ⊢
    refine ⟨by show 3 ≤ sizeLine; decide, fun Ls hLs => ?_⟩
    have sD := same_new (o := .lst [.ref T1, .ref T2, .ref T3]) hLs
    have eLs : (upd HC Ls (.lst [.ref T1, .ref T2, .ref T3])) Ls = some (.lst [.ref T1, .ref T2, .ref T3]) := upd_same
    have w1 := w1.same sD
    have w2 := w2.same sD
    have w3 := w3.same sD
    have sD := sC.trans sD
    clear sC
    generalize upd HC Ls (.lst [.ref T1, .ref T2, .ref T3]) = HD at sD w1 w2 w3 eLs ⊢
    have wA : ∀ y ∈ [V.ref T1, .ref T2, .ref T3], W3 es HD y := fun y hy => by
      rcases List.mem_cons.mp hy with rfl | hy
      · exact w1
      rcases List.mem_cons.mp hy with rfl | hy
      · exact w2
      rcases List.mem_cons.mp hy with rfl | hy
      · exact w3
      cases hy
    have JD := J9.same sD
    have eDD := sD _ _ eD9
    have pOD := paired_mono (fun _ _ h => OtR.same h sD) pO9
    clear w1 w2 w3 J9 eD9 pO9 sD e9 p9
    refine ⟨Ls, rfl, ⟨_, SqL.of eLs⟩, for_list (K := K) (a := Ls) (xs := [V.ref T1, .ref T2, .ref T3]) (fun i σ H => ∃ x4 x5 x6 x7 x8 x11 x12 x13 x14 x15, x7 = some (.str (PyData.list ((ors.map fun r => (r.1, ck r.2)).map fun r => .tuple [.int r.1, dcD r.2])).shown) ∧ σ = [some (.ref a), some (.ref s), some (.ref x), some (.ref r), x4, x5, x6, x7, x8, some (.ref D), some (.ref m), x11, x12, x13, x14, x15] ∧ Same HD H) ⟨_, _, _, _, _, _, _, _, _, _, rfl, rfl, Same.refl _⟩ (fun i σ H _ h => ?_) ?_ ?_⟩
    · obtain ⟨_, _, _, _, _, _, _, _, _, _, _, _, sE⟩ := h
      exact SqL.of (sE _ _ eLs)
    · rintro i y σ HE hy ⟨x4, x5, x6, x7, x8, x11, x12, x13, x14, x15, h7, rfl, sE⟩
      obtain ⟨T, g, dd, gys, grows, dys, des, rfl, hT0, hg0, pg0, hdd0, pd0, ed, bg, lg⟩ := wA _ (List.mem_of_getElem? hy)
      have hT := sE _ _ hT0
      have hg' := sE _ _ hg0
      have pg := paired_mono (fun _ _ h => OtR.same h sE) pg0
      have hdd := sE _ _ hdd0
      have pd := rws_keep pd0 (TpK.same sE)
      refine ⟨T, _, rfl, .inl (.inl hT), rfl, _, _, rfl, _, _, rfl, rfl, ?_⟩
      refine fun S hS0 => ?_
      have hlen : des.length ≤ 100 := by
        have := flat_len bg
        rw [ed, List.length_append]
        omega
      have h3 : K3 des := by
        rw [ed]
        refine k3_app JD.k3 fun e he => ?_
        obtain ⟨r, _, hr⟩ := List.mem_flatMap.mp he
        exact vk_k3 _ _ e hr
      have JE := JD.same sE
      have sF := same_new (o := .dT []) hS0
      have eS : (upd HE S (.dT [])) S = some (.dT []) := upd_same
      have pd := rws_keep pd (TpK.same sF)
      have pg := paired_mono (fun _ _ h => OtR.same h sF) pg
      have hg' := sF _ _ hg'
      have hdd := sF _ _ hdd
      have JF := JE.same sF
      have sF2 := sE.trans sF
      have fS : HD S = none := sE.free hS0
      clear sF JE hT
      generalize upd HE S (.dT []) = HF at eS pd pg hg' hdd JF sF2 ⊢
      obtain ⟨bs, hb1, hb2, hb3⟩ : ∃ bs : List (V × PyData), bs.map Prod.fst = dys ∧ bs.map Prod.snd = des.map rwD ∧ Paired (fun (e : KN) (b : V × PyData) => b.2 = rwD e ∧ RwR HF b.1 e) des bs := by
        obtain ⟨Z, rfl, rfl, hz⟩ := zip_of pd
        exact ⟨Z.map fun z => (z.1, rwD z.2), by rw [List.map_map]; rfl, by rw [List.map_map, List.map_map]; rfl, by
          have := of_zip (R := fun (e : KN) (b : V × PyData) => b.2 = rwD e ∧ RwR HF b.1 e) (Z.map fun z => (z.2, (z.1, rwD z.2))) fun y hy => by
            obtain ⟨z, hz', rfl⟩ := List.mem_map.mp hy
            exact ⟨rfl, hz z hz'⟩
          rw [List.map_map, List.map_map] at this
          exact this⟩
      have lb : bs.length = des.length := by rw [← List.length_map (f := Prod.snd), hb2, List.length_map]
      refine ⟨_, rfl, dd, bs, rfl, by rw [hb1]; exact SqL.of hdd, fun b hb => ?_, by rw [hb2]; exact rw_alike h3, by rw [hb2]; exact rw_sortable, Nat.le_of_lt (small1000 (by omega)), fun b hb => ?_, fun p hp => ?_⟩
      · obtain ⟨Z, h1, h2, hz⟩ := zip_of hb3
        rw [← h2] at hb
        obtain ⟨z, hz', rfl⟩ := List.mem_map.mp hb
        obtain ⟨q1, q2⟩ := hz z hz'
        rw [q1]
        exact q2.dp
      · have : b.2 ∈ des.map rwD := hb2 ▸ List.mem_map_of_mem hb
        obtain ⟨e, he, e2⟩ := List.mem_map.mp this
        rw [← e2]
        exact rw_depth (h3 e he)
      obtain ⟨es', hpm, hps⟩ := paired_sort hb3 (PySem.W.dataLe false Prod.snd)
      have hpw := dle_pw bs
      generalize bs.mergeSort (PySem.W.dataLe false Prod.snd) = cs at hps hpw ⊢
      have k3' : K3 es' := fun e he => h3 e (hpm.mem_iff.mp he)
      have hpw' : es'.Pairwise fun x y => ¬ PySem.W.dataLt (keyD y.1) (keyD x.1) = true := by
        have lt : es'.length = cs.length := Paired.length hps
        refine List.pairwise_iff_getElem.mpr fun i j hi hj hij => ?_
        obtain ⟨bx, hbx, rx, _⟩ := paired_get' hps (List.getElem?_eq_getElem hi)
        obtain ⟨bY, hby, ry, _⟩ := paired_get' hps (List.getElem?_eq_getElem hj)
        obtain ⟨li, ei⟩ := List.getElem?_eq_some_iff.mp hbx
        obtain ⟨lj, ej⟩ := List.getElem?_eq_some_iff.mp hby
        have hz := List.pairwise_iff_getElem.mp hpw i j li lj hij
        rw [ei, ej, rx, ry] at hz
        exact rw_lt (k3' _ (List.getElem_mem hj)) (k3' _ (List.getElem_mem hi)) (by rw [hz]; decide)
      have hasc : AscK (es'.foldl adI []) := asc_fold es' k3' (fun e he => nomatch he) .nil hpw' (fun k hk => nomatch hk)
      have hpf := adI_perm hpm
      have hnf := adIs_nd es' (ks := []) List.nodup_nil
      have h3f := adIs_k3 es' (ks := []) (fun e he => nomatch he) k3'
      have sG := same_new (o := .lst (cs.map Prod.fst)) hp
      have ep : (upd HF p (.lst (cs.map Prod.fst))) p = some (.lst (cs.map Prod.fst)) := upd_same
      have pG := paired_mono (fun (e : KN) (b : V × PyData) h => (⟨h.1, h.2.keep (TpK.same sG)⟩ : b.2 = rwD e ∧ RwR (upd HF p (.lst (cs.map Prod.fst))) b.1 e)) hps
      have eSG := sG _ _ eS
      have nSp : S ≠ p := fun z => by
        rw [z, hp] at eS
        cases eS
      have sG2 := sF2.trans sG
      have JG := JF.same sG
      have hgG := sG _ _ hg'
      have pgG := paired_mono (fun _ _ h => OtR.same h sG) pg
      clear eS pd pg hg' hdd JF sF2 hps sG
      generalize upd HF p (.lst (cs.map Prod.fst)) = HG at ep pG eSG sG2 JG hgG pgG ⊢
      have lcs : es'.length = cs.length := Paired.length pG
      have les : es'.length = des.length := hpm.length_eq
      refine ⟨p, rfl, ⟨_, SqL.of ep⟩, for_list (K := K) (a := p) (xs := cs.map Prod.fst) (fun i σ H => ∃ x8 x14, σ = [some (.ref a), some (.ref s), some (.ref x), some (.ref r), x4, x5, x6, x7, x8, some (.ref D), some (.ref m), some (.ref g), some (.ref dd), some (.ref S), x14, x15] ∧ (∀ b o, b ≠ S → HG b = some o → H b = some o) ∧ H S = some (.dT (kvI ((es'.take i).foldl adI [])))) ⟨_, _, rfl, fun _ _ _ e => e, eSG⟩ (fun i σ H _ h => ?_) ?_ ?_⟩
      · obtain ⟨_, _, _, kS, _⟩ := h
        exact SqL.of (kS _ _ (Ne.symm nSp) ep)
      · rintro i y σ HI hy ⟨x8, x14, rfl, kS, eS⟩
        rw [List.getElem?_map] at hy
        obtain ⟨b, hb, rfl⟩ := Option.map_eq_some_iff.mp hy
        obtain ⟨e, he, e2, t, t2, e3, ht, ht2⟩ := paired_getL pG hb
        have tS : TpK HG HI := fun b xs h => kS _ _ (fun z => by
          rw [z, eSG] at h
          cases h) h
        have ht' := tS _ _ ht
        have ht2' := tS _ _ ht2
        rw [e3]
        refine ⟨t, _, rfl, .inl (.inl ht'), rfl, _, _, rfl, _, _, rfl, rfl, ?_⟩
        have hk : (es'.take (i + 1)).foldl adI [] = adI ((es'.take i).foldl adI []) e := by
          rw [List.take_add_one, he, List.foldl_append]
          rfl
        have hl2 : ((es'.take i).foldl adI []).length < 1000 := by
          have h1 := adIs_len (es'.take i) []
          have h2 : (es'.take i).length ≤ es'.length := by rw [List.length_take]; omega
          have h3 : (List.length ([] : List KN)) = 0 := rfl
          omega
        generalize (es'.take i).foldl adI [] = kz at eS hk hl2
        refine ⟨_, rfl, S, rfl, .inr ⟨_, .inl eS⟩, _, rfl, _, DGet.t eS ht2', _, rfl, tI kz e.1, e.2, val_kvI _ _, rfl, ?_⟩
        refine ⟨_, rfl, _, rfl, S, _, rfl, DPut.t (k := e.1) eS ht2' (small1000 (by rw [kvI, List.length_map]; omega)), _, _, rfl, fun b o n eb => ?_, ?_⟩
        · rw [upd_ne n]
          exact kS _ _ n eb
        · rw [upd_same, hk, ← put_kvI]
      rintro σ HI ⟨x8', x14', rfl, kS, eS⟩
      rw [List.length_map, ← lcs, List.take_length] at eS
      have sI : Same HD HI := fun b o e => kS _ _ (ne_of_none e fS) (sG2 _ _ e)
      have JI := JD.same sI
      refine ⟨_, rfl, x, dx, _, rfl, JI.hx, rfl, ?_⟩
      refine ⟨_, rfl, ?_⟩
      dsimp only [tNil]
      refine ⟨x, dx, d, g, es.foldl adI [], gys, grows, rfl, JI.hx, JI.hd, SqL.of (sI _ _ hg0), paired_mono (fun _ _ h => OtR.same h sI) pg0, adIs_nd es List.nodup_nil, adIs_k3 es (fun e he => nomatch he) JD.k3, ?_, fun HJ q ts sJ hq eq hpt hat => ?_⟩
      · have h1 := adIs_len es []
        have h2 := sum_len bg
        have h3 : (List.length ([] : List KN)) = 0 := rfl
        omega
      rw [adRs_flat, ← List.foldl_append, ← ed] at hpt
      have hpt := hpt.trans hpf.symm
      have k3t : K3 ts := fun e he => h3f e (hpt.mem_iff.mp he)
      obtain rfl := asc_eq k3t hat hasc hpt
      have eSJ := sJ _ _ eS
      have nqS : q ≠ S := fun z => by
        rw [z, eS] at hq
        cases hq
      have ntl : (es'.foldl adI []).length < 900 := by
        have h1 := adIs_len es' []
        have h3 : (List.length ([] : List KN)) = 0 := rfl
        omega
      refine ⟨_, rfl, _, _, _, _, true, rfl, .ty _, .base (.dT eq), kit_ty (by decide +kernel), _, rfl, ?_⟩
      refine ⟨_, rfl, _, rfl, ⟨q, S, _, _, rfl, rfl, eq, eSJ, rfl, fun e he => val_nd hnf he⟩, _, rfl, ?_⟩
      refine ⟨_, rfl, q, _, rfl, .inl eq, fun l1 bs1 hl1 ik1 => ?_⟩
      have sK := same_new (o := .lst (bs1.map V.ref)) hl1
      refine ⟨_, rfl, S, _, rfl, .inl (sK _ _ eSJ), fun l2 bs2 hl2 ik2 => ?_⟩
      have sL := same_new (o := .lst (bs2.map V.ref)) hl2
      have u1 := ikeys_dp (K := K) ik1
      have u2 := ikeys_dp (K := K) ik2
      have sKL := sK.trans sL
      have v1 := sL _ _ (show (upd HJ l1 (.lst (bs1.map V.ref))) l1 = some (.lst (bs1.map V.ref)) from upd_same)
      have v2 : (upd (upd HJ l1 (.lst (bs1.map V.ref))) l2 (.lst (bs2.map V.ref))) l2 = some (.lst (bs2.map V.ref)) := upd_same
      have u1' := dpAll_sub sKL u1
      have u2' := dpAll_sub sL u2
      generalize upd (upd HJ l1 (.lst (bs1.map V.ref))) l2 (.lst (bs2.map V.ref)) = HL at v1 v2 u1' u2' sKL ⊢
      have sh : SeqAt.shaped (.list ((es'.foldl adI []).map fun e => keyD e.1)) = true := keys_shaped h3f
      refine ⟨_, _, .lst (SqL.of v1) u1', .lst (SqL.of v2) u2', sh, sh, _, rfl, ?_⟩
      rw [SeqAt.eqv_refl _ (keys_lay h3f)]
      have eqL := sKL _ _ eq
      refine ⟨_, rfl, by show 3 ≤ sizeLine; decide, fun t ht => ?_⟩
      have sM := same_new (o := .tup [.int 9, .int 9, .int 9]) ht
      have eT : (upd HL t (.tup [.int 9, .int 9, .int 9])) t = some (.tup (([.inl 9, .inl 9, .inl 9] : List L2.Key).map kV)) := upd_same
      have eqM := sM _ _ eqL
      generalize upd HL t (.tup [.int 9, .int 9, .int 9]) = HM at sM eT eqM ⊢
      refine ⟨q, _, rfl, DPut.t (k := [.inl 9, .inl 9, .inl 9]) eqM eT (small1000 (by rw [kvI, List.length_map]; omega)), ?_⟩
      refine ⟨_, _, _, _, _, _, _, _, _, _, h7, rfl, fun b o e => ?_⟩
      have e1 := sI _ _ e
      rw [upd_ne (ne_of_none e1 hq)]
      exact sM _ _ (sKL _ _ (sJ _ _ e1))
    · rintro σ HE ⟨x4, x5, x6, x7, x8, x11, x12, x13, x14, x15, h7, rfl, sE⟩
      subst h7
      refine ⟨_, rfl, D, ys2, _, rfl, sE _ _ eDD, rO (paired_mono (fun _ _ h => OtR.same h sE) pOD), ft.1, ft.2.1, ft.2.2, _, rfl, rfl, ?_⟩
      show Q (.bl (decide (_ = _))) _
      rw [decide_eq_true rfl]
      exact qq _
end
end Pk
set_option Elab.async false
set_option linter.all false
set_option maxRecDepth 100000
set_option maxHeartbeats 8000000
namespace Pk
open PySem PySem.Spec PyProof.Rows L2 SX GxR Tk
theorem at_of_name {K : PySem.W.Frag} {h : Heap} {mg : Str → Option Value} {x : Str} {st : Stmt} {ps : List Str} {f : Addr} {oc : Value} {od an : Option Addr} {osl : Array (Option Value)} {kV doc pm cdv ct : Value} (X : K.In h) (G : h.Ns mainGlobals mg)
    (a : PySem.W.nsIn K mainGlobals x = some (some (.ref f))) (l : K.lookup f = some ⟨oc, od, .func (PySem.W.fnOf x x (defArgs st) (defBody st) (defScope st) .none kV doc pm an cdv ct), osl⟩)
    (c : PySem.W.codeIn K cdv x = true) (k : PySem.W.keepIn K (.ref f) = true)
    (hb : ∀ (kV doc pm : Value) (an : Option Addr) (cdv ct : Value) (us : List Value), us.length = ps.length → bindArgs (PySem.W.fnOf x x (defArgs st) (defBody st) (defScope st) .none kV doc pm an cdv ct) ⟨us, []⟩ = pure (ps.zip us)) : AtD K mg x st ps :=
  ⟨f, _, fun_mk l c k, PySem.W.mg_of X G a, (fun_mk l c k).binds hb⟩
theorem Df.up {P : Program} {w : World} {K : PySem.W.Frag} {mg : Str → Option Value} {base : Heap} {CX : CXT} {j k : Nat} {x : Str} {ps : List Str} {sp : Sp} (D : Df P w K mg base CX j x ps sp) (h : j ≤ k) : Df P w K mg base CX k x ps sp := by
  obtain ⟨f, fd, g, a, b, c⟩ := D.ex
  exact ⟨f, fd, g.mono h, a, b, c⟩
theorem all_mk {P : Program} {w : World} {K : PySem.W.Frag} {h : Heap} {mg : Str → Option Value} {fa : Addr}
    {cLe : Addr}
    {f0 : Addr} {oc0 : Value} {od0 an0 : Option Addr} {osl0 : Array (Option Value)} {kV0 doc0 pm0 cd0 ct0 : Value}
    {f1 : Addr} {oc1 : Value} {od1 an1 : Option Addr} {osl1 : Array (Option Value)} {kV1 doc1 pm1 cd1 ct1 : Value}
    {f2 : Addr} {oc2 : Value} {od2 an2 : Option Addr} {osl2 : Array (Option Value)} {kV2 doc2 pm2 cd2 ct2 : Value}
    {f3 : Addr} {oc3 : Value} {od3 an3 : Option Addr} {osl3 : Array (Option Value)} {kV3 doc3 pm3 cd3 ct3 : Value}
    {fMLe0 : Addr} {ocMLe0 : Value} {odMLe0 anMLe0 : Option Addr} {oslMLe0 : Array (Option Value)} {kVMLe0 docMLe0 pmMLe0 cdMLe0 ctMLe0 : Value}
    {fMLe1 : Addr} {ocMLe1 : Value} {odMLe1 anMLe1 : Option Addr} {oslMLe1 : Array (Option Value)} {kVMLe1 docMLe1 pmMLe1 cdMLe1 ctMLe1 : Value}
    {fMLe2 : Addr} {ocMLe2 : Value} {odMLe2 anMLe2 : Option Addr} {oslMLe2 : Array (Option Value)} {kVMLe2 docMLe2 pmMLe2 cdMLe2 ctMLe2 : Value}
    (X : K.In h) (G : h.Ns mainGlobals mg) (hfa : mg "law" = some (.ref fa))
    (aCLe : PySem.W.nsIn K mainGlobals "Ledger" = some (some (.ref cLe)))
    (a0 : PySem.W.nsIn K mainGlobals "_law_state" = some (some (.ref f0)))
    (l0 : K.lookup f0 = some ⟨oc0, od0, .func (PySem.W.fnOf "_law_state" "_law_state" (defArgs sState) (defBody sState) (defScope sState) .none kV0 doc0 pm0 an0 cd0 ct0), osl0⟩)
    (c0 : PySem.W.codeIn K cd0 "_law_state" = true)
    (k0 : PySem.W.keepIn K (.ref f0) = true)
    (a1 : PySem.W.nsIn K mainGlobals "_law_draw" = some (some (.ref f1)))
    (l1 : K.lookup f1 = some ⟨oc1, od1, .func (PySem.W.fnOf "_law_draw" "_law_draw" (defArgs sDraw) (defBody sDraw) (defScope sDraw) .none kV1 doc1 pm1 an1 cd1 ct1), osl1⟩)
    (c1 : PySem.W.codeIn K cd1 "_law_draw" = true)
    (k1 : PySem.W.keepIn K (.ref f1) = true)
    (a2 : PySem.W.nsIn K mainGlobals "_law_counts" = some (some (.ref f2)))
    (l2 : K.lookup f2 = some ⟨oc2, od2, .func (PySem.W.fnOf "_law_counts" "_law_counts" (defArgs sLCn) (defBody sLCn) (defScope sLCn) .none kV2 doc2 pm2 an2 cd2 ct2), osl2⟩)
    (c2 : PySem.W.codeIn K cd2 "_law_counts" = true)
    (k2 : PySem.W.keepIn K (.ref f2) = true)
    (a3 : PySem.W.nsIn K mainGlobals "law" = some (some (.ref f3)))
    (l3 : K.lookup f3 = some ⟨oc3, od3, .func (PySem.W.fnOf "law" "law" (defArgs sLaw) (defBody sLaw) (defScope sLaw) .none kV3 doc3 pm3 an3 cd3 ct3), osl3⟩)
    (c3 : PySem.W.codeIn K cd3 "law" = true)
    (k3 : PySem.W.keepIn K (.ref f3) = true)
    (zInt : PySem.W.nsIn K mainGlobals "int" = some none)
    (zAbs : PySem.W.nsIn K mainGlobals "abs" = some none)
    (zLen : PySem.W.nsIn K mainGlobals "len" = some none)
    (zRange : PySem.W.nsIn K mainGlobals "range" = some none)
    (zRepr : PySem.W.nsIn K mainGlobals "repr" = some none)
    (zList : PySem.W.nsIn K mainGlobals "list" = some none)
    (zSorted : PySem.W.nsIn K mainGlobals "sorted" = some none)
    (zIsinstance : PySem.W.nsIn K mainGlobals "isinstance" = some none)
    (zDict : PySem.W.nsIn K mainGlobals "dict" = some none)
    (aMLe0 : PySem.W.findIn K (.ref cLe) "__init__" = some (some (.ref fMLe0)))
    (iMLe0 : PySem.W.isFn K (.ref fMLe0) = true)
    (lMLe0 : K.lookup fMLe0 = some ⟨ocMLe0, odMLe0, .func (PySem.W.fnOf "__init__" "Ledger.__init__" (defArgs sLIn) (defBody sLIn) (defScope sLIn) .none kVMLe0 docMLe0 pmMLe0 anMLe0 cdMLe0 ctMLe0), oslMLe0⟩)
    (cMLe0 : PySem.W.codeIn K cdMLe0 "Ledger.__init__" = true)
    (kMLe0 : PySem.W.keepIn K (.ref fMLe0) = true)
    (aMLe1 : PySem.W.findIn K (.ref cLe) "collect" = some (some (.ref fMLe1)))
    (iMLe1 : PySem.W.isFn K (.ref fMLe1) = true)
    (lMLe1 : K.lookup fMLe1 = some ⟨ocMLe1, odMLe1, .func (PySem.W.fnOf "collect" "Ledger.collect" (defArgs sLCo) (defBody sLCo) (defScope sLCo) .none kVMLe1 docMLe1 pmMLe1 anMLe1 cdMLe1 ctMLe1), oslMLe1⟩)
    (cMLe1 : PySem.W.codeIn K cdMLe1 "Ledger.collect" = true)
    (kMLe1 : PySem.W.keepIn K (.ref fMLe1) = true)
    (aMLe2 : PySem.W.findIn K (.ref cLe) "total" = some (some (.ref fMLe2)))
    (iMLe2 : PySem.W.isFn K (.ref fMLe2) = true)
    (lMLe2 : K.lookup fMLe2 = some ⟨ocMLe2, odMLe2, .func (PySem.W.fnOf "total" "Ledger.total" (defArgs sLTo) (defBody sLTo) (defScope sLTo) .none kVMLe2 docMLe2 pmMLe2 anMLe2 cdMLe2 ctMLe2), oslMLe2⟩)
    (cMLe2 : PySem.W.codeIn K cdMLe2 "Ledger.total" = true)
    (kMLe2 : PySem.W.keepIn K (.ref fMLe2) = true)
    (pgLe : PySem.W.plainGet K cLe Str.empty = true)
    (hdLe : PySem.W.hasDictIn K cLe = true)
    (poLe : PySem.W.plainOver K cLe = true)
    (saLe : PySem.W.findIn K (.ref cLe) "__setattr__" = some (some (.builtin "object.__setattr__")))
    (mkLe : PySem.W.makesIn K cLe = true)
    (kcLe : PySem.W.keepIn K (.ref cLe) = true)
    (nLe_sums : PySem.W.findIn K (.ref cLe) "sums" = some none)
    : ∃ fd : FuncData, (∀ (s : Shared) (u : Value), BindsTo s fd ⟨[u], []⟩ [("script", u)]) ∧ ∀ base : Heap, K.In base → base.Ns mainGlobals mg → FnG P w K mg base CX0 4 fa fd ["script"] (spLaw K) := by
  have e := hfa.symm.trans (PySem.W.mg_of X G a3)
  cases e
  have A0 : AtD K mg "_law_state" sState ["script"] := at_of_name X G a0 l0 c0 k0 fun _ _ _ _ _ _ us hl => match us, hl with | [_], _ => rfl
  have A1 : AtD K mg "_law_draw" sDraw ["state", "many"] := at_of_name X G a1 l1 c1 k1 fun _ _ _ _ _ _ us hl => match us, hl with | [_, _], _ => rfl
  have A2 : AtD K mg "_law_counts" sLCn ["state"] := at_of_name X G a2 l2 c2 k2 fun _ _ _ _ _ _ us hl => match us, hl with | [_], _ => rfl
  refine ⟨PySem.W.fnOf "law" "law" (defArgs sLaw) (defBody sLaw) (defScope sLaw) .none kV3 doc3 pm3 an3 cd3 ct3, fun s u => .of_eq rfl, fun base _ _ => ?_⟩
  have FMLe0 := fun_mk (st := sLIn) lMLe0 cMLe0 kMLe0
  have BMLe0 := FMLe0.binds (ps := ["self"]) fun _ _ _ _ _ _ us hl => match us, hl with | [_], _ => rfl
  have FMLe1 := fun_mk (st := sLCo) lMLe1 cMLe1 kMLe1
  have BMLe1 := FMLe1.binds (ps := ["self", "version", "counts"]) fun _ _ _ _ _ _ us hl => match us, hl with | [_, _, _], _ => rfl
  have FMLe2 := fun_mk (st := sLTo) lMLe2 cMLe2 kMLe2
  have BMLe2 := FMLe2.binds (ps := ["self", "others"]) fun _ _ _ _ _ _ us hl => match us, hl with | [_, _], _ => rfl
  have Bt : Blt mg := ⟨(PySem.W.mg_none_of X G zInt), (PySem.W.mg_none_of X G zAbs), (PySem.W.mg_none_of X G zLen)⟩
  have T : BkL mg := ⟨(PySem.W.mg_none_of X G zRange), (PySem.W.mg_none_of X G zRepr), (PySem.W.mg_none_of X G zList), (PySem.W.mg_none_of X G zSorted), (PySem.W.mg_none_of X G zIsinstance), (PySem.W.mg_none_of X G zDict)⟩
  have RC : LeC K cLe := ⟨⟨pgLe, hdLe, poLe, saLe⟩, nLe_sums⟩
  have M0 : MkC P w K mg base CX0 1 cLe "Ledger" ["self"] (spLIn cLe) := ⟨_, _, ok_LIn (k := 0) FMLe0 RC, ⟨mkLe, aMLe0, iMLe0, kcLe⟩, BMLe0, PySem.W.mg_of X G aCLe⟩
  have M1 : Mt P w K mg base CX0 1 cLe "collect" ["self", "version", "counts"] (spLCo K cLe) := ⟨_, _, ok_LCo (k := 0) FMLe1 RC, ⟨aMLe1, iMLe1, kMLe1⟩, BMLe1⟩
  have M2 : Mt P w K mg base CX0 3 cLe "total" ["self", "others"] (spLTo K cLe) := ⟨_, _, ok_LTo FMLe2 RC (PySem.W.mg_none_of X G zSorted) M0 M1, ⟨aMLe2, iMLe2, kMLe2⟩, BMLe2⟩
  have D1 : Df P w K mg base CX0 1 "_law_state" ["script"] (spState K) := A0.df fun f fd F => ok_state (k := 0) F Bt
  have D2 : Df P w K mg base CX0 1 "_law_draw" ["state", "many"] (spDraw) := A1.df fun f fd F => ok_draw (k := 0) F Bt
  have D3 : Df P w K mg base CX0 2 "_law_counts" ["state"] (spLCn) := A2.df fun f fd F => ok_LCn F Bt (PySem.W.mg_none_of X G zRange) D2
  exact ok_law (fun_mk (st := sLaw) l3 c3 k3) RC T D1 D2 D3 M0 M1 M2
theorem walk {l : PySem.W.OpenLaw} {q : Program} {loose : List Str} {XP : (Str → Option Value) → Heap → Prop} {YP : World → Heap → Prop} {d : DefRec} {K : Params → PySem.W.Frag} (hn : l.most = some 63) (hdf : d.params.defaults = [])
    (hY : ∀ (w : World) (h : Heap), YP w h → (K w.params).In h)
    (F : ∀ (w : World) (mg : Str → Option Value) (fa : Addr) (h : Heap), (K w.params).In h → h.Ns mainGlobals mg → mg d.name = some (.ref fa) →
      ∃ fd : FuncData, (∀ (s : Shared) (u : Value), BindsTo s fd ⟨[u], []⟩ [("script", u)]) ∧ ∀ base : Heap, (K w.params).In base → base.Ns mainGlobals mg → FnG l.prog w (K w.params) mg base CX0 4 fa fd ["script"] (spLaw (K w.params))) :
    PySem.W.WalkO q loose XP YP l.row.toRowW d [] (fun f vs => PySem.call f vs) :=
  walk_ofG (n := 63) (k := 4) (x := "script") (CX := fun _ => CX0) (sp := fun w => spLaw (K w.params)) hn (by decide) hdf ⟨rfl, by decide, by decide⟩ hY F (fun _ _ a ns hl _ hS => ⟨a, ns, rfl, hS, hl, fun _ => rfl⟩) fun _ _ _ _ _ z => z
end Pk
open PySem PySem.W PyProof.Rows
set_option maxRecDepth 100000 in
set_option maxHeartbeats 0 in
theorem PySem.Challenge.cw_wholepackets_k24_ledgers_holds : PySem.Challenge.rw_wholepackets_k24_ledgers.Holds := by
  w_on; o_law; k_head; (case hw => w_witness2)
  k_fill
  refine Pk.walk (l := PySem.Challenge.rw_wholepackets_k24_ledgers) rfl rfl (fun w h Y => PySem.W.kIn_of Y) ?F
  case F =>
    intro w mg fa h KX G hmg
    refine' Pk.all_mk KX G hmg ?aCLe ?a0 ?l0 ?c0 ?k0 ?a1 ?l1 ?c1 ?k1 ?a2 ?l2 ?c2 ?k2 ?a3 ?l3 ?c3 ?k3 ?zInt ?zAbs ?zLen ?zRange ?zRepr ?zList ?zSorted ?zIsinstance ?zDict ?aMLe0 ?iMLe0 ?lMLe0 ?cMLe0 ?kMLe0 ?aMLe1 ?iMLe1 ?lMLe1 ?cMLe1 ?kMLe1 ?aMLe2 ?iMLe2 ?lMLe2 ?cMLe2 ?kMLe2 ?pgLe ?hdLe ?poLe ?saLe ?mkLe ?kcLe ?nLe_sums
    (case aCLe => k_is)
    (case a0 => k_is)
    (case l0 => k_is)
    (case c0 => k_is)
    (case k0 => k_is)
    (case a1 => k_is)
    (case l1 => k_is)
    (case c1 => k_is)
    (case k1 => k_is)
    (case a2 => k_is)
    (case l2 => k_is)
    (case c2 => k_is)
    (case k2 => k_is)
    (case a3 => k_is)
    (case l3 => k_is)
    (case c3 => k_is)
    (case k3 => k_is)
    (case zInt => k_is)
    (case zAbs => k_is)
    (case zLen => k_is)
    (case zRange => k_is)
    (case zRepr => k_is)
    (case zList => k_is)
    (case zSorted => k_is)
    (case zIsinstance => k_is)
    (case zDict => k_is)
    (case aMLe0 => k_is)
    (case iMLe0 => k_is)
    (case lMLe0 => k_is)
    (case cMLe0 => k_is)
    (case kMLe0 => k_is)
    (case aMLe1 => k_is)
    (case iMLe1 => k_is)
    (case lMLe1 => k_is)
    (case cMLe1 => k_is)
    (case kMLe1 => k_is)
    (case aMLe2 => k_is)
    (case iMLe2 => k_is)
    (case lMLe2 => k_is)
    (case cMLe2 => k_is)
    (case kMLe2 => k_is)
    (case pgLe => k_is)
    (case hdLe => k_is)
    (case poLe => k_is)
    (case saLe => k_is)
    (case mkLe => k_is)
    (case kcLe => k_is)
    (case nLe_sums => k_is)
