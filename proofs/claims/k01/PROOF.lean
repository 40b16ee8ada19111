import PyProof.Rows.All
import Wide.All
import OpenK.AllK
import Wide.FinOn
import PySem.Challenge.RW_heedless_k01_parts_in_lowest_terms
import HandS.ForMost
import HandS.Wide
import HandS.EndBits
import HandS.IsInst
import HandS.Defaults
import HandS.Evl
import HandS.Style
import HandS.ForExc
import HandS.ExcInit
import HandS.ExcField
import HandS.ClsMeth
import KE.KExcIs
set_option Elab.async false
set_option linter.all false
set_option maxRecDepth 100000
set_option maxHeartbeats 4000000
namespace Hl
open PySem PySem.Spec PyProof.Rows L2
def topS (i : Nat) : Stmt := PySem.Challenge.pw_heedless_k01_parts_in_lowest_terms.main.body.getD i (.Pass ⟨0, 0, 0, 0⟩)
abbrev sGcd : Stmt := topS 4
abbrev sPart : Stmt := topS 5
abbrev sLow : Stmt := topS 11
/-! mathematics -/
/-- the greatest common number, as an int -/
def gI (a b : Int) : Int := ((Int.gcd a b : Nat) : Int)
def sgn (o u : Int) : Int := if u < 0 then -(gI o u) else gI o u
def lowF (o u : Int) : List V := [.int (o.fdiv (sgn o u)), .int (u.fdiv (sgn o u))]
theorem gI_step {x y : Int} (hx : 0 ≤ x) (hy : 0 < y) : gI y (x % y) = gI x y := by
  obtain ⟨n, rfl⟩ := Int.eq_ofNat_of_zero_le hx
  obtain ⟨m, rfl⟩ := Int.eq_ofNat_of_zero_le (Int.le_of_lt hy)
  unfold gI Int.gcd
  rw [← Int.natCast_emod, Int.natAbs_natCast, Int.natAbs_natCast, Int.natAbs_natCast, Nat.gcd_comm n m, Nat.gcd_rec m n, Nat.gcd_comm]
theorem gI_zero {x : Int} (hx : 0 ≤ x) : gI x 0 = x := by
  unfold gI
  rw [Int.gcd_zero]
  omega
theorem absV (i : Int) : (if i < 0 then -i else i) = (i.natAbs : Int) := by
  split <;> omega
theorem gI_abs (o u : Int) : gI (o.natAbs : Int) (u.natAbs : Int) = gI o u := by
  unfold gI Int.gcd
  rw [Int.natAbs_natCast, Int.natAbs_natCast]
theorem gI_pos {o u : Int} (h : u ≠ 0) : 0 < gI o u := by
  unfold gI
  have := Int.gcd_pos_of_ne_zero_right o h
  omega
theorem gI_le {o u : Int} (h : u ≠ 0) : (gI o u).natAbs ≤ u.natAbs := by
  unfold gI
  have := Nat.gcd_le_right o.natAbs (Int.natAbs_pos.mpr h)
  unfold Int.gcd
  omega
theorem sgn_ne {o u : Int} (h : u ≠ 0) : sgn o u ≠ 0 := by
  have := gI_pos (o := o) h
  unfold sgn
  split <;> omega
theorem sgn_abs (o u : Int) : (sgn o u).natAbs = (gI o u).natAbs := by
  unfold sgn
  split <;> omega
/-- // by any divisor but nought, below 2 ^ 9000 in size -/
def CDivZ (_ j : Int) : Prop := j ≠ 0 ∧ j.natAbs.log2 < 9000
theorem op_fdivZ {X : Cx} : OpR X (binaryOp .FloorDiv) (rI CDivZ fun i j => .int (i.fdiv j)) :=
  opI fun _ _ _ _ _ _ _ hc q => floordiv_int hc.1 q (.inl (PyProof.noPylong_of_log2 hc.2))
theorem divZ {i j : Int} (h : j ≠ 0) (hb : j.natAbs < 2 ^ 9000) : CDivZ i j :=
  ⟨h, PySem.Flt.log2_lt_of (by decide) hb⟩
section
variable {P : Program} {w : World} {K : PySem.W.Frag} {mg : Str → Option Value} {base : Heap}
/-! greatest_common -/
def spGcd : Sp := fun vs H Q _ => ∃ a b : Int, vs = [.int a, .int b] ∧ 0 ≤ a ∧ 0 ≤ b ∧ Q (.int (gI a b)) H
theorem scG : FnScope ["one", "other"] ["one", "other"] (defScope sGcd) := ⟨rfl, rfl, rfl, by decide +kernel, rfl, by decide +kernel, by decide +kernel⟩
theorem ok_gcd {f : Addr} {fd : FuncData} {k : Nat} (F : Fun K "greatest_common" "greatest_common" sGcd f fd) : FnOk P w K mg base CX0 (k + 1) f fd ["one", "other"] spGcd := by
  refine F.ok scG (fun vs H Q E h => ?_) (fun cdv A outer s H vs Q E hr h => ?_)
  · obtain ⟨a, b, rfl, _⟩ := h
    rfl
  · obtain ⟨a, b, rfl, ha, hb, q⟩ := h
    refine ⟨_, pss_cons (ps_while PassesOwn.never (pt_cmpR op_ne (pv 1) pe_int (nomark _))
        (pss_one (ps_par (i := 0) (j := 1) rfl scG.nd rfl rfl (by decide) rfl rfl (pa_cons (pv 1) (pa_cons (pe_op op_mod (pv 0) (pv 1)) pa_nil)) (by rfl))))
      (pss_one (ps_ret (pv 0))), ?_⟩
    refine ⟨fun m σ H' => ∃ x y : Int, σ = [some (.int x), some (.int y)] ∧ 0 ≤ x ∧ 0 ≤ y ∧ m = y.toNat ∧ gI x y = gI a b ∧ H' = H,
      ⟨_, a, b, rfl, ha, hb, rfl, rfl, rfl⟩, ?_⟩
    rintro m σ H' ⟨x, y, rfl, hx, hy, rfl, hg, rfl⟩
    refine ⟨_, rfl, rfl, _, rfl, ite2 (fun e => ?_) (fun e => ?_)⟩
    · have hy0 : y ≠ 0 := fun z => by
        subst z
        exact absurd e (by decide)
      have hy1 : 0 < y := by omega
      refine ⟨fun σ' H'' => ∃ x' y' : Int, σ' = [some (.int x'), some (.int y')] ∧ 0 ≤ x' ∧ 0 ≤ y' ∧ y' < y ∧ gI x' y' = gI a b ∧ H'' = H', fun σ' H'' ⟨x', y', e1, e2, e3, e4, e5, e6⟩ => ⟨y'.toNat, by omega, x', y', e1, e2, e3, rfl, e5, e6⟩, ?_⟩
      refine ⟨_, rfl, _, rfl, _, rfl, _, _, rfl, rfl, hy1, _, _, rfl, ?_⟩
      exact ⟨y, x % y, rfl, hy, Int.emod_nonneg _ hy0, Int.emod_lt_of_pos _ hy1, (gI_step hx hy1).trans hg, rfl⟩
    · have hy0 : y = 0 := by
        by_cases z : y = 0
        · exact z
        · exact absurd (show (!decide (V.int y = V.int 0)) = true by simp [z]) e
      subst hy0
      rw [gI_zero hx] at hg
      subst hg
      exact ⟨_, rfl, q⟩
end
end Hl

set_option Elab.async false
set_option linter.all false
set_option maxRecDepth 100000
set_option maxHeartbeats 4000000
namespace Hl
open PySem PySem.Spec PyProof.Rows L2
abbrev sDeal : Stmt := topS 7
abbrev sPick : Stmt := topS 8
abbrev sOf : Stmt := topS 9
/-- a positive divisor below 2 ^ 9000 -/
def CDivP (_ j : Int) : Prop := 0 < j ∧ j.natAbs.log2 < 9000
theorem op_fdivP {X : Cx} : OpR X (binaryOp .FloorDiv) (rI CDivP fun i j => .int (i / j)) := opI fun i j _ _ _ _ _ hc q => by
  have h1 : (0 : Int) < j := hc.1
  exact floordiv_int (by omega) (by rw [Int.fdiv_eq_ediv_of_nonneg i (by omega)]; exact q) (.inl (PyProof.noPylong_of_log2 hc.2))
/-- what stands in a deal -/
def d5 (l : Addr) (at' z m c : Int) : HO := .lst [.ref l, .int at', .int z, .int m, .int c]
structure Deal (H : Hp) (p : Addr) : Prop where
  ex : ∃ (l : Addr) (ns : List Int) (a z m c : Int), H p = some (d5 l a z m c) ∧ H l = some (.lst (ns.map V.int)) ∧ l ≠ p ∧ 0 ≤ a ∧ 0 ≤ z ∧ 0 ≤ m ∧ m < 2147483587
theorem upd_upd {H : Hp} {p : Addr} {a b : HO} : upd (upd H p a) p b = upd H p b := by
  funext x
  by_cases h : x = p
  · rw [h, upd_same, upd_same]
  · rw [upd_ne h, upd_ne h, upd_ne h]
theorem same_upd {H : Hp} {p : Addr} {o : HO} (h : H p = none) : Same H (upd H p o) := fun b x e => by
  rw [upd_ne (ne_of_none e h)]
  exact e
theorem ne_of_fresh {H : Hp} {a b : Addr} {o : HO} (h : H a = some o) (n : H b = none) : b ≠ a := fun e => by
  rw [e, h] at n
  cases n
/-- what H tracks stays, but at p -/
def But (p : Addr) (H H' : Hp) : Prop := ∀ b o, b ≠ p → H b = some o → H' b = some o
theorem But.refl (p : Addr) (H : Hp) : But p H H := fun _ _ _ h => h
theorem But.trans {p : Addr} {H H1 H2 : Hp} (a : But p H H1) (b : But p H1 H2) : But p H H2 := fun x o n h => b x o n (a x o n h)
theorem But.of {p : Addr} {H H1 : Hp} (a : Same H H1) : But p H H1 := fun x o _ h => a x o h
theorem But.upd {p : Addr} {H : Hp} {o : HO} : But p H (upd H p o) := fun b x n h => by
  rw [upd_ne n]
  exact h
theorem cut63 {xs : List V} (h : xs.length ≤ 63) : cutV xs none (some 63) = xs := by
  unfold cutV
  rw [HT.sIx_none, show HT.sIx xs.length xs.length (some 63) = min 63 xs.length from HT.sIx_nat xs.length xs.length 63, Nat.min_eq_right h]
  show (List.take (xs.length - 0) xs) = xs
  rw [Nat.sub_zero, List.take_length]
section
variable {P : Program} {w : World} {K : PySem.W.Frag} {mg : Str → Option Value} {base : Heap}
/-! _law_deal -/
def spDeal (K : PySem.W.Frag) : Sp := fun vs H Q _ => ∃ (a : Addr) (ns : List Int), vs = [.ref a] ∧ SqL K H a (ns.map V.int) ∧ ns.length ≤ 63 ∧
  ∀ H' p, Same H H' → H p = none → Deal H' p → Q (.ref p) H'
theorem scD : FnScope ["_law_script", "_law_mixed", "_law_cell"] ["_law_script"] (defScope sDeal) := ⟨rfl, rfl, rfl, by decide +kernel, rfl, by decide +kernel, by decide +kernel⟩
theorem ok_deal {f : Addr} {fd : FuncData} {k : Nat} (F : Fun K "_law_deal" "_law_deal" sDeal f fd) (mL : mg "list" = none) : FnOk P w K mg base CX0 (k + 1) f fd ["_law_script"] (spDeal K) := by
  refine F.ok scD (fun vs H Q E h => ?_) (fun cdv A outer s H vs Q E hr h => ?_)
  · obtain ⟨a, ns, rfl, _⟩ := h
    rfl
  · obtain ⟨a, ns, rfl, hS, hlen, q⟩ := h
    refine ⟨_, pss_cons (ps_set (i := 1) scD.nd rfl (.inl rfl) pe_int)
      (pss_cons (ps_for PassesOwn.never rfl (pi_list (pe_slice sl_list (pv 0) po_none (po_some pe_int))) (pg_name (i := 2) scD.nd rfl (.inl rfl))
        (pss_one (ps_set (i := 1) scD.nd rfl (.inl rfl) (pe_op op_mod (pe_op op_add (pe_op op_add (pe_op op_mul (pv 1) pe_int) (pe_op op_mod (pv 2) pe_int)) pe_int) pe_int))))
      (pss_one (ps_ret (pe_lst (pa_cons (pe_callTy call_list_of (by rfl) mL (by decide +kernel) (pa_cons (pe_slice sl_list (pv 0) po_none (po_some pe_int)) pa_nil)) (pa_cons pe_int (pa_cons pe_int (pa_cons (pv 1) (pa_cons pe_int pa_nil))))))))), ?_⟩
    have hl63 : (ns.map V.int).length ≤ 63 := by rw [List.length_map]; exact hlen
    refine ⟨_, rfl, 63, rfl, a, ns.map V.int, rfl, hS, fun c nc => ?_⟩
    rw [cut63 hl63]
    have s1 : Same H (upd H c (.lst (ns.map V.int))) := same_upd nc
    refine ⟨c, rfl, ⟨_, SqL.of upd_same⟩, for_list (K := K) (a := c) (xs := ns.map V.int) (fun i σ H' => ∃ (m : Int) (v : Option V), σ = [some (.ref a), some (.int m), v] ∧ 0 ≤ m ∧ m < 2147483587 ∧ H' = upd H c (.lst (ns.map V.int)))
      ⟨9144, none, rfl, by decide, by decide, rfl⟩ (fun i σ H' _ ⟨_, _, _, _, _, e⟩ => by rw [e]; exact SqL.of upd_same) ?_ ?_⟩
    · rintro i y σ H' hi ⟨m, v, rfl, h0, h1, rfl⟩
      obtain ⟨z, hz, rfl⟩ : ∃ z, ns[i]? = some z ∧ y = V.int z := by
        rw [List.getElem?_map] at hi
        cases e : ns[i]? with
        | none =>
          rw [e] at hi
          cases hi
        | some z =>
          rw [e] at hi
          exact ⟨z, rfl, (Option.some.inj hi).symm⟩
      refine ⟨_, rfl, _, _, rfl, rfl, .inl ⟨by omega, by omega⟩, _, rfl, _, _, rfl, rfl, (by show (0 : Int) < 2147483629; decide), _, _, rfl, rfl, _, _, rfl, rfl, _, _, rfl, rfl, (by show (0 : Int) < 2147483587; decide), ?_⟩
      exact ⟨_, some (.int z), rfl, Int.emod_nonneg _ (by decide), Int.emod_lt_of_pos _ (by decide), rfl⟩
    · rintro σ H' ⟨m, v, rfl, h0, h1, rfl⟩
      refine ⟨_, rfl, 63, rfl, a, ns.map V.int, rfl, s1.seq hS, fun b nb => ?_⟩
      rw [cut63 hl63]
      have s2 := same_upd (o := .lst (ns.map V.int)) nb
      refine ⟨b, _, rfl, .inl (SqL.of upd_same), fun l nl => ?_⟩
      have s3 := same_upd (o := .lst (ns.map V.int)) nl
      refine ⟨_, rfl, (by show 5 ≤ sizeLine; decide), fun p np => ?_⟩
      have s4 := same_upd (o := d5 l 0 0 m 0) np
      have S3 := s1.trans (s2.trans s3)
      refine q _ p (S3.trans s4) (S3.free np) ⟨l, ns, 0, 0, m, 0, upd_same, ?_, ?_, by decide, by decide, h0, h1⟩
      · exact s4 _ _ upd_same
      · exact (ne_of_fresh (o := .lst (ns.map V.int)) upd_same np).symm
end
end Hl

set_option Elab.async false
set_option linter.all false
set_option maxRecDepth 100000
set_option maxHeartbeats 4000000
namespace Hl
open PySem PySem.Spec PyProof.Rows L2
section
variable {P : Program} {w : World} {K : PySem.W.Frag} {mg : Str → Option Value} {base : Heap}
/-! _law_pick -/
def spPick : Sp := fun vs H Q _ => ∃ (p : Addr) (n : Int), vs = [.ref p, .int n] ∧ Deal H p ∧ 0 < n ∧ n.natAbs.log2 < 9000 ∧
  ∀ (o : HO) (r : Int), Deal (upd H p o) p → 0 ≤ r → r < n → Q (.int r) (upd H p o)
theorem scK : FnScope ["_law_deal_here", "_law_many", "_law_cell", "_law_got", "_law_seed"] ["_law_deal_here", "_law_many"] (defScope sPick) := ⟨rfl, rfl, rfl, by decide +kernel, rfl, by decide +kernel, by decide +kernel⟩
theorem ok_pick {f : Addr} {fd : FuncData} {k : Nat} (F : Fun K "_law_pick" "_law_pick" sPick f fd) (mLen : mg "len" = none) : FnOk P w K mg base CX0 (k + 1) f fd ["_law_deal_here", "_law_many"] spPick := by
  refine F.ok scK (fun vs H Q E h => ?_) (fun cdv A outer s H vs Q E hr h => ?_)
  · obtain ⟨a, ns, rfl, _⟩ := h
    rfl
  · obtain ⟨p, n, rfl, ⟨l, ns, a, z, m, c, hp, hl, hlp, ha, hz, hm, hm2⟩, hn, hn2, q⟩ := h
    refine ⟨_, pss_cons (ps_asg (pe_op op_add (pe_ix ix_list (pv 0) pe_int (fun _ _ => rfl)) pe_int) (pg_sub (pv 0) pe_int set_list))
      (Evl.pss_cut (ps_if (PW.pt (pw_and (pt_cmpR op_eq (pe_ix ix_list (pv 0) pe_int (fun _ _ => rfl)) pe_int (nomark _)) (pw_and1 (pt_cmpR op_lt (pe_ix ix_list (pv 0) pe_int (fun _ _ => rfl)) (pe_callB call_len_seq (by rfl) mLen PySem.boot_len (pa_cons (pe_ix ix_list (pv 0) pe_int (fun _ _ => rfl)) pa_nil)) (nomark _)))))
          (pss_cons (ps_set (i := 2) scK.nd rfl (.inl rfl) (pe_ix ix_list (pe_ix ix_list (pv 0) pe_int (fun _ _ => rfl)) (pe_ix ix_list (pv 0) pe_int (fun _ _ => rfl)) (fun _ _ => rfl)))
          (pss_cons (ps_asg (pe_op op_add (pe_ix ix_list (pv 0) pe_int (fun _ _ => rfl)) pe_int) (pg_sub (pv 0) pe_int set_list))
          (pss_one (ps_if (pt_cmpR op_ge (pv 2) (pe_op op_pow pe_int pe_int) (nomark _)) (pss_one (ps_asg (pv 2) (pg_sub (pv 0) pe_int set_list)))
            (pss_one (ps_asg (pe_op op_mod (pe_op op_add (pe_op op_add (pe_op op_mul (pe_ix ix_list (pv 0) pe_int (fun _ _ => rfl)) pe_int) (pe_op op_mul (pe_op op_mod (pv 2) pe_int) pe_int)) pe_int) pe_int) (pg_sub (pv 0) pe_int set_list)))))))
          pss_nil)
      (pss_cons (ps_if (pt_cmpR op_gt (pe_ix ix_list (pv 0) pe_int (fun _ _ => rfl)) pe_int (nomark _))
          (pss_cons (ps_set (i := 3) scK.nd rfl (.inl rfl) (pe_op op_mod (pe_ix ix_list (pv 0) pe_int (fun _ _ => rfl)) (pv 1)))
          (pss_cons (ps_asg (pe_op op_fdivP (pe_ix ix_list (pv 0) pe_int (fun _ _ => rfl)) (pv 1)) (pg_sub (pv 0) pe_int set_list))
          (pss_one (ps_ret (pv 3))))) pss_nil)
      (pss_cons (ps_set (i := 4) scK.nd rfl (.inl rfl) (pe_ix ix_list (pv 0) pe_int (fun _ _ => rfl)))
      (pss_cons (ps_asg (pe_op op_mod (pe_op op_add (pe_op op_add (pe_op op_add (pe_op op_mul (pe_op op_mod (pe_op op_mul (pv 4) (pv 4)) pe_int) pe_int) (pe_op op_mul (pv 4) pe_int)) pe_int) (pe_ix ix_list (pv 0) pe_int (fun _ _ => rfl))) pe_int) (pg_sub (pv 0) pe_int set_list))
      (pss_one (ps_ret (pe_op op_mod (pe_op op_add (pe_op op_fdivP (pe_ix ix_list (pv 0) pe_int (fun _ _ => rfl)) pe_int) (pe_op op_mul (pe_op op_mod (pe_ix ix_list (pv 0) pe_int (fun _ _ => rfl)) pe_int) pe_int)) (pv 1)))))))), ?_⟩
    -- deal[4] = deal[4] + 1
    refine ⟨_, rfl, p, _, 4, _, rfl, rfl, SqL.of hp, atI_nat (j := 4) rfl, _, _, rfl, rfl, _, rfl, p, _, 4, 4, rfl, rfl, hp, by rfl, ?_⟩
    have hl1 : ∀ o, upd H p o l = some (.lst (ns.map V.int)) := fun o => by rw [upd_ne hlp]; exact hl
    have hp1 : (upd H p (d5 l a z m (c + 1))) p = some (d5 l a z m (c + 1)) := upd_same
    -- the ways meet
    refine ⟨fun σ' H' => ∃ (v : Option V) (a z m : Int), σ' = [some (.ref p), some (.int n), v, none, none] ∧ H' = upd H p (d5 l a z m (c + 1)) ∧ 0 ≤ a ∧ 0 ≤ z ∧ 0 ≤ m ∧ m < 2147483587, ?_, ?_⟩
    · refine ⟨_, rfl, p, _, 2, _, rfl, rfl, SqL.of hp1, atI_nat (j := 2) rfl, rfl, _, rfl, ite2 (fun e => ?_) (fun e => ?_)⟩
      · refine ⟨_, rfl, p, _, 1, _, rfl, rfl, SqL.of hp1, atI_nat (j := 1) rfl, _, rfl, p, _, 0, _, rfl, rfl, SqL.of hp1, atI_nat (j := 0) rfl, l, _, rfl, .inl (SqL.of (hl1 _)), _, _, rfl, rfl, _, rfl, ite2 (fun e2 => ?_) (fun e2 => ?_)⟩
        · have hlt : a < ((ns.map V.int).length : Int) := of_decide_eq_true e2
          obtain ⟨j, rfl⟩ := Int.eq_ofNat_of_zero_le ha
          have hj : j < ns.length := by
            rw [List.length_map] at hlt
            omega
          have gj : (ns.map V.int)[j]? = some (.int ns[j]) := by
            rw [List.getElem?_map, List.getElem?_eq_getElem hj]
            rfl
          refine ⟨_, rfl, p, _, 0, _, rfl, rfl, SqL.of hp1, atI_nat (j := 0) rfl, _, rfl, p, _, 1, _, rfl, rfl, SqL.of hp1, atI_nat (j := 1) rfl, l, _, _, _, rfl, rfl, SqL.of (hl1 _), atI_nat (j := j) gj, ?_⟩
          refine ⟨_, rfl, p, _, 1, _, rfl, rfl, SqL.of hp1, atI_nat (j := 1) rfl, _, _, rfl, rfl, _, rfl, p, _, 1, 1, rfl, rfl, hp1, by rfl, ?_⟩
          have hp2 : (upd (upd H p (d5 l j z m (c + 1))) p (d5 l (j + 1) z m (c + 1))) p = some (d5 l (j + 1) z m (c + 1)) := upd_same
          refine ⟨_, rfl, _, _, rfl, rfl, ⟨by decide, by decide, by decide⟩, _, _, rfl, rfl, _, rfl, ite2 (fun e3 => ?_) (fun e3 => ?_)⟩
          · have h18 : (1000000000000000000 : Int) ≤ ns[j] := of_decide_eq_true e3
            refine ⟨_, rfl, _, rfl, p, _, 2, 2, rfl, rfl, hp2, by rfl, ?_⟩
            exact ⟨_, _, _, _, rfl, by rw [upd_upd, upd_upd]; rfl, by omega, by omega, hm, hm2⟩
          · refine ⟨_, rfl, p, _, 3, _, rfl, rfl, SqL.of hp2, atI_nat (j := 3) rfl, _, _, rfl, rfl, .inl ⟨by omega, by omega⟩, _, rfl, _, _, rfl, rfl, (by show (0 : Int) < 2147483629; decide), _, _, rfl, rfl, .inr ⟨by decide, by decide⟩, _, _, rfl, rfl, _, _, rfl, rfl, _, _, rfl, rfl, (by show (0 : Int) < 2147483587; decide), _, rfl, p, _, 3, 3, rfl, rfl, hp2, by rfl, ?_⟩
            exact ⟨_, _, _, _, rfl, by rw [upd_upd, upd_upd]; rfl, by omega, hz, Int.emod_nonneg _ (by decide), Int.emod_lt_of_pos _ (by decide)⟩
        · exact ⟨_, _, _, _, rfl, rfl, ha, hz, hm, hm2⟩
      · exact iteF ⟨_, _, _, _, rfl, rfl, ha, hz, hm, hm2⟩
    · rintro σ' H' ⟨v, a, z, m, rfl, rfl, ha, hz, hm, hm2⟩
      have hp1 : (upd H p (d5 l a z m (c + 1))) p = some (d5 l a z m (c + 1)) := upd_same
      have dl : ∀ (z m : Int), 0 ≤ z → 0 ≤ m → m < 2147483587 → Deal (upd H p (d5 l a z m (c + 1))) p := fun z m h1 h2 h3 => ⟨l, ns, a, z, m, c + 1, upd_same, hl1 _, hlp, ha, h1, h2, h3⟩
      refine ⟨_, rfl, p, _, 2, _, rfl, rfl, SqL.of hp1, atI_nat (j := 2) rfl, _, _, rfl, rfl, _, rfl, ite2 (fun e => ?_) (fun e => ?_)⟩
      · refine ⟨_, rfl, p, _, 2, _, rfl, rfl, SqL.of hp1, atI_nat (j := 2) rfl, _, rfl, _, _, rfl, rfl, hn, ?_⟩
        refine ⟨_, rfl, p, _, 2, _, rfl, rfl, SqL.of hp1, atI_nat (j := 2) rfl, _, rfl, _, _, rfl, rfl, ⟨hn, hn2⟩, _, rfl, p, _, 2, 2, rfl, rfl, hp1, by rfl, ?_⟩
        refine ⟨_, rfl, ?_⟩
        rw [upd_upd]
        exact q _ _ (dl _ _ (Int.ediv_nonneg hz (Int.le_of_lt hn)) hm hm2) (Int.emod_nonneg _ (by omega)) (Int.emod_lt_of_pos _ hn)
      · refine ⟨_, rfl, p, _, 3, _, rfl, rfl, SqL.of hp1, atI_nat (j := 3) rfl, ?_⟩
        refine ⟨_, rfl, _, rfl, _, _, rfl, rfl, .inl ⟨by omega, by omega⟩, _, _, rfl, rfl, (by show (0 : Int) < 2147483563; decide), _, _, rfl, rfl, .inr ⟨by decide, by decide⟩, _, rfl, _, _, rfl, rfl, .inr ⟨by decide, by decide⟩, _, _, rfl, rfl, _, _, rfl, rfl, _, rfl, p, _, 4, _, rfl, rfl, SqL.of hp1, atI_nat (j := 4) rfl, _, _, rfl, rfl, _, _, rfl, rfl, (by show (0 : Int) < 2147483587; decide), _, rfl, p, _, 3, 3, rfl, rfl, hp1, by rfl, ?_⟩
        refine ⟨_, rfl, p, _, 3, _, rfl, rfl, SqL.of upd_same, atI_nat (j := 3) rfl, _, _, rfl, rfl, ⟨by decide, by decide⟩, _, rfl, p, _, 3, _, rfl, rfl, SqL.of upd_same, atI_nat (j := 3) rfl, _, _, rfl, rfl, (by show (0 : Int) < 7919; decide), _, _, rfl, rfl, .inr ⟨by decide, by decide⟩, _, _, rfl, rfl, _, rfl, _, _, rfl, rfl, hn, ?_⟩
        rw [upd_upd]
        exact q _ _ (dl _ _ hz (Int.emod_nonneg _ (by decide)) (Int.emod_lt_of_pos _ (by decide))) (Int.emod_nonneg _ (by omega)) (Int.emod_lt_of_pos _ hn)
end
end Hl

set_option Elab.async false
set_option linter.all false
set_option maxRecDepth 100000
set_option maxHeartbeats 4000000
namespace Hl
open PySem PySem.Spec PyProof.Rows L2
abbrev sLike : Stmt := topS 10
theorem iT {c : Bool} {A B : Prop} (hc : c = true) (h : A) : if c = true then A else B := by
  rw [if_pos hc]
  exact h
theorem iF {c : Bool} {A B : Prop} (hc : c = false) (h : B) : if c = true then A else B := by
  rw [hc, if_neg Bool.false_ne_true]
  exact h
section
variable {K : PySem.W.Frag} {H H' : Hp}
theorem same_t {a : Addr} {xs : List V} (e : Same H H') (h : SqT K H a xs) : SqT K H' a xs := by
  rcases h with (h | ⟨o, h⟩) | h
  · exact .inl (.inl (e _ _ h))
  · exact .inl (.inr ⟨o, e _ _ h⟩)
  · exact .inr h
theorem tyL {a : Addr} {xs : List V} (h : SqL K H a xs) : TyX K H (.ref a) (.type "list") := by
  rcases h with (h | ⟨o, h⟩) | ⟨o, its, n, h1, h2, _⟩
  · exact .base (.lst h)
  · exact .base (.frz h)
  · exact .kList h1 h2
theorem tyT {a : Addr} {xs : List V} (h : SqT K H a xs) : TyX K H (.ref a) (.type "tuple") := by
  rcases h with (h | ⟨o, h⟩) | ⟨o, its, n, h1, h2, _⟩
  · exact .base (.tup h)
  · exact .fTuple h
  · exact .kTuple h1 h2
theorem kA_list : PySem.W.kitAny K (.type "list") [.type "list", .type "tuple"] = some true := kitAny_cons (b := true) (kit_ty (by decide +kernel)) (fun z => by cases z) (fun _ => rfl)
theorem kA_tuple : PySem.W.kitAny K (.type "tuple") [.type "list", .type "tuple"] = some true :=
  kitAny_cons (b := false) (kit_ty (by decide +kernel)) (fun _ => kitAny_cons (b := true) (kit_ty (by decide +kernel)) (fun z => by cases z) (fun _ => rfl)) (fun z => by cases z)
theorem kA_no {t : String} (h1 : kitB t "list" = some false) (h2 : kitB t "tuple" = some false) : PySem.W.kitAny K (.type t) [.type "list", .type "tuple"] = some false :=
  kitAny_cons (b := false) (kit_ty h1) (fun _ => kitAny_cons (b := false) (kit_ty h2) (fun _ => kitAny_nil) (fun z => by cases z)) (fun z => by cases z)
theorem pCls : Paired ClsV [.ty "list", .ty "tuple"] [.type "list", .type "tuple"] := .cons (.ty _) (.cons (.ty _) .nil)
/-- two values that read as the same data, at most n deep -/
inductive Lk (K : PySem.W.Frag) (H : Hp) : Nat → V → V → Prop
  | non {n : Nat} : Lk K H n .non .non
  | bl {n : Nat} (b : Bool) : Lk K H n (.bl b) (.bl b)
  | int {n : Nat} (i : Int) : Lk K H n (.int i) (.int i)
  | str {n : Nat} (s : Str) : Lk K H n (.str s) (.str s)
  | lst {n : Nat} {a b : Addr} {xs ys : List V} (ha : SqL K H a xs) (hb : SqL K H b ys) (hl : xs.length = ys.length) (h1 : ys.length ≤ 1000) (hi : ∀ (i : Nat) (x y : V), xs[i]? = some x → ys[i]? = some y → Lk K H n x y) : Lk K H (n + 1) (.ref a) (.ref b)
  | tup {n : Nat} {a b : Addr} {xs ys : List V} (ha : SqT K H a xs) (hb : SqT K H b ys) (hl : xs.length = ys.length) (h1 : ys.length ≤ 1000) (hi : ∀ (i : Nat) (x y : V), xs[i]? = some x → ys[i]? = some y → Lk K H n x y) : Lk K H (n + 1) (.ref a) (.ref b)
theorem Lk.mono {n : Nat} {x y : V} (e : Same H H') (h : Lk K H n x y) : Lk K H' n x y := by
  induction h with
  | non => exact .non
  | bl b => exact .bl b
  | int b => exact .int b
  | str b => exact .str b
  | lst ha hb hl h1 hi ih => exact .lst (e.seq ha) (e.seq hb) hl h1 ih
  | tup ha hb hl h1 hi ih => exact .tup (same_t e ha) (same_t e hb) hl h1 ih
end
section
variable {P : Program} {w : World} {K : PySem.W.Frag} {mg : Str → Option Value} {base : Heap}
def spLike (K : PySem.W.Frag) : Nat → Sp
  | 0 => fun _ _ _ _ => False
  | n + 1 => fun vs H Q _ => ∃ x y : V, vs = [x, y] ∧ Lk K H n x y ∧ ∀ H', Same H H' → Q (.bl true) H'
theorem scL : FnScope ["_law_found", "_law_due", "_law_k"] ["_law_found", "_law_due"] (defScope sLike) := ⟨rfl, rfl, rfl, by decide +kernel, rfl, by decide +kernel, by decide +kernel⟩
/-- the built-ins that the law's own defs ask for by name -/
structure Bi (mg : Str → Option Value) : Prop where
  isi : mg "isinstance" = none
  lst : mg "list" = none
  tup : mg "tuple" = none
  len : mg "len" = none
  all : mg "all" = none
  rng : mg "range" = none
  boo : mg "bool" = none
  int : mg "int" = none
  str : mg "str" = none
  abs : mg "abs" = none
theorem ok_like {f : Addr} {fd : FuncData} (F : Fun K "_law_like" "_law_like" sLike f fd) (bL : Binds K fd ["_law_found", "_law_due"] []) (gL : mg "_law_like" = some (.ref f)) (B : Bi mg) : ∀ n : Nat, FnOk P w K mg base CX0 (n + 1) f fd ["_law_found", "_law_due"] (spLike K n)
  | 0 => F.ok scL (fun vs H Q E h => h.elim) (fun cdv A outer s H vs Q E hr h => h.elim)
  | n + 1 => by
    have GL : FnOk P w K mg base CX0 (n + 1) f fd ["_law_found", "_law_due"] (spLike K n) := ok_like F bL gL B n
    refine F.ok scL (fun vs H Q E h => ?_) (fun cdv A outer s H vs Q E hr h => ?_)
    · obtain ⟨a, ns, rfl, _⟩ := h
      rfl
    · obtain ⟨x, y, rfl, hk, q⟩ := h
      refine ⟨_, pss_cons (ps_if (pt_val (pe_callB call_isiT (by rfl) B.isi (by decide +kernel) (pa_cons (pv 1) (pa_cons (pe_tup (pa_cons (pe_bltn (v := .ty "list") (by rfl) B.lst (by decide +kernel) rfl) (pa_cons (pe_bltn (v := .ty "tuple") (by rfl) B.tup (by decide +kernel) rfl) pa_nil))) pa_nil))))
          (pss_cons (ps_if (PW.pt (pw_or
                (pt_cmpR op_ne (pe_callB call_isi (by rfl) B.isi (by decide +kernel) (pa_cons (pv 0) (pa_cons (pe_bltn (v := .ty "list") (by rfl) B.lst (by decide +kernel) rfl) pa_nil))) (pe_callB call_isi (by rfl) B.isi (by decide +kernel) (pa_cons (pv 1) (pa_cons (pe_bltn (v := .ty "list") (by rfl) B.lst (by decide +kernel) rfl) pa_nil))) (nomark _))
                (pw_or1 (pt_cmpR op_ne (pe_callB call_isi (by rfl) B.isi (by decide +kernel) (pa_cons (pv 0) (pa_cons (pe_bltn (v := .ty "tuple") (by rfl) B.tup (by decide +kernel) rfl) pa_nil))) (pe_callB call_isi (by rfl) B.isi (by decide +kernel) (pa_cons (pv 1) (pa_cons (pe_bltn (v := .ty "tuple") (by rfl) B.tup (by decide +kernel) rfl) pa_nil))) (nomark _)))))
              (pss_one (ps_ret pe_bl)) pss_nil)
          (pss_one (ps_ret (pe_and (pe_cmpR op_eq (pe_callB call_len_seq (by rfl) B.len PySem.boot_len (pa_cons (pv 0) pa_nil)) (pe_callB call_len_seq (by rfl) B.len PySem.boot_len (pa_cons (pv 1) pa_nil)) (nomark _))
            (pe_one (pe_callB (cr_all rfl) (by rfl) B.all (by decide +kernel) (pa_cons
              (pe_lc (own := [("_law_k", 2)]) (g := gName 2) (tt := tYes) rfl scL.nd (pi_range1 (by rfl) B.rng (pa_cons (pe_callB call_len_seq (by rfl) B.len PySem.boot_len (pa_cons (pv 1) pa_nil)) pa_nil))
                (blkOk_by (own := [("_law_k", 2)]) (N := ["_law_found", "_law_due", "_law_k"]) (sc := defScope sLike) (by decide +kernel))
                (fun _ _ _ _ _ => pg_name (i := 2) scL.nd rfl (Or.inl rfl)) (fun _ _ _ _ _ => pts_nil)
                (fun _ _ _ _ _ => pe_call GL hr (by rfl) gL F.kp bL .nil pass0 (pa_cons (pe_ix (r := rIx K) ix_seq (pv 0) (pv 2) (fun _ _ => rfl)) (pa_cons (pe_ix (r := rIx K) ix_seq (pv 1) (pv 2) (fun _ _ => rfl)) pa_nil))))
              pa_nil))))))) pss_nil)
        (pss_cons (ps_if (PW.pt (pw_or (pt_cmpR op_isN (pv 1) pe_non (nomark _)) (pw_or1 (pt_cmpR op_isN (pv 0) pe_non (nomark _)))))
          (pss_one (ps_ret (pe_and (pe_cmpR op_isN (pv 1) pe_non (nomark _)) (pe_one (pe_cmpR op_isN (pv 0) pe_non (nomark _)))))) pss_nil)
        (pss_cons (ps_if (PW.pt (pw_or
                (pt_cmpR op_ne (pe_callB call_isi (by rfl) B.isi (by decide +kernel) (pa_cons (pv 0) (pa_cons (pe_bltn (v := .ty "bool") (by rfl) B.boo (by decide +kernel) rfl) pa_nil))) (pe_callB call_isi (by rfl) B.isi (by decide +kernel) (pa_cons (pv 1) (pa_cons (pe_bltn (v := .ty "bool") (by rfl) B.boo (by decide +kernel) rfl) pa_nil))) (nomark _))
                (pw_or1 (pt_cmpR op_ne (pe_callB call_isi (by rfl) B.isi (by decide +kernel) (pa_cons (pv 0) (pa_cons (pe_bltn (v := .ty "int") (by rfl) B.int (by decide +kernel) rfl) pa_nil))) (pe_callB call_isi (by rfl) B.isi (by decide +kernel) (pa_cons (pv 1) (pa_cons (pe_bltn (v := .ty "int") (by rfl) B.int (by decide +kernel) rfl) pa_nil))) (nomark _)))))
              (pss_one (ps_ret pe_bl)) pss_nil)
        (pss_one (ps_ret (pe_and (pe_cmpR op_eq (pe_callB call_isi (by rfl) B.isi (by decide +kernel) (pa_cons (pv 0) (pa_cons (pe_bltn (v := .ty "str") (by rfl) B.str (by decide +kernel) rfl) pa_nil))) (pe_callB call_isi (by rfl) B.isi (by decide +kernel) (pa_cons (pv 1) (pa_cons (pe_bltn (v := .ty "str") (by rfl) B.str (by decide +kernel) rfl) pa_nil))) (nomark _))
          (pe_one (pe_cmpR op_eq (pv 0) (pv 1) (nomark _)))))))), ?_⟩
      cases hk with
      | non =>
        refine ⟨_, rfl, (by show 2 ≤ sizeLine; decide), fun T hT => ⟨_, T, _, _, _, _, rfl, upd_same, pCls, .base .non, kA_no (by decide +kernel) (by decide +kernel), _, rfl, iteF ?_⟩⟩
        refine ⟨_, rfl, rfl, _, rfl, iT (decide_eq_true rfl) (iteT ?_)⟩
        refine ⟨_, rfl, rfl, _, rfl, iT (decide_eq_true rfl) ⟨_, rfl, rfl, ?_⟩⟩
        rw [decide_eq_true rfl]
        exact q _ (same_upd hT)
      | bl b =>
        refine ⟨_, rfl, (by show 2 ≤ sizeLine; decide), fun T hT => ⟨_, T, _, _, _, _, rfl, upd_same, pCls, .base (.bl b), kA_no (by decide +kernel) (by decide +kernel), _, rfl, iteF ?_⟩⟩
        refine ⟨_, rfl, rfl, _, rfl, iF rfl ⟨_, rfl, rfl, _, rfl, iteF ?_⟩⟩
        refine ⟨_, rfl, _, _, _, _, true, rfl, .ty _, .base (.bl b), kit_ty (by decide +kernel), _, rfl, _, _, _, _, true, rfl, .ty _, .base (.bl b), kit_ty (by decide +kernel), rfl, _, rfl, iF (by decide) ?_⟩
        refine ⟨_, rfl, _, _, _, _, true, rfl, .ty _, .base (.bl b), kit_ty (by decide +kernel), _, rfl, _, _, _, _, true, rfl, .ty _, .base (.bl b), kit_ty (by decide +kernel), rfl, _, rfl, iF (by decide) ?_⟩
        refine ⟨_, rfl, _, _, _, _, false, rfl, .ty _, .base (.bl b), kit_ty (by decide +kernel), _, rfl, _, _, _, _, false, rfl, .ty _, .base (.bl b), kit_ty (by decide +kernel), rfl, _, rfl, iT (by decide) ⟨_, rfl, _, rfl, rfl, ?_⟩⟩
        rw [decide_eq_true rfl]
        exact q _ (same_upd hT)
      | int b =>
        refine ⟨_, rfl, (by show 2 ≤ sizeLine; decide), fun T hT => ⟨_, T, _, _, _, _, rfl, upd_same, pCls, .base (.int b), kA_no (by decide +kernel) (by decide +kernel), _, rfl, iteF ?_⟩⟩
        refine ⟨_, rfl, rfl, _, rfl, iF rfl ⟨_, rfl, rfl, _, rfl, iteF ?_⟩⟩
        refine ⟨_, rfl, _, _, _, _, false, rfl, .ty _, .base (.int b), kit_ty (by decide +kernel), _, rfl, _, _, _, _, false, rfl, .ty _, .base (.int b), kit_ty (by decide +kernel), rfl, _, rfl, iF (by decide) ?_⟩
        refine ⟨_, rfl, _, _, _, _, true, rfl, .ty _, .base (.int b), kit_ty (by decide +kernel), _, rfl, _, _, _, _, true, rfl, .ty _, .base (.int b), kit_ty (by decide +kernel), rfl, _, rfl, iF (by decide) ?_⟩
        refine ⟨_, rfl, _, _, _, _, false, rfl, .ty _, .base (.int b), kit_ty (by decide +kernel), _, rfl, _, _, _, _, false, rfl, .ty _, .base (.int b), kit_ty (by decide +kernel), rfl, _, rfl, iT (by decide) ⟨_, rfl, _, rfl, rfl, ?_⟩⟩
        rw [decide_eq_true rfl]
        exact q _ (same_upd hT)
      | str b =>
        refine ⟨_, rfl, (by show 2 ≤ sizeLine; decide), fun T hT => ⟨_, T, _, _, _, _, rfl, upd_same, pCls, .base (.str b), kA_no (by decide +kernel) (by decide +kernel), _, rfl, iteF ?_⟩⟩
        refine ⟨_, rfl, rfl, _, rfl, iF rfl ⟨_, rfl, rfl, _, rfl, iteF ?_⟩⟩
        refine ⟨_, rfl, _, _, _, _, false, rfl, .ty _, .base (.str b), kit_ty (by decide +kernel), _, rfl, _, _, _, _, false, rfl, .ty _, .base (.str b), kit_ty (by decide +kernel), rfl, _, rfl, iF (by decide) ?_⟩
        refine ⟨_, rfl, _, _, _, _, false, rfl, .ty _, .base (.str b), kit_ty (by decide +kernel), _, rfl, _, _, _, _, false, rfl, .ty _, .base (.str b), kit_ty (by decide +kernel), rfl, _, rfl, iF (by decide) ?_⟩
        refine ⟨_, rfl, _, _, _, _, true, rfl, .ty _, .base (.str b), kit_ty (by decide +kernel), _, rfl, _, _, _, _, true, rfl, .ty _, .base (.str b), kit_ty (by decide +kernel), rfl, _, rfl, iT (by decide) ⟨_, rfl, _, rfl, rfl, ?_⟩⟩
        rw [decide_eq_true rfl]
        exact q _ (same_upd hT)
      | lst ha hb hl h1 hi =>
        rename_i n a b xs ys
        refine ⟨_, rfl, (by show 2 ≤ sizeLine; decide), fun T hT => ?_⟩
        have s1 := same_upd (o := .tup [V.ty "list", V.ty "tuple"]) hT
        have hA := Same.seq s1 ha
        have hB := Same.seq s1 hb
        refine ⟨_, T, _, _, _, _, rfl, upd_same, pCls, tyL hB, kA_list, _, rfl, iteT ?_⟩
        refine ⟨_, rfl, _, _, _, _, true, rfl, .ty _, tyL hA, kit_ty (by decide +kernel), _, rfl, _, _, _, _, true, rfl, .ty _, tyL hB, kit_ty (by decide +kernel), rfl, _, rfl, iF (by decide) ?_⟩
        refine ⟨_, rfl, _, _, _, _, false, rfl, .ty _, tyL hA, kit_ty (by decide +kernel), _, rfl, _, _, _, _, false, rfl, .ty _, tyL hB, kit_ty (by decide +kernel), rfl, _, rfl, iF (by decide) ?_⟩
        refine ⟨_, rfl, a, xs, rfl, .inl hA, _, rfl, b, ys, rfl, .inl hB, rfl, _, rfl, iT (by rw [hl]; exact decide_eq_true rfl) ?_⟩
        refine ⟨_, rfl, b, ys, rfl, .inl hB, (ys.length : Int), rfl, by omega, by omega, fun D hD => ?_⟩
        refine lc_range (lo := 0) (n := ys.length) (fun i H' => Same H H' ∧ H' D = some (.lst (List.replicate i (.bl true)))) ?_ ?_ ?_
        · have s2 := same_upd (o := .lst []) hD
          exact ⟨s1.trans s2, upd_same⟩
        · rintro i H3 hlt ⟨s3, hD3⟩
          have hA3 := Same.seq s3 ha
          have hB3 := Same.seq s3 hb
          have hlt2 : i < xs.length := by omega
          have g1 : xs[i]? = some xs[i] := List.getElem?_eq_getElem hlt2
          have g2 : ys[i]? = some ys[i] := List.getElem?_eq_getElem hlt
          refine ⟨rfl, ?_⟩
          refine ⟨_, rfl, _, rfl, .inl ⟨a, xs, _, _, rfl, rfl, hA3, at_of (j := i) (by omega) g1, _, rfl, _, rfl, .inl ⟨b, ys, _, _, rfl, rfl, hB3, at_of (j := i) (by omega) g2, _, _, rfl, (hi i _ _ g1 g2).mono s3, fun H4 s4 => ?_⟩⟩⟩
          refine ⟨_, s4 _ _ hD3, ?_, ?_⟩
          · rw [List.length_replicate]
            exact small1000 (by omega)
          · have nD : H D = none := s1.free hD
            refine ⟨fun b' o' e => ?_, ?_⟩
            · rw [upd_ne (ne_of_none e nD)]
              exact s4 _ _ (s3 _ _ e)
            · rw [upd_same, List.replicate_succ']
        · rintro H3 ⟨s3, hD3⟩
          refine ⟨D, List.replicate ys.length true, rfl, SqL.of (by rw [hD3, List.map_replicate]), ?_⟩
          rw [show (List.replicate ys.length true).all id = true by simp]
          exact q _ s3
      | tup ha hb hl h1 hi =>
        rename_i n a b xs ys
        refine ⟨_, rfl, (by show 2 ≤ sizeLine; decide), fun T hT => ?_⟩
        have s1 := same_upd (o := .tup [V.ty "list", V.ty "tuple"]) hT
        have hA := same_t s1 ha
        have hB := same_t s1 hb
        refine ⟨_, T, _, _, _, _, rfl, upd_same, pCls, tyT hB, kA_tuple, _, rfl, iteT ?_⟩
        refine ⟨_, rfl, _, _, _, _, false, rfl, .ty _, tyT hA, kit_ty (by decide +kernel), _, rfl, _, _, _, _, false, rfl, .ty _, tyT hB, kit_ty (by decide +kernel), rfl, _, rfl, iF (by decide) ?_⟩
        refine ⟨_, rfl, _, _, _, _, true, rfl, .ty _, tyT hA, kit_ty (by decide +kernel), _, rfl, _, _, _, _, true, rfl, .ty _, tyT hB, kit_ty (by decide +kernel), rfl, _, rfl, iF (by decide) ?_⟩
        refine ⟨_, rfl, a, xs, rfl, .inr hA, _, rfl, b, ys, rfl, .inr hB, rfl, _, rfl, iT (by rw [hl]; exact decide_eq_true rfl) ?_⟩
        refine ⟨_, rfl, b, ys, rfl, .inr hB, (ys.length : Int), rfl, by omega, by omega, fun D hD => ?_⟩
        refine lc_range (lo := 0) (n := ys.length) (fun i H' => Same H H' ∧ H' D = some (.lst (List.replicate i (.bl true)))) ?_ ?_ ?_
        · have s2 := same_upd (o := .lst []) hD
          exact ⟨s1.trans s2, upd_same⟩
        · rintro i H3 hlt ⟨s3, hD3⟩
          have hA3 := same_t s3 ha
          have hB3 := same_t s3 hb
          have hlt2 : i < xs.length := by omega
          have g1 : xs[i]? = some xs[i] := List.getElem?_eq_getElem hlt2
          have g2 : ys[i]? = some ys[i] := List.getElem?_eq_getElem hlt
          refine ⟨rfl, ?_⟩
          refine ⟨_, rfl, _, rfl, .inr <| .inl ⟨a, xs, _, _, rfl, rfl, hA3, at_of (j := i) (by omega) g1, _, rfl, _, rfl, .inr <| .inl ⟨b, ys, _, _, rfl, rfl, hB3, at_of (j := i) (by omega) g2, _, _, rfl, (hi i _ _ g1 g2).mono s3, fun H4 s4 => ?_⟩⟩⟩
          refine ⟨_, s4 _ _ hD3, ?_, ?_⟩
          · rw [List.length_replicate]
            exact small1000 (by omega)
          · have nD : H D = none := s1.free hD
            refine ⟨fun b' o' e => ?_, ?_⟩
            · rw [upd_ne (ne_of_none e nD)]
              exact s4 _ _ (s3 _ _ e)
            · rw [upd_same, List.replicate_succ']
        · rintro H3 ⟨s3, hD3⟩
          refine ⟨D, List.replicate ys.length true, rfl, SqL.of (by rw [hD3, List.map_replicate]), ?_⟩
          rw [show (List.replicate ys.length true).all id = true by simp]
          exact q _ s3
end
end Hl

set_option Elab.async false
set_option linter.all false
set_option maxRecDepth 100000
set_option maxHeartbeats 4000000
namespace Hl
open PySem PySem.Spec PyProof.Rows L2
abbrev sOver : Stmt := topS 12
theorem lg {n : Int} {b : Nat} (h : n.natAbs < 2 ^ b) (h0 : 0 < b) (h9 : b ≤ 9000) : n.natAbs.log2 < 9000 := Nat.lt_of_lt_of_le (PySem.Flt.log2_lt_of h0 h) h9
theorem But.seq {K : PySem.W.Frag} {p : Addr} {H H' : Hp} {a : Addr} {xs : List V} (e : But p H H') (n : a ≠ p) (h : SqL K H a xs) : SqL K H' a xs := by
  rcases h with (h | ⟨o, h⟩) | h
  · exact .inl (.inl (e _ _ n h))
  · exact .inl (.inr ⟨o, e _ _ n h⟩)
  · exact .inr h
theorem But.tup {K : PySem.W.Frag} {p : Addr} {H H' : Hp} {a : Addr} {xs : List V} (e : But p H H') (n : a ≠ p) (h : SqT K H a xs) : SqT K H' a xs := by
  rcases h with (h | ⟨o, h⟩) | h
  · exact .inl (.inl (e _ _ n h))
  · exact .inl (.inr ⟨o, e _ _ n h⟩)
  · exact .inr h
theorem Deal.same {H H' : Hp} {p : Addr} (d : Deal H p) (e : Same H H') : Deal H' p := by
  obtain ⟨l, ns, a, z, m, c, hp, hl, r⟩ := d
  exact ⟨l, ns, a, z, m, c, e _ _ hp, e _ _ hl, r⟩
theorem Deal.there {H : Hp} {p : Addr} (d : Deal H p) : ∃ o, H p = some o := by
  obtain ⟨l, ns, a, z, m, c, hp, hl, r⟩ := d
  exact ⟨_, hp⟩
theorem Deal.ne {H : Hp} {p q : Addr} (d : Deal H p) (h : H q = none) : q ≠ p := by
  obtain ⟨o, e⟩ := d.there
  exact ne_of_fresh e h
/-- what is free behind was free ahead -/
theorem But.free {H H' : Hp} {p q : Addr} (e : But p H H') (d : Deal H' p) (h : H' q = none) : H q = none := by
  cases x : H q with
  | none => rfl
  | some o =>
    rw [e q o (d.ne h) x] at h
    cases h
section
variable {P : Program} {w : World} {K : PySem.W.Frag} {mg : Str → Option Value} {base : Heap}
/-! _law_of -/
def spOf (K : PySem.W.Frag) : Sp := fun vs H Q _ => ∃ (p a : Addr) (xs : List V), vs = [.ref p, .ref a] ∧ Deal H p ∧ SqL K H a xs ∧ a ≠ p ∧ 0 < xs.length ∧ xs.length ≤ 1000 ∧
  ∀ (o : HO) (x : V), x ∈ xs → Deal (upd H p o) p → Q x (upd H p o)
theorem scO : FnScope ["_law_deal_here", "_law_some"] ["_law_deal_here", "_law_some"] (defScope sOf) := ⟨rfl, rfl, rfl, by decide +kernel, rfl, by decide +kernel, by decide +kernel⟩
theorem ok_of {f fK : Addr} {fd fdK : FuncData} {k : Nat} (F : Fun K "_law_of" "_law_of" sOf f fd) (FK : Fun K "_law_pick" "_law_pick" sPick fK fdK) (bK : Binds K fdK ["_law_deal_here", "_law_many"] []) (gK : mg "_law_pick" = some (.ref fK)) (B : Bi mg) :
    FnOk P w K mg base CX0 (k + 2) f fd ["_law_deal_here", "_law_some"] (spOf K) := by
  have GK : FnOk P w K mg base CX0 (k + 1) fK fdK ["_law_deal_here", "_law_many"] spPick := ok_pick FK B.len
  refine F.ok scO (fun vs H Q E h => ?_) (fun cdv A outer s H vs Q E hr h => ?_)
  · obtain ⟨a, ns, xs, rfl, _⟩ := h
    rfl
  · obtain ⟨p, a, xs, rfl, dl, hS, nap, h0, h1, q⟩ := h
    refine ⟨_, pss_one (ps_ret (pe_ix ix_list (pv 1) (pe_call GK hr (by rfl) gK FK.kp bK .nil pass0 (pa_cons (pv 0) (pa_cons (pe_callB call_len_seq (by rfl) B.len PySem.boot_len (pa_cons (pv 1) pa_nil)) pa_nil))) (fun _ _ => rfl))), ?_⟩
    refine ⟨_, rfl, _, rfl, _, rfl, a, xs, rfl, .inl hS, p, (xs.length : Int), rfl, dl, by omega, lg (b := 10) (by omega) (by decide) (by decide), fun o r dl' r0 r1 => ?_⟩
    obtain ⟨j, rfl⟩ := Int.eq_ofNat_of_zero_le r0
    have hj : j < xs.length := by omega
    refine ⟨a, xs, _, _, rfl, rfl, But.upd.seq nap hS, atI_nat (j := j) (List.getElem?_eq_getElem hj), ?_⟩
    exact q o _ (List.getElem_mem hj) dl'
/-! _law_over -/
def spOver : Sp := fun vs H Q _ => ∃ p : Addr, vs = [.ref p] ∧ Deal H p ∧ ∀ (H' : Hp) (r : Int), But p H H' → Deal H' p → r.natAbs < 2 ^ 100 → Q (.int r) H'
theorem scV : FnScope ["_law_deal_here", "_law_far"] ["_law_deal_here"] (defScope sOver) := ⟨rfl, rfl, rfl, by decide +kernel, rfl, by decide +kernel, by decide +kernel⟩
theorem ok_over {f fK fO : Addr} {fd fdK fdO : FuncData} {k : Nat} (F : Fun K "_law_over" "_law_over" sOver f fd) (FK : Fun K "_law_pick" "_law_pick" sPick fK fdK) (bK : Binds K fdK ["_law_deal_here", "_law_many"] []) (gK : mg "_law_pick" = some (.ref fK))
    (FO : Fun K "_law_of" "_law_of" sOf fO fdO) (bO : Binds K fdO ["_law_deal_here", "_law_some"] []) (gO : mg "_law_of" = some (.ref fO)) (B : Bi mg) :
    FnOk P w K mg base CX0 (k + 3) f fd ["_law_deal_here"] spOver := by
  have GK : FnOk P w K mg base CX0 (k + 2) fK fdK ["_law_deal_here", "_law_many"] spPick := ok_pick FK B.len
  have GO : FnOk P w K mg base CX0 (k + 2) fO fdO ["_law_deal_here", "_law_some"] (spOf K) := ok_of FO FK bK gK B
  refine F.ok scV (fun vs H Q E h => ?_) (fun cdv A outer s H vs Q E hr h => ?_)
  · obtain ⟨a, rfl, _⟩ := h
    rfl
  · obtain ⟨p, rfl, dl, q⟩ := h
    refine ⟨_, pss_cons (ps_set (i := 1) scV.nd rfl (.inl rfl) (pe_call GO hr (by rfl) gO FO.kp bO .nil pass0 (pa_cons (pv 0) (pa_cons (pe_lst (pa_cons pe_int (pa_cons pe_int (pa_cons pe_int (pa_cons (pe_op op_pow pe_int pe_int) (pa_cons (pe_op op_pow pe_int pe_int) pa_nil)))))) pa_nil))))
      (pss_one (ps_ret (pe_op op_add (pe_op op_sub (pe_call GK hr (by rfl) gK FK.kp bK .nil pass0 (pa_cons (pv 0) (pa_cons (pe_op op_sub (pe_op op_mul pe_int (pv 1)) pe_int) pa_nil))) (pv 1)) pe_int))), ?_⟩
    refine ⟨_, rfl, _, _, rfl, rfl, ⟨by decide, by decide, by decide⟩, _, _, rfl, rfl, ⟨by decide, by decide, by decide⟩, (by show 5 ≤ sizeLine; decide), fun c nc => ?_⟩
    have dl1 := dl.same (same_upd (o := .lst [.int 3, .int 12, .int 100, .int ((10 : Int) ^ (9 : Int).toNat), .int ((10 : Int) ^ (30 : Int).toNat)]) nc)
    refine ⟨p, c, _, rfl, dl1, SqL.of upd_same, dl.ne nc, by decide, by decide, fun o x hx dl2 => ?_⟩
    obtain ⟨n, rfl, h3, h30⟩ : ∃ n : Int, x = .int n ∧ 3 ≤ n ∧ n ≤ 1000000000000000000000000000000 := by
      simp only [List.mem_cons, List.not_mem_nil, or_false] at hx
      rcases hx with rfl | rfl | rfl | rfl | rfl
      · exact ⟨_, rfl, by decide, by decide⟩
      · exact ⟨_, rfl, by decide, by decide⟩
      · exact ⟨_, rfl, by decide, by decide⟩
      · exact ⟨_, rfl, by decide, by decide⟩
      · exact ⟨_, rfl, by decide, by decide⟩
    have e200 : (2 : Nat) ^ 101 = 2535301200456458802993406410752 := by decide
    have e100 : (2 : Nat) ^ 100 = 1267650600228229401496703205376 := by decide
    refine ⟨_, rfl, _, rfl, _, _, rfl, rfl, .inl ⟨by decide, by decide⟩, _, _, rfl, rfl, p, _, rfl, dl2, by omega, lg (b := 101) (by omega) (by decide) (by decide), fun o2 r dl3 r0 r1 => ?_⟩
    refine ⟨_, rfl, _, _, rfl, rfl, _, _, rfl, rfl, ?_⟩
    refine q _ _ ((But.of (same_upd nc)).trans (But.upd.trans But.upd)) dl3 (by omega)
end
end Hl

set_option Elab.async false
set_option linter.all false
set_option maxRecDepth 100000
set_option maxHeartbeats 4000000
namespace Hl
open PySem PySem.Spec PyProof.Rows L2
theorem lt9000 {x : Int} {a : Nat} (h : x.natAbs < 2 ^ a) (ha : a ≤ 9000) : x.natAbs < 2 ^ 9000 := Nat.lt_of_lt_of_le h (Nat.pow_le_pow_right (by decide) ha)
section
variable {P : Program} {w : World} {K : PySem.W.Frag} {mg : Str → Option Value} {base : Heap}
/-! _law_low -/
def spLow : Sp := fun vs H Q _ => ∃ o u : Int, vs = [.int o, .int u] ∧ u ≠ 0 ∧ u.natAbs < 2 ^ 9000 ∧ ∀ p, H p = none → Q (.ref p) (upd H p (.tup (lowF o u)))
theorem scW : FnScope ["_law_over_z", "_law_under_z", "_law_one", "_law_other"] ["_law_over_z", "_law_under_z"] (defScope sLow) := ⟨rfl, rfl, rfl, by decide +kernel, rfl, by decide +kernel, by decide +kernel⟩
theorem ok_low {f : Addr} {fd : FuncData} {k : Nat} (F : Fun K "_law_low" "_law_low" sLow f fd) (B : Bi mg) : FnOk P w K mg base CX0 (k + 1) f fd ["_law_over_z", "_law_under_z"] spLow := by
  refine F.ok scW (fun vs H Q E h => ?_) (fun cdv A outer s H vs Q E hr h => ?_)
  · obtain ⟨o, u, rfl, _⟩ := h
    rfl
  · obtain ⟨o, u, rfl, hu0, hub, q⟩ := h
    refine ⟨_, pss_cons (ps_par (i := 2) (j := 3) rfl scW.nd rfl rfl (by decide) rfl rfl (pa_cons (pe_callB call_abs (by rfl) B.abs (by decide +kernel) (pa_cons (pv 0) pa_nil)) (pa_cons (pe_callB call_abs (by rfl) B.abs (by decide +kernel) (pa_cons (pv 1) pa_nil)) pa_nil)) (by rfl))
      (pss_cons (ps_while PassesOwn.never (pt_cmpR op_gt (pv 3) pe_int (nomark _))
        (pss_one (ps_par (i := 2) (j := 3) rfl scW.nd rfl rfl (by decide) rfl rfl (pa_cons (pv 3) (pa_cons (pe_op op_mod (pv 2) (pv 3)) pa_nil)) (by rfl))))
      (pss_cons (ps_set (i := 2) scW.nd rfl (.inl rfl) (pe_ifExp (pt_cmpR op_lt (pv 1) pe_int (nomark _)) (pe_op op_sub pe_int (pv 2)) (pv 2)))
      (pss_one (ps_ret (pe_tup (pa_cons (pe_op op_fdivZ (pv 0) (pv 2)) (pa_cons (pe_op op_fdivZ (pv 1) (pv 2)) pa_nil))))))), ?_⟩
    have hs0 : sgn o u ≠ 0 := sgn_ne hu0
    have hsb : (sgn o u).natAbs < 2 ^ 9000 := by
      rw [sgn_abs]
      exact Nat.lt_of_le_of_lt (gI_le hu0) hub
    refine ⟨_, rfl, o, rfl, _, rfl, u, rfl, _, _, rfl, ?_⟩
    rw [absV, absV]
    refine ⟨fun m σ H' => ∃ x y : Int, σ = [some (.int o), some (.int u), some (.int x), some (.int y)] ∧ 0 ≤ x ∧ 0 ≤ y ∧ m = y.toNat ∧ gI x y = gI o u ∧ H' = H,
      ⟨_, (o.natAbs : Int), (u.natAbs : Int), rfl, by omega, by omega, rfl, gI_abs o u, rfl⟩, ?_⟩
    rintro m σ H' ⟨x, y, rfl, hx, hy, rfl, hg, rfl⟩
    refine ⟨_, rfl, _, _, rfl, rfl, _, rfl, ite2 (fun e => ?_) (fun e => ?_)⟩
    · have hy1 : 0 < y := of_decide_eq_true e
      refine ⟨fun σ' H'' => ∃ x' y' : Int, σ' = [some (.int o), some (.int u), some (.int x'), some (.int y')] ∧ 0 ≤ x' ∧ 0 ≤ y' ∧ y' < y ∧ gI x' y' = gI o u ∧ H'' = H', fun σ' H'' ⟨x', y', e1, e2, e3, e4, e5, e6⟩ => ⟨y'.toNat, by omega, x', y', e1, e2, e3, rfl, e5, e6⟩, ?_⟩
      refine ⟨_, rfl, _, rfl, _, rfl, _, _, rfl, rfl, hy1, _, _, rfl, ?_⟩
      exact ⟨y, x % y, rfl, hy, Int.emod_nonneg _ (by omega), Int.emod_lt_of_pos _ hy1, (gI_step hx hy1).trans hg, rfl⟩
    · have hy0 : y = 0 := by
        have : ¬ 0 < y := fun z => e (decide_eq_true z)
        omega
      subst hy0
      rw [gI_zero hx] at hg
      subst hg
      refine ⟨_, rfl, _, _, rfl, rfl, _, rfl, ite2 (fun e2 => ?_) (fun e2 => ?_)⟩
      · have hn : u < 0 := of_decide_eq_true e2
        have es : sgn o u = 0 - gI o u := by
          unfold sgn
          rw [if_pos hn]
          omega
        refine ⟨_, rfl, _, _, rfl, rfl, ?_⟩
        dsimp only
        rw [← es]
        exact ⟨_, rfl, _, rfl, _, _, rfl, rfl, divZ hs0 hsb, _, rfl, _, rfl, _, _, rfl, rfl, divZ hs0 hsb, (by show 2 ≤ sizeLine; decide), fun p hp => q p hp⟩
      · have hn : ¬ u < 0 := fun z => e2 (decide_eq_true z)
        have es : sgn o u = gI o u := if_neg hn
        refine ⟨_, rfl, ?_⟩
        rw [← es]
        exact ⟨_, rfl, _, rfl, _, _, rfl, rfl, divZ hs0 hsb, _, rfl, _, rfl, _, _, rfl, rfl, divZ hs0 hsb, (by show 2 ≤ sizeLine; decide), fun p hp => q p hp⟩
end
end Hl

set_option Elab.async false
set_option linter.all false
set_option maxRecDepth 100000
set_option maxHeartbeats 4000000
namespace Hl
open PySem PySem.Spec PyProof.Rows L2
/-! C.m(e, ..): a def of a class, called off the class -/
section
variable {X : Cx} {CX : CXT} {k : Nat} {f C : Addr} {fd : FuncData} {ps : List Str} {sp : Sp} {dvs : List V} {ds : List Value} {E : XK} {x m : Str} {p1 p2 pos : Pos} {e : Expr} {es : List Expr} {t : TA} {mc : Value} {pl : Sem Bool}
theorem pe_callC (r : ClX.CRead X.K C mc) (c : ClX.CVal X.K C mc m (.ref f) (.ref f)) (F : FnOk X.prog X.w X.K X.mg X.base CX k f fd ps sp) (hr : Room k X.A)
    (hg : Gl X x) (hm : X.mg x = some (.ref C)) (hk : PySem.W.keepIn X.K (.ref f) = true) (hb : Binds X.K fd ps ds) (hd : Vals dvs ds) (hx : Passes CX X E) (ha : PA X (e :: es) t)
    (hdb : (x == ("__debug__" : Str)) = false := by decide)
    (he : starEach (e :: es) X.env = (false, eval e X.env) :: starEach es X.env := by rfl) (hpl : (backTo pos (starEach es X.env)).any (·.1) = false := by rfl)
    (ht : eval (.Call (.Attribute (.Name x p1) m p2) (e :: es) [] pos) X.env = (do
      let ov ← eval (.Name x p1) X.env
      standAt p2.atName
      let (f, first) ← holding [ov] (getMethod ov m pl)
      callWith pos f first (backTo pos (starEach (e :: es) X.env)) (backToKw pos (keywordEach [] X.env))) := by rfl) :
    PE X (.Call (.Attribute (.Name x p1) m p2) (e :: es) [] pos) (tCall sp dvs E t) := by
  constructor
  intro pins s σ H Q I h
  refine PySem.W.methodCall_KW (pl := pl) (ld_glob I hg hm ?_ hdb) ht
  refine PySem.W.method_cls I.kIn r.ga (ClX.getcval_ok I r c fun s' J => ?_)
  refine PySem.W.callWith_K (h₀ := X.base) (first := []) J.ok.mod.kin hk (thn (ha.run pos pins s' σ H _ J h) ?_) he hpl
  rintro us s1 ⟨vs, H1, I1, rv, q⟩
  exact ⟨I1.kIn, run_fn F hr hb hd hx I1 rv q⟩
end
/-! C(): an exception of an own class whose __init__ takes nothing more -/
section
variable {X : Cx} {p pos : Pos}
theorem pmk_oex0 {CX : CXT} {x : Str} {C fI : Addr} {k : Nat} {fd : FuncData} {ps : List Str} {sp : Sp} (T : OexC X.K C) (iC : PySem.W.findIn X.K (.ref C) "__init__" = some (some (.ref fI)))
    (tI : PySem.W.typeIn X.K (.ref fI) = some (.type "function")) (F1 : FnOk X.prog X.w X.K X.mg X.base CX k fI fd ps sp) (hr : Room (k + 1) X.A) (hb : Binds X.K fd ps [])
    (hx : Passes CX X (fun _ _ _ => False)) (hg : Gl X x) (hm : X.mg x = some (.ref C)) (hdb : (x == ("__debug__" : Str)) = false := by decide) :
    PMk X (.Call (.Name x p) [] [] pos) (tMkO C sp [] tNil) := by
  intro pins s σ H Q I h
  obtain ⟨nm, q, N, bs, bm, sn, sub, ab, col, dd, k0, k1, k2, k3, k5, hC, hbm⟩ := T.cls
  obtain ⟨_, q1⟩ := h
  refine wpAny_Call_Name_kw (ld_glob I hg hm ?_ hdb)
  refine PySem.W.callWith_K0 I.kIn T.kC ?_
  show wpAny _ _ (call (.ref C) []) _ _ _
  obtain ⟨hp, g, dr, tk, os⟩ := s
  have one : hp.objs.size ≤ hp.objs.size + 1 := Nat.le_succ _
  have hq := q1 (hp.objs.size + 1) (I.hok.fresh one)
  have keep : ∀ b o, hp.get? b = some o → ((hp.push (PySem.W.kdv_tup [])).push (PySem.HandSPX.excO C hp.objs.size)).get? b = some o :=
    fun b o e => Heap.get?_push_of_some _ (Heap.get?_push_of_some _ e)
  have got : ((hp.push (PySem.W.kdv_tup [])).push (PySem.HandSPX.excO C hp.objs.size)).get? (hp.objs.size + 1) = some (PySem.HandSPX.excO C hp.objs.size) := by
    heap_get
  have I2 := I.laid (t' := tk) (a := hp.objs.size + 1) (o := exo (hp.objs.size + 1) C none) (h' := (hp.push (PySem.W.kdv_tup [])).push (PySem.HandSPX.excO C hp.objs.size)) keep one (exo_ok got)
  have r2 : Vals [V.ref (hp.objs.size + 1)] [Value.ref (hp.objs.size + 1)] := .cons rfl .nil
  have hl : ([Value.ref (hp.objs.size + 1)] ++ []).length = ps.length := (r2.length.symm.trans (F1.len _ _ _ _ hq))
  refine wpAny_call (PySem.HandSPX.call_own F.excBase_ValueError (fun Y => PySem.HandSPX.refsVE_contains Y bm hbm) (I.kIn _ _ hC) (PySem.W.looks_findIn I.kIn iC)
    (fun self => PySem.W.bind_fn I.kIn self tI) (Nat.zero_le _)
    (codeAny_mono (F1.run _ X.stack _ _ ⟨[Value.ref (hp.objs.size + 1)], []⟩ [Value.ref (hp.objs.size + 1)] _ _ (fun _ _ _ => False) (hr.make C [] []) (I2.env0.make C [] [])
      (hb _ [Value.ref (hp.objs.size + 1)] I2.kIn hl) r2 hq) ?_))
  intro r s' hq'
  match r, hq' with
  | .error er, hq' => exact hx pins σ _ _ er s' I2 hq'
  | .ok (.ret u), hq' =>
    obtain ⟨v, H2, os2, bare2, un2, hok2, rv, ev, d, fs, ea, ed, hd1, q2⟩ := hq'
    subst ev
    obtain ⟨h2, g2, d2, t2, os'⟩ := s'
    exact ⟨rv, mk_end (raises_own T.exC T.tyC) I one keep un2 hok2 os2 bare2 ea ed hd1 q2⟩
  | .ok .next, hq' => exact False.elim hq'
  | .ok .brk, hq' => exact False.elim hq'
  | .ok .cont, hq' => exact False.elim hq'
end
/-! isinstance(e, c) of the caught exception e, which has a dict -/
structure ExcK (K : PySem.W.Frag) (D : Addr) : Prop where
  cl : (PySem.W.clsIn K D).isSome = true
  hg : PySem.W.findIn K (.ref D) "__getattribute__" = some (some (.builtin "BaseException.__getattribute__"))
  hk : PySem.W.findIn K (.ref D) "__getattr__" = some none
  hs : PySem.W.subIn K (.ref D) (.type "BaseException") = some true
  ha : PySem.W.findIn K (.ref D) "__class__" = some (some (.builtin "object.__class__"))
  hn : PySem.W.specialIn K (.builtin "object.__class__") "__get__" = some (some (.builtin "getset_descriptor.__get__"))
  ht : PySem.W.takesIn K (.builtin "object.__class__") = some true
  hm : PySem.W.mroIn K D (.type "object") = some true
def rIsX (K : PySem.W.Frag) (D a : Addr) (cls : Value) (d : Option Addr) : List V → Hp → VK → Prop := fun xs H Q =>
  ∃ (c : V) (cv : Value) (b : Bool) (dd : Addr) (fs : List (Str × V)), xs = [.ref a, c] ∧ cls = .ref D ∧ d = some dd ∧ H dd = some (.xd fs) ∧ (∀ u, RelV c u → u = cv) ∧ PySem.W.kitOne K (.ref D) cv = some b ∧ Q (.bl b) H
theorem call_isX {X : Cx} {a D : Addr} {oe : Obj} {cls : Value} {d : Option Addr} {pn : List (Addr × Obj)} (C : ExcK X.K D) (hz : Zc cls d oe) (hf : ∃ vs, oe.data = .fields vs) :
    CallR (X.suite a ((a, oe) :: pn)) (.builtin "isinstance") (rIsX X.K D a cls d) := by
  intro pins s σ H xs us Q I r h
  obtain ⟨c, cv, b, dd, fs, rfl, rfl, rfl, ed, hcv, e, q⟩ := h
  obtain ⟨u1, u2, rfl, r1, r2⟩ := vals2 r
  cases (show u1 = Value.ref a from r1)
  have ec := hcv _ r2
  subst ec
  obtain ⟨hget, _⟩ := I.pin (a, oe) (List.mem_append.mpr (.inl List.mem_cons_self))
  obtain ⟨vs, hv⟩ := hf
  obtain ⟨mA, hns, _⟩ := (show ObjOk X.prog X.w H s.heap dd (.xd fs) from I.hok dd _ ed)
  obtain ⟨od, ho, _⟩ := lookIn_ns hns
  have J : PySem.W.InstAt s.heap a oe D (some od) := ⟨hget, hz.1, by unfold PySem.W.notCls; rw [hv] <;> rfl, by rw [hz.2]; exact ho⟩
  exact PySem.W.kia_one (PySem.W.kitx_exc C.cl C.hg C.hk C.hs C.ha C.hn C.ht C.hm) I.kIn J e (fun z => nomatch z) fun tk => ⟨.bl b, H, I.kept (t' := tk) fun _ _ z => z, rfl, q⟩
end Hl

set_option Elab.async false
set_option linter.all false
set_option maxRecDepth 100000
set_option maxHeartbeats 4000000
namespace Hl
open PySem PySem.Spec PyProof.Rows L2
abbrev sHi : Stmt := inClass (topS 1) 0
abbrev sBpi : Stmt := inClass (topS 2) 0
section
variable {P : Program} {w : World} {K : PySem.W.Frag} {mg : Str → Option Value} {base : Heap}
/-- what __init__ of an error leaves: its one field, word -/
def spHi (K : PySem.W.Frag) : Sp := fun vs H Q _ => ∃ (a C : Addr) (wd ab : Str), vs = [.ref a, .str wd, .str ab] ∧ wd.length + ab.length ≤ 1000 ∧ OexC K C ∧ PySem.W.findIn K (.ref C) "word" = some none ∧ H a = some (exo a C none) ∧
  ∀ dx, H dx = none → dx ≠ a → Q .non (upd (upd H dx (exd dx [("word", .str wd)])) a (exo a C (some dx)))
theorem scHi : FnScope ["self", "word", "about"] ["self", "word", "about"] (defScope sHi) := ⟨rfl, rfl, rfl, by decide +kernel, rfl, by decide +kernel, by decide +kernel⟩
theorem ok_hi {f : Addr} {fd : FuncData} {dvs : List V} {kws : List (Str × V)} {k : Nat} (F : FunD K "__init__" "HeedError.__init__" (defArgs sHi) (defBody sHi) (defScope sHi) dvs kws f fd) (mV : mg "ValueError" = none)
    (vV : PySem.W.findCls K (.type "ValueError") (.type "type") "__init__" = some (.val (.builtin "ValueError.__init__"))) : FnOk P w K mg base CX0 (k + 1) f fd ["self", "word", "about"] (spHi K) := by
  refine F.ok scHi (fun vs H Q E h => ?_) (fun cdv A outer s H vs Q E hr h => ?_)
  · obtain ⟨a, C, wd, ab, rfl, _⟩ := h
    rfl
  · obtain ⟨a, C, wd, ab, rfl, hl, T, nw, ha, q⟩ := h
    refine ⟨_, PSs.nox (pss_cons (ps_expr (pe_veinit (by rfl) mV vV (pa_cons (pv 0) (pa_cons (pe_op op_add_str (pv 1) (pv 2)) pa_nil)))) (pss_one (ps_ost (pv 0) (pv 1)))), ?_⟩
    refine ⟨_, rfl, _, rfl, _, rfl, wd, ab, rfl, rfl, Nat.le_of_lt (small1000 hl), a, C, _, rfl, (by show 1 ≤ 1000; decide), T, ha, ?_⟩
    exact ⟨_, rfl, _, rfl, a, C, rfl, T, nw, .inl ⟨ha, fun dx n1 n2 => q dx n1 n2⟩⟩
def spBpi (K : PySem.W.Frag) : Sp := fun vs H Q _ => ∃ (a C : Addr), vs = [.ref a] ∧ OexC K C ∧ PySem.W.findIn K (.ref C) "word" = some none ∧ H a = some (exo a C none) ∧
  ∀ dx, H dx = none → dx ≠ a → Q .non (upd (upd H dx (exd dx [("word", .str "BadPart")])) a (exo a C (some dx)))
theorem scBpi : FnScope ["self"] ["self"] (defScope sBpi) := ⟨rfl, rfl, rfl, by decide +kernel, rfl, by decide +kernel, by decide +kernel⟩
theorem ok_bpi {f fH cH : Addr} {fd fdH : FuncData} {mc : Value} {ds : List Value} {k : Nat} (F : Fun K "__init__" "BadPart.__init__" sBpi f fd)
    (GH : FnOk P w K mg base CX0 (k + 1) fH fdH ["self", "word", "about"] (spHi K)) (kH : PySem.W.keepIn K (.ref fH) = true) (bH : Binds K fdH ["self", "word", "about"] ds) (vH : Vals [.str ""] ds)
    (r : ClX.CRead K cH mc) (c : ClX.CVal K cH mc "__init__" (.ref fH) (.ref fH)) (gH : mg "HeedError" = some (.ref cH)) : FnOk P w K mg base CX0 (k + 2) f fd ["self"] (spBpi K) := by
  refine F.ok scBpi (fun vs H Q E h => ?_) (fun cdv A outer s H vs Q E hr h => ?_)
  · obtain ⟨a, C, rfl, _⟩ := h
    rfl
  · obtain ⟨a, C, rfl, T, nw, ha, q⟩ := h
    refine ⟨_, pss_one (ps_expr (pe_callC r c GH hr (by rfl) gH kH bH vH pass0 (pa_cons (pv 0) (pa_cons pe_str pa_nil)))), ?_⟩
    exact ⟨_, rfl, a, C, _, _, rfl, by decide, T, nw, ha, q⟩
/-! part -/
def errW : List (Str × V) := [("word", .str "BadPart")]
def spPart (C : Addr) : Sp := fun vs H Q E => ∃ o u : Int, vs = [.int o, .int u] ∧ u.natAbs < 2 ^ 9000 ∧
  (u = 0 → ∀ d, H d = none → E (.ref C) (some d) (upd H d (.xd errW))) ∧ (u ≠ 0 → ∀ p, H p = none → Q (.ref p) (upd H p (.tup (lowF o u))))
theorem scP : FnScope ["over", "under", "shared"] ["over", "under"] (defScope sPart) := ⟨rfl, rfl, rfl, by decide +kernel, rfl, by decide +kernel, by decide +kernel⟩
theorem ok_part {f fG fB C : Addr} {fd fdG fdB : FuncData} {dvs : List V} {kws : List (Str × V)} {k : Nat} (F : FunD K "part" "part" (defArgs sPart) (defBody sPart) (defScope sPart) dvs kws f fd) (FG : Fun K "greatest_common" "greatest_common" sGcd fG fdG) (bG : Binds K fdG ["one", "other"] [])
    (gG : mg "greatest_common" = some (.ref fG)) (mA : mg "abs" = none) (GB : FnOk P w K mg base CX0 (k + 2) fB fdB ["self"] (spBpi K)) (bB : Binds K fdB ["self"] []) (T : OexC K C) (nw : PySem.W.findIn K (.ref C) "word" = some none)
    (iC : PySem.W.findIn K (.ref C) "__init__" = some (some (.ref fB))) (tI : PySem.W.typeIn K (.ref fB) = some (.type "function")) (gC : mg "BadPart" = some (.ref C)) : FnOk P w K mg base (L2.CX P w) (k + 4) f fd ["over", "under"] (spPart C) := by
  have GG : FnOk P w K mg base CX0 (k + 3) fG fdG ["one", "other"] spGcd := ok_gcd FG
  refine F.ok scP (fun vs H Q E h => ?_) (fun cdv A outer s H vs Q E hr h => ?_)
  · obtain ⟨o, u, rfl, _⟩ := h
    rfl
  · obtain ⟨o, u, rfl, hub, qE, q⟩ := h
    refine ⟨_, pss_cons (ps_if (pt_cmpR op_eq (pv 1) pe_int (nomark _)) (pss_one (ps_raise rfl (takes_of rfl rfl rfl rfl) (pmk_oex0 T iC tI GB hr bB pass0 (by rfl) gC))) pss_nil)
      (pss_cons (ps_set (i := 2) scP.nd rfl (.inl rfl) (pe_call GG hr (by rfl) gG FG.kp bG .nil pass0 (pa_cons (pe_callB call_abs (by rfl) mA (by decide +kernel) (pa_cons (pv 0) pa_nil)) (pa_cons (pe_callB call_abs (by rfl) mA (by decide +kernel) (pa_cons (pv 1) pa_nil)) pa_nil))))
      (pss_cons (ps_if (pt_cmpR op_lt (pv 1) pe_int (nomark _)) (pss_one (ps_set (i := 2) scP.nd rfl (.inl rfl) (pe_un un_neg (pv 2)))) pss_nil)
      (pss_one (ps_ret (pe_tup (pa_cons (pe_op op_fdivZ (pv 0) (pv 2)) (pa_cons (pe_op op_fdivZ (pv 1) (pv 2)) pa_nil))))))), ?_⟩
    refine ⟨_, rfl, rfl, _, rfl, ite2 (fun e => ?_) (fun e => ?_)⟩
    · have hu0 : u = 0 := V.int.inj (of_decide_eq_true e)
      refine ⟨by decide, fun a na => ⟨a, C, rfl, T, nw, upd_same, fun dx n1 n2 => ?_⟩⟩
      have nd : H dx = none := by
        rw [upd_ne n2] at n1
        exact n1
      refine ⟨rfl, dx, _, upd_same, by rw [upd_ne n2, upd_same], nd, ?_⟩
      have eh : upd (del (upd (upd (upd H a (exo a C none)) dx (exd dx [("word", .str "BadPart")])) a (exo a C (some dx))) a) dx (.xd [("word", .str "BadPart")]) = upd H dx (.xd errW) := by
        funext b
        by_cases h1 : b = dx
        · rw [h1, upd_same, upd_same]
          rfl
        · rw [upd_ne h1, upd_ne h1]
          by_cases h2 : b = a
          · rw [h2, del_same, na]
          · rw [del_ne h2, upd_ne h2, upd_ne h1, upd_ne h2]
      rw [eh]
      exact qE hu0 dx nd
    · have hu0 : u ≠ 0 := fun z => e (by rw [z]; exact decide_eq_true rfl)
      have hs0 : sgn o u ≠ 0 := sgn_ne hu0
      have hsb : (sgn o u).natAbs < 2 ^ 9000 := by
        rw [sgn_abs]
        exact Nat.lt_of_le_of_lt (gI_le hu0) hub
      refine ⟨_, rfl, o, rfl, _, rfl, u, rfl, (o.natAbs : Int), (u.natAbs : Int), ?_, by omega, by omega, ?_⟩
      · rw [absV, absV]
        rfl
      · rw [gI_abs]
        refine ⟨_, rfl, _, _, rfl, rfl, _, rfl, ite2 (fun e2 => ?_) (fun e2 => ?_)⟩
        · have hn : u < 0 := of_decide_eq_true e2
          have es : sgn o u = -(gI o u) := if_pos hn
          refine ⟨_, rfl, _, rfl, ?_⟩
          dsimp only
          rw [← es]
          exact ⟨_, rfl, _, rfl, _, _, rfl, rfl, divZ hs0 hsb, _, rfl, _, rfl, _, _, rfl, rfl, divZ hs0 hsb, (by show 2 ≤ sizeLine; decide), fun p hp => q hu0 p hp⟩
        · have hn : ¬ u < 0 := fun z => e2 (decide_eq_true z)
          have es : sgn o u = gI o u := if_neg hn
          rw [← es]
          exact ⟨_, rfl, _, rfl, _, _, rfl, rfl, divZ hs0 hsb, _, rfl, _, rfl, _, _, rfl, rfl, divZ hs0 hsb, (by show 2 ≤ sizeLine; decide), fun p hp => q hu0 p hp⟩
end
end Hl

set_option Elab.async false
set_option linter.all false
set_option maxRecDepth 100000
set_option maxHeartbeats 4000000
namespace Hl
open PySem PySem.Spec PyProof.Rows L2
abbrev sLaw : Stmt := topS 13
/-! a call by names alone -/
section
variable {X : Cx} {CX : CXT} {k : Nat} {f : Addr} {fd : FuncData} {ps ks : List Str} {sp : Sp} {E : XK} {x : Str} {p pos : Pos} {kws : List Keyword} {tk : TA}
  {g : List Value → List Value → List Value} {gV : List V → List V → List V}
theorem pe_callN0 (F : FnOk X.prog X.w X.K X.mg X.base CX k f fd ps sp) (hr : Room k X.A) (hg : Gl X x) (hm : X.mg x = some (.ref f))
    (hk : PySem.W.keepIn X.K (.ref f) = true) (hb : KBn X.K fd ps 0 ks g gV) (hx : Passes CX X E) (hkw : PK X kws tk)
    (hall : (backToKw pos (keywordEach kws X.env)).all (·.1.isSome) = true := by rfl)
    (hks : (backToKw pos (keywordEach kws X.env)).filterMap (·.1) = ks := by rfl)
    (hdb : (x == ("__debug__" : Str)) = false := by decide)
    (hpl : ((backTo pos (starEach [] X.env)).any (·.1) || (backToKw pos (keywordEach kws X.env)).any (·.1.isNone)) = false := by rfl) :
    PE X (.Call (.Name x p) [] kws pos) (tCallN 0 ks.length sp gV E tNil tk) := by
  constructor
  intro pins s σ H Q I h
  refine wpAny_Call_Name_kw (ld_glob I hg hm ?_ hdb)
  refine PySem.W.callWith_KW0 (h₀ := X.base) I.ok.mod.kin hk hall (thn (hkw.run pos pins s σ H _ I h) ?_) hpl
  rintro ws s2 ⟨zs, H2, I2, rz, l1, l2, q2⟩
  refine ⟨I2.kIn, ?_⟩
  rw [hks]
  exact run_fnN (us := []) (vs := []) F hr hb hx I2 .nil rz l1 l2 q2
end
/-- the two values of a call by names, turned about -/
def turn {α : Type} : List α → List α → List α
  | _, [a, b] => [b, a]
  | _, _ => []
theorem turn_rel {vs zs : List V} {us ws : List Value} (_ : Vals vs us) (h : Vals zs ws) : Vals (turn vs zs) (turn us ws) := by
  cases h with
  | nil => exact .nil
  | cons a r =>
    cases r with
    | nil => exact .nil
    | cons b r2 =>
      cases r2 with
      | nil => exact .cons b (.cons a .nil)
      | cons c r3 => exact .nil
section
variable {K : PySem.W.Frag} {H H' : Hp}
theorem pr_get {R : V → V → Prop} {xs ys : List V} (h : Paired R xs ys) : ∀ (i : Nat) (x y : V), xs[i]? = some x → ys[i]? = some y → R x y := by
  induction h with
  | nil =>
    intro i x y h
    cases h
  | cons a r ih =>
    intro i x y h1 h2
    cases i with
    | zero =>
      cases Option.some.inj h1
      cases Option.some.inj h2
      exact a
    | succ j => exact ih j x y h1 h2
theorem lk_tup {n : Nat} {a b : Addr} {xs ys : List V} (ha : SqT K H a xs) (hb : SqT K H b ys) (h : Paired (Lk K H n) xs ys) (hl : ys.length ≤ 1000) : Lk K H (n + 1) (.ref a) (.ref b) := .tup ha hb h.length hl (pr_get h)
theorem lk_low {n : Nat} {a b : Addr} {o u o' u' : Int} (ha : H a = some (.tup (lowF o u))) (hb : H b = some (.tup (lowF o' u'))) (e : lowF o' u' = lowF o u) : Lk K H (n + 1) (.ref a) (.ref b) := by
  rw [e] at hb
  exact lk_tup (SqT.of ha) (SqT.of hb) (.cons (.int _) (.cons (.int _) .nil)) (by show 2 ≤ 1000; decide)
end
theorem low_one (o : Int) : lowF o 1 = [.int o, .int 1] := by
  have g1 : gI o 1 = 1 := by
    unfold gI
    rw [Int.gcd_one_right]
    rfl
  unfold lowF sgn
  rw [g1, if_neg (by decide), Int.fdiv_one, Int.fdiv_one]
def errT : List V := [.str "BadPart", .bl true, .bl true, .bl false]
section
variable {P : Program} {w : World} {K : PySem.W.Frag} {mg : Str → Option Value} {base : Heap}
/-- a def that stands, keeps its promise, is called by its place -/
structure Has (P : Program) (w : World) (K : PySem.W.Frag) (mg : Str → Option Value) (base : Heap) (k : Nat) (x : Str) (ps : List Str) (sp : Sp) (f : Addr) (fd : FuncData) : Prop where
  G : FnOk P w K mg base CX0 k f fd ps sp
  kp : PySem.W.keepIn K (.ref f) = true
  b : Binds K fd ps []
  g : mg x = some (.ref f)
/-- what the top says of BadPart as it is caught -/
structure BadT (K : PySem.W.Frag) (mg : Str → Option Value) (C cH : Addr) : Prop where
  gC : mg "BadPart" = some (.ref C)
  gH : mg "HeedError" = some (.ref cH)
  mV : mg "ValueError" = none
  mL : mg "LookupError" = none
  te : PySem.W.exmOne K (.ref C) (.ref C) = some true
  xf : XfC K C
  ek : ExcK K C
  nw : PySem.W.findIn K (.ref C) "word" = some none
  iH : PySem.W.kitOne K (.ref C) (.ref cH) = some true
  iV : PySem.W.kitOne K (.ref C) (.type "ValueError") = some true
  iL : PySem.W.kitOne K (.ref C) (.type "LookupError") = some false
def spLaw (K : PySem.W.Frag) : Sp := fun vs H Q _ => ∃ (a : Addr) (ns : List Int), vs = [.ref a] ∧ SqL K H a (ns.map V.int) ∧ ns.length ≤ 63 ∧ ∀ H', Q (.bl true) H'
theorem scZ : FnScope ["_law_script", "_law_deal_here", "_law_turn", "_law_over_z", "_law_under_z", "_law_found", "e", "_law_due"] ["_law_script"] (defScope sLaw) := ⟨rfl, rfl, rfl, by decide +kernel, rfl, by decide +kernel, by decide +kernel⟩
theorem ok_law {f f1 f2 f3 f4 f5 fP C cH : Addr} {fd d1 d2 d3 d4 d5 dP : FuncData} {ds1 : List Value} {k : Nat} (F : Fun K "law" "law" sLaw f fd) (B : Bi mg) (T : BadT K mg C cH)
    (D : Has P w K mg base k "_law_deal" ["_law_script"] (spDeal K) f1 d1)
    (O : Has P w K mg base k "_law_of" ["_law_deal_here", "_law_some"] (spOf K) f2 d2)
    (L : Has P w K mg base k "_law_like" ["_law_found", "_law_due"] (spLike K 3) f3 d3)
    (W : Has P w K mg base k "_law_low" ["_law_over_z", "_law_under_z"] spLow f4 d4)
    (V' : Has P w K mg base k "_law_over" ["_law_deal_here"] spOver f5 d5)
    (GP : FnOk P w K mg base (L2.CX P w) k fP dP ["over", "under"] (spPart C)) (kP : PySem.W.keepIn K (.ref fP) = true) (gP : mg "part" = some (.ref fP))
    (bP : Binds K dP ["over", "under"] []) (bP1 : Binds K dP ["over", "under"] ds1) (v1 : Vals [.int 1] ds1) (nP : KBn K dP ["over", "under"] 0 ["under", "over"] turn turn) :
    FnOk P w K mg base CX0 (k + 1) f fd ["_law_script"] (spLaw K) := by
  refine F.ok scZ (fun vs H Q E h => ?_) (fun cdv A outer s H vs Q E hr h => ?_)
  · obtain ⟨a, ns, rfl, _⟩ := h
    rfl
  · obtain ⟨a, ns, rfl, hS, hlen, q⟩ := h
    refine ⟨_, pss_cons (ps_set (i := 1) scZ.nd rfl (.inl rfl) (pe_call D.G hr (by rfl) D.g D.kp D.b .nil pass0 (pa_cons (pv 0) pa_nil)))
      (pss_cons (ps_for PassesOwn.never rfl (pi_range1 rfl B.rng (pa_cons pe_int pa_nil)) (pg_name (i := 2) scZ.nd rfl (.inl rfl))
        (pss_cons (ps_par (i := 3) (j := 4) rfl scZ.nd rfl rfl (by decide) rfl rfl (pa_cons (pe_call V'.G hr (by rfl) V'.g V'.kp V'.b .nil pass0 (pa_cons (pv 1) pa_nil))
            (pa_cons (pe_op op_mul (pe_call V'.G hr (by rfl) V'.g V'.kp V'.b .nil pass0 (pa_cons (pv 1) pa_nil)) (pe_call O.G hr (by rfl) O.g O.kp O.b .nil pass0 (pa_cons (pv 1) (pa_cons (pe_lst (pa_cons pe_int (pa_cons pe_int (pa_cons pe_int (pa_cons pe_int pa_nil))))) pa_nil)))) pa_nil)) (by rfl))
        (pss_cons (ps_set (i := 5) scZ.nd rfl (.inl rfl) pe_non)
        (Evl.pss_cut (ps_try_as (i := 6) (tb := fun W => tAsg (tCallS (spPart C) (WE W) (tCons (tVar 3) (tCons (tVar 4) tNil))) (gName 5))
            (ts := fun a cls d => tAsg (tTup (tCons (tXf a cls d C "word" (tVar 6)) (tCons (tCB (rIsX K C a cls d) (tCons (tVar 6) (tCons (tC (.ref cH)) tNil))) (tCons (tCB (rIsX K C a cls d) (tCons (tVar 6) (tCons (tC (.ty "ValueError")) tNil))) (tCons (tCB (rIsX K C a cls d) (tCons (tVar 6) (tCons (tC (.ty "LookupError")) tNil))) tNil))))) (gName 5))
            (Wout := fun _ _ _ _ => False) rfl rfl scZ.nd rfl rfl ⟨rfl, by decide, Or.inl T.gC⟩ takes0
            (fun W pn xe tk _ => pss_one (ps_set (i := 5) scZ.nd rfl (.inl rfl) (by exact (pe_callS GP hr rfl gP kP bP (fun σ => passAt tk σ) (by exact (pa_cons (pv 3) (pa_cons (pv 4) pa_nil)))))))
            (fun a oe cls d pn hz hf => pss_one (ps_set (i := 5) scZ.nd rfl (.inl rfl) (by exact (pe_tup (pa_cons (pe_xf T.xf T.nw hz hf (pv 6))
              (pa_cons (pe_callB (call_isX T.ek hz hf) (by rfl) B.isi (by decide +kernel) (pa_cons (pv 6) (pa_cons (pe_glob (v := .ref cH) rfl T.gH rfl) pa_nil)))
              (pa_cons (pe_callB (call_isX T.ek hz hf) (by rfl) B.isi (by decide +kernel) (pa_cons (pv 6) (pa_cons (pe_bltn (v := .ty "ValueError") (by rfl) T.mV (by decide +kernel) rfl) pa_nil)))
              (pa_cons (pe_callB (call_isX T.ek hz hf) (by rfl) B.isi (by decide +kernel) (pa_cons (pv 6) (pa_cons (pe_bltn (v := .ty "LookupError") (by rfl) T.mL (by decide +kernel) rfl) pa_nil))) pa_nil)))))))))
        (pss_cons (ps_set (i := 7) scZ.nd rfl (.inl rfl) (pe_ifExp (pt_cmpR op_eq (pv 4) pe_int (nomark _)) (pe_tup (pa_cons pe_str (pa_cons pe_bl (pa_cons pe_bl (pa_cons pe_bl pa_nil))))) (pe_call W.G hr (by rfl) W.g W.kp W.b .nil pass0 (pa_cons (pv 3) (pa_cons (pv 4) pa_nil)))))
        (pss_one (ps_if (PW.pt (pw_or (pt_not (pt_val (pe_call L.G hr (by rfl) L.g L.kp L.b .nil pass0 (pa_cons (pv 5) (pa_cons (pv 7) pa_nil)))))
            (pw_or1 (pt_not (pt_val (pe_call L.G hr (by rfl) L.g L.kp L.b .nil pass0 (pa_cons (pe_call GP hr (by rfl) gP kP bP1 v1 passL (pa_cons (pv 3) pa_nil)) (pa_cons (pe_tup (pa_cons (pv 3) (pa_cons pe_int pa_nil))) pa_nil))))))))
          (pss_one (ps_ret pe_bl)) pss_nil)))))))
      (pss_one (ps_ret (pe_call L.G hr (by rfl) L.g L.kp L.b .nil pass0 (pa_cons (pe_callN0 GP hr (by rfl) gP kP nP passL (pk_cons (pe_un un_neg pe_int) (pk_cons pe_int pk_nil))) (pa_cons (pe_tup (pa_cons (pe_un un_neg pe_int) (pa_cons pe_int pa_nil))) pa_nil)))))), ?_⟩
    refine ⟨_, rfl, a, ns, rfl, hS, hlen, fun H1 p sm1 np dl1 => ?_⟩
    refine ⟨8, rfl, by decide, by decide, for_range (lo := 0) (n := 8) (fun i σ H' => ∃ v2 v3 v4 v5 v7 : Option V, σ = [some (.ref a), some (.ref p), v2, v3, v4, v5, none, v7] ∧ Deal H' p) ⟨none, none, none, none, none, rfl, dl1⟩ ?_ ?_⟩
    · rintro i σ H2 hi ⟨v2, v3, v4, v5, v7, rfl, dl2⟩
      -- the two numbers
      refine ⟨_, rfl, p, rfl, dl2, fun H3 o b3 dl3 ob => ?_⟩
      refine ⟨_, rfl, p, rfl, dl3, fun H4 u0 b4 dl4 ub => ?_⟩
      refine ⟨_, rfl, (by show 4 ≤ sizeLine; decide), fun c nc => ?_⟩
      have sc' := same_upd (o := .lst [.int 0, .int 1, .int 1, .int 1]) nc
      refine ⟨p, c, _, rfl, dl4.same sc', SqL.of upd_same, dl4.ne nc, by decide, by decide, fun o5 x hx dl5 => ?_⟩
      obtain ⟨n, rfl, n0, n1⟩ : ∃ n : Int, x = .int n ∧ 0 ≤ n ∧ n ≤ 1 := by
        simp only [List.mem_cons, List.not_mem_nil, or_false] at hx
        rcases hx with rfl | rfl | rfl | rfl
        · exact ⟨_, rfl, by decide, by decide⟩
        · exact ⟨_, rfl, by decide, by decide⟩
        · exact ⟨_, rfl, by decide, by decide⟩
        · exact ⟨_, rfl, by decide, by decide⟩
      refine ⟨_, _, rfl, rfl, .inr ⟨by omega, by omega⟩, _, _, rfl, ?_⟩
      have hu : (u0 * n).natAbs < 2 ^ 100 := by
        have : n = 0 ∨ n = 1 := by omega
        rcases this with rfl | rfl
        · rw [Int.mul_zero]
          decide
        · rw [Int.mul_one]
          exact ub
      have hu9 : (u0 * n).natAbs < 2 ^ 9000 := lt9000 hu (by decide)
      dsimp only
      generalize u0 * n = u at *
      generalize hG : (upd (upd H4 c (.lst [.int 0, .int 1, .int 1, .int 1])) p o5) = G at *
      -- try
      refine ⟨fun σ' H' => ∃ (t : Addr) (xs : List V) (v2 v7 : Option V), σ' = [some (.ref a), some (.ref p), v2, some (.int o), some (.int u), some (.ref t), none, v7] ∧ Deal H' p ∧ H' t = some (.tup xs) ∧ ((u = 0 ∧ xs = errT) ∨ (u ≠ 0 ∧ xs = lowF o u)), ?_, ?_⟩
      · refine ⟨_, rfl, _, rfl, o, u, rfl, hu9, fun e0 d nd => ?_, fun e0 t nt => ?_⟩
        · refine ⟨true, T.te, fun _ a0 na0 => ?_, fun z => Bool.noConfusion z⟩
          have hd : (upd G d (.xd errW)) d = some (.xd errW) := upd_same
          refine ⟨_, rfl, rfl, rfl, d, errW, .str "BadPart", rfl, hd, by decide +kernel, ?_⟩
          refine ⟨_, rfl, _, _, true, d, errW, rfl, rfl, rfl, hd, fun u hu => hu, T.iH, ?_⟩
          refine ⟨_, rfl, _, _, true, d, errW, rfl, rfl, rfl, hd, fun u hu => hu, T.iV, ?_⟩
          refine ⟨_, rfl, _, _, false, d, errW, rfl, rfl, rfl, hd, fun u hu => hu, T.iL, ?_⟩
          refine ⟨(by show 4 ≤ sizeLine; decide), fun t nt => ?_⟩
          exact ⟨t, _, _, _, rfl, dl5.same ((same_upd nd).trans (same_upd nt)), upd_same, .inl ⟨e0, rfl⟩⟩
        · exact ⟨t, _, _, _, rfl, dl5.same (same_upd nt), upd_same, .inr ⟨e0, rfl⟩⟩
      · rintro σ' H6 ⟨t, xs, w2, w7, rfl, dl6, ht, hx⟩
        -- due, then what is alike
        have fin : ∀ (H7 : Hp) (t2 : Addr), Same H6 H7 → H7 t2 = some (.tup xs) → Lk K H7 2 (.ref t) (.ref t2) := fun H7 t2 s7 h7 => by
          rcases hx with ⟨_, rfl⟩ | ⟨_, rfl⟩
          · exact lk_tup (SqT.of (s7 _ _ ht)) (SqT.of h7) (.cons (.str _) (.cons (.bl _) (.cons (.bl _) (.cons (.bl _) .nil)))) (by show 4 ≤ 1000; decide)
          · exact lk_low (s7 _ _ ht) h7 rfl
        refine ⟨_, rfl, rfl, _, rfl, ite2 (fun e0 => ?_) (fun e0 => ?_)⟩
        · have z : u = 0 := V.int.inj (of_decide_eq_true e0)
          obtain rfl : xs = errT := by
            rcases hx with ⟨_, h⟩ | ⟨h, _⟩
            · exact h
            · exact absurd z h
          refine ⟨(by show 4 ≤ sizeLine; decide), fun t2 n2 => ?_⟩
          have s7 := same_upd (o := .tup errT) n2
          refine ⟨_, rfl, _, rfl, _, _, rfl, fin _ t2 s7 upd_same, fun H8 s8 => ⟨_, rfl, iF rfl ?_⟩⟩
          have S8 := s7.trans s8
          refine ⟨_, rfl, o, 1, rfl, lt9000 (a := 1) (by decide) (by decide), fun z => absurd z (by decide), fun _ t3 n3 => ?_⟩
          have s9 := same_upd (o := .tup (lowF o 1)) n3
          refine ⟨_, rfl, (by show 2 ≤ sizeLine; decide), fun t4 n4 => ?_⟩
          have s10 := same_upd (o := .tup [V.int o, V.int 1]) n4
          refine ⟨_, _, rfl, lk_tup (n := 1) (SqT.of (s10 _ _ upd_same)) (SqT.of upd_same) (by rw [low_one]; exact .cons (.int _) (.cons (.int _) .nil)) (by show 2 ≤ 1000; decide), fun HB sB => ⟨_, rfl, iF rfl ?_⟩⟩
          exact ⟨_, _, _, _, _, rfl, dl6.same (S8.trans (s9.trans (s10.trans sB)))⟩
        · have z : u ≠ 0 := fun z => e0 (by rw [z]; exact decide_eq_true rfl)
          obtain rfl : xs = lowF o u := by
            rcases hx with ⟨h, _⟩ | ⟨_, h⟩
            · exact absurd h z
            · exact h
          refine ⟨_, rfl, _, rfl, o, u, rfl, z, hu9, fun t2 n2 => ?_⟩
          have s7 := same_upd (o := .tup (lowF o u)) n2
          refine ⟨_, rfl, _, rfl, _, _, rfl, fin _ t2 s7 upd_same, fun H8 s8 => ⟨_, rfl, iF rfl ?_⟩⟩
          have S8 := s7.trans s8
          refine ⟨_, rfl, o, 1, rfl, lt9000 (a := 1) (by decide) (by decide), fun z => absurd z (by decide), fun _ t3 n3 => ?_⟩
          have s9 := same_upd (o := .tup (lowF o 1)) n3
          refine ⟨_, rfl, (by show 2 ≤ sizeLine; decide), fun t4 n4 => ?_⟩
          have s10 := same_upd (o := .tup [V.int o, V.int 1]) n4
          refine ⟨_, _, rfl, lk_tup (n := 1) (SqT.of (s10 _ _ upd_same)) (SqT.of upd_same) (by rw [low_one]; exact .cons (.int _) (.cons (.int _) .nil)) (by show 2 ≤ 1000; decide), fun HB sB => ⟨_, rfl, iF rfl ?_⟩⟩
          exact ⟨_, _, _, _, _, rfl, dl6.same (S8.trans (s9.trans (s10.trans sB)))⟩
    · rintro σ H2 ⟨v2, v3, v4, v5, v7, rfl, dl2⟩
      refine ⟨_, rfl, rfl, rfl, 6, -4, rfl, lt9000 (a := 3) (by decide) (by decide), fun z => absurd z (by decide), fun _ t nt => ?_⟩
      refine ⟨_, rfl, (by show 2 ≤ sizeLine; decide), fun t2 n2 => ?_⟩
      have s2 := same_upd (o := .tup [V.int (-3), V.int 2]) n2
      refine ⟨_, _, rfl, lk_tup (n := 1) (SqT.of (s2 _ _ upd_same)) (SqT.of upd_same) (by rw [show lowF 6 (-4) = [V.int (-3), V.int 2] by decide +kernel]; exact .cons (.int _) (.cons (.int _) .nil)) (by show 2 ≤ 1000; decide), fun HB sB => ?_⟩
      exact q _
end
end Hl

set_option Elab.async false
set_option linter.all false
set_option maxRecDepth 100000
set_option maxHeartbeats 4000000
namespace Hl
open PySem PySem.Spec PyProof.Rows L2
theorem exm_self {K : PySem.W.Frag} {S : Addr} (h1 : PySem.W.subIn K (.ref S) (.type "BaseException") = some true) (h2 : PySem.W.isClsIn K S = true) (h3 : PySem.W.typeIn K (.ref S) = some (.type "type")) (h4 : PySem.W.subIn K (.ref S) (.ref S) = some true) :
    PySem.W.exmOne K (.ref S) (.ref S) = some true := by
  have e1 : (PySem.W.subIn K (.ref S) (.type "BaseException") == some true) = true := by rw [h1] <;> rfl
  have e2 : ((PySem.W.clsIn K S).isSome && PySem.W.typeIn K (.ref S) == some (.type "type")) = true := by
    have h2' : (PySem.W.clsIn K S).isSome = true := h2
    rw [h2', h3] <;> rfl
  show (if (PySem.W.subIn K (.ref S) (.type "BaseException") == some true) = true then (if ((PySem.W.clsIn K S).isSome && PySem.W.typeIn K (.ref S) == some (.type "type")) = true then PySem.W.subIn K (.ref S) (.ref S) else none) else none) = some true
  rw [if_pos e1, if_pos e2]
  exact h4
theorem all_mk {l : PySem.W.OpenLaw} {w : World} {K : PySem.W.Frag} {h : Heap} {mg : Str → Option Value} {fa : Addr} (X : K.In h) (G : h.Ns mainGlobals mg) (hfa : mg "law" = some (.ref fa))
    {f1 : Addr} {od1 an1 : Option Addr} {sl1 : Array (Option Value)} {oc1 kV1 dc1 pm1 cd1 ct1 : Value}
    {f2 : Addr} {od2 an2 : Option Addr} {sl2 : Array (Option Value)} {oc2 kV2 dc2 pm2 cd2 ct2 : Value}
    {T2 : Addr} {ocT2 : Value} {odT2 : Option Addr} {nT2 : Nat} {slT2 : Array (Option Value)}
    {tk2 : Tok}
    {f3 : Addr} {od3 an3 : Option Addr} {sl3 : Array (Option Value)} {oc3 kV3 dc3 pm3 cd3 ct3 : Value}
    {f4 : Addr} {od4 an4 : Option Addr} {sl4 : Array (Option Value)} {oc4 kV4 dc4 pm4 cd4 ct4 : Value}
    {f5 : Addr} {od5 an5 : Option Addr} {sl5 : Array (Option Value)} {oc5 kV5 dc5 pm5 cd5 ct5 : Value}
    {f6 : Addr} {od6 an6 : Option Addr} {sl6 : Array (Option Value)} {oc6 kV6 dc6 pm6 cd6 ct6 : Value}
    {f7 : Addr} {od7 an7 : Option Addr} {sl7 : Array (Option Value)} {oc7 kV7 dc7 pm7 cd7 ct7 : Value}
    {f8 : Addr} {od8 an8 : Option Addr} {sl8 : Array (Option Value)} {oc8 kV8 dc8 pm8 cd8 ct8 : Value}
    {f9 : Addr} {od9 an9 : Option Addr} {sl9 : Array (Option Value)} {oc9 kV9 dc9 pm9 cd9 ct9 : Value}
    {C cH fB fH TH : Addr} {nm q : Str} {N : Addr} {bs : List Value} {sn : List Str} {sub : List Value} {ab : Bool} {col : Option Bool} {dd : Option Addr} {m0 m1 m2 m3 m5 : Option Value}
    {odB anB odH anH : Option Addr} {slB slH : Array (Option Value)} {ocB kVB dcB pmB cdB ctB ocH kVH dcH pmH cdH ctH : Value} {ocTH : Value} {odTH : Option Addr} {nTH : Nat} {slTH : Array (Option Value)} {tkH1 tkH2 : Tok}
    (a1 : PySem.W.nsIn K mainGlobals "greatest_common" = some (some (.ref f1)))
    (l1 : K.lookup f1 = some ⟨oc1, od1, .func (PySem.W.fnOf "greatest_common" "greatest_common" (defArgs sGcd) (defBody sGcd) (defScope sGcd) (.none) kV1 dc1 pm1 an1 cd1 ct1), sl1⟩)
    (c1 : PySem.W.codeIn K cd1 "greatest_common" = true)
    (k1 : PySem.W.keepIn K (.ref f1) = true)
    (a2 : PySem.W.nsIn K mainGlobals "part" = some (some (.ref f2)))
    (l2 : K.lookup f2 = some ⟨oc2, od2, .func (PySem.W.fnOf "part" "part" (defArgs sPart) (defBody sPart) (defScope sPart) (.ref T2) kV2 dc2 pm2 an2 cd2 ct2), sl2⟩)
    (c2 : PySem.W.codeIn K cd2 "part" = true)
    (k2 : PySem.W.keepIn K (.ref f2) = true)
    (t2 : K.lookup T2 = some ⟨ocT2, odT2, .seq #[.int 1 tk2] nT2, slT2⟩)
    (a3 : PySem.W.nsIn K mainGlobals "_law_deal" = some (some (.ref f3)))
    (l3 : K.lookup f3 = some ⟨oc3, od3, .func (PySem.W.fnOf "_law_deal" "_law_deal" (defArgs sDeal) (defBody sDeal) (defScope sDeal) (.none) kV3 dc3 pm3 an3 cd3 ct3), sl3⟩)
    (c3 : PySem.W.codeIn K cd3 "_law_deal" = true)
    (k3 : PySem.W.keepIn K (.ref f3) = true)
    (a4 : PySem.W.nsIn K mainGlobals "_law_pick" = some (some (.ref f4)))
    (l4 : K.lookup f4 = some ⟨oc4, od4, .func (PySem.W.fnOf "_law_pick" "_law_pick" (defArgs sPick) (defBody sPick) (defScope sPick) (.none) kV4 dc4 pm4 an4 cd4 ct4), sl4⟩)
    (c4 : PySem.W.codeIn K cd4 "_law_pick" = true)
    (k4 : PySem.W.keepIn K (.ref f4) = true)
    (a5 : PySem.W.nsIn K mainGlobals "_law_of" = some (some (.ref f5)))
    (l5 : K.lookup f5 = some ⟨oc5, od5, .func (PySem.W.fnOf "_law_of" "_law_of" (defArgs sOf) (defBody sOf) (defScope sOf) (.none) kV5 dc5 pm5 an5 cd5 ct5), sl5⟩)
    (c5 : PySem.W.codeIn K cd5 "_law_of" = true)
    (k5 : PySem.W.keepIn K (.ref f5) = true)
    (a6 : PySem.W.nsIn K mainGlobals "_law_like" = some (some (.ref f6)))
    (l6 : K.lookup f6 = some ⟨oc6, od6, .func (PySem.W.fnOf "_law_like" "_law_like" (defArgs sLike) (defBody sLike) (defScope sLike) (.none) kV6 dc6 pm6 an6 cd6 ct6), sl6⟩)
    (c6 : PySem.W.codeIn K cd6 "_law_like" = true)
    (k6 : PySem.W.keepIn K (.ref f6) = true)
    (a7 : PySem.W.nsIn K mainGlobals "_law_low" = some (some (.ref f7)))
    (l7 : K.lookup f7 = some ⟨oc7, od7, .func (PySem.W.fnOf "_law_low" "_law_low" (defArgs sLow) (defBody sLow) (defScope sLow) (.none) kV7 dc7 pm7 an7 cd7 ct7), sl7⟩)
    (c7 : PySem.W.codeIn K cd7 "_law_low" = true)
    (k7 : PySem.W.keepIn K (.ref f7) = true)
    (a8 : PySem.W.nsIn K mainGlobals "_law_over" = some (some (.ref f8)))
    (l8 : K.lookup f8 = some ⟨oc8, od8, .func (PySem.W.fnOf "_law_over" "_law_over" (defArgs sOver) (defBody sOver) (defScope sOver) (.none) kV8 dc8 pm8 an8 cd8 ct8), sl8⟩)
    (c8 : PySem.W.codeIn K cd8 "_law_over" = true)
    (k8 : PySem.W.keepIn K (.ref f8) = true)
    (a9 : PySem.W.nsIn K mainGlobals "law" = some (some (.ref f9)))
    (l9 : K.lookup f9 = some ⟨oc9, od9, .func (PySem.W.fnOf "law" "law" (defArgs sLaw) (defBody sLaw) (defScope sLaw) (.none) kV9 dc9 pm9 an9 cd9 ct9), sl9⟩)
    (c9 : PySem.W.codeIn K cd9 "law" = true)
    (k9 : PySem.W.keepIn K (.ref f9) = true)
    (z1 : PySem.W.nsIn K mainGlobals "isinstance" = some none)
    (z2 : PySem.W.nsIn K mainGlobals "list" = some none)
    (z3 : PySem.W.nsIn K mainGlobals "tuple" = some none)
    (z4 : PySem.W.nsIn K mainGlobals "len" = some none)
    (z5 : PySem.W.nsIn K mainGlobals "all" = some none)
    (z6 : PySem.W.nsIn K mainGlobals "range" = some none)
    (z7 : PySem.W.nsIn K mainGlobals "bool" = some none)
    (z8 : PySem.W.nsIn K mainGlobals "int" = some none)
    (z9 : PySem.W.nsIn K mainGlobals "str" = some none)
    (z10 : PySem.W.nsIn K mainGlobals "abs" = some none)
    (z11 : PySem.W.nsIn K mainGlobals "ValueError" = some none)
    (z12 : PySem.W.nsIn K mainGlobals "LookupError" = some none)
    (aC : PySem.W.nsIn K mainGlobals "BadPart" = some (some (.ref C)))
    (aH : PySem.W.nsIn K mainGlobals "HeedError" = some (some (.ref cH)))
    (xC : K.lookup C = some (excClassObj nm q C N bs [.ref cH, .type "ValueError", .type "Exception", .type "BaseException", .type "object"] true sn sub ab col dd m0 m1 m2 m3 m5 "ValueError.__new__"))
    (saC : PySem.W.findIn K (.ref C) "__setattr__" = some (some (.builtin "object.__setattr__")))
    (exC : PySem.W.subIn K (.ref C) (.type "BaseException") = some true)
    (tyC : PySem.W.typeIn K (.ref C) = some (.type "type"))
    (kpC : PySem.W.keepIn K (.ref C) = true)
    (iC : PySem.W.findIn K (.ref C) "__init__" = some (some (.ref fB)))
    (tI : PySem.W.typeIn K (.ref fB) = some (.type "function"))
    (lB : K.lookup fB = some ⟨ocB, odB, .func (PySem.W.fnOf "__init__" "BadPart.__init__" (defArgs sBpi) (defBody sBpi) (defScope sBpi) .none kVB dcB pmB anB cdB ctB), slB⟩)
    (cB : PySem.W.codeIn K cdB "BadPart.__init__" = true)
    (kB : PySem.W.keepIn K (.ref fB) = true)
    (rH : PySem.W.readsIn K cH (.type "type") = true)
    (gaH : PySem.W.specialIn K (.ref cH) "__getattribute__" = some (some (.builtin "type.__getattribute__")))
    (vH : PySem.W.findCls K (.ref cH) (.type "type") "__init__" = some (.val (.ref fH)))
    (lH : K.lookup fH = some ⟨ocH, odH, .func (PySem.W.fnOf "__init__" "HeedError.__init__" (defArgs sHi) (defBody sHi) (defScope sHi) (.ref TH) kVH dcH pmH anH cdH ctH), slH⟩)
    (ccH : PySem.W.codeIn K cdH "HeedError.__init__" = true)
    (kH : PySem.W.keepIn K (.ref fH) = true)
    (tH : K.lookup TH = some ⟨ocTH, odTH, .seq #[.str "HeedError" tkH1, .str "" tkH2] nTH, slTH⟩)
    (vV : PySem.W.findCls K (.type "ValueError") (.type "type") "__init__" = some (.val (.builtin "ValueError.__init__")))
    (gaC : PySem.W.findIn K (.ref C) "__getattribute__" = some (some (.builtin "BaseException.__getattribute__")))
    (ggC : PySem.W.findIn K (.ref C) "__getattr__" = some none)
    (hdC : PySem.W.hasDictIn K C = true)
    (clC : PySem.W.isClsIn K C = true)
    (ccC : PySem.W.findIn K (.ref C) "__class__" = some (some (.builtin "object.__class__")))
    (spC : PySem.W.specialIn K (.builtin "object.__class__") "__get__" = some (some (.builtin "getset_descriptor.__get__")))
    (tkC : PySem.W.takesIn K (.builtin "object.__class__") = some true)
    (mrC : PySem.W.mroIn K C (.type "object") = some true)
    (nwC : PySem.W.findIn K (.ref C) "word" = some none)
    (sbC : PySem.W.subIn K (.ref C) (.ref C) = some true)
    (iH : PySem.W.kitOne K (.ref C) (.ref cH) = some true)
    (iV : PySem.W.kitOne K (.ref C) (.type "ValueError") = some true)
    (iL : PySem.W.kitOne K (.ref C) (.type "LookupError") = some false) :
    ∃ fd : FuncData, (∀ (s : Shared) (v : Value), BindsTo s fd ⟨[v], []⟩ [("_law_script", v)]) ∧ ∀ base : Heap, K.In base → base.Ns mainGlobals mg → FnOk l.prog w K mg base CX0 5 fa fd ["_law_script"] (spLaw K) := by
  have e := hfa.symm.trans (PySem.W.mg_of X G a9)
  cases e
  have B : Bi mg := ⟨PySem.W.mg_none_of X G z1, PySem.W.mg_none_of X G z2, PySem.W.mg_none_of X G z3, PySem.W.mg_none_of X G z4, PySem.W.mg_none_of X G z5, PySem.W.mg_none_of X G z6, PySem.W.mg_none_of X G z7, PySem.W.mg_none_of X G z8, PySem.W.mg_none_of X G z9, PySem.W.mg_none_of X G z10⟩
  have T : OexC K C := ⟨⟨nm, q, N, bs, _, sn, sub, ab, col, dd, m0, m1, m2, m3, m5, xC, by rfl⟩, saC, exC, tyC, kpC⟩
  have BT : BadT K mg C cH := ⟨PySem.W.mg_of X G aC, PySem.W.mg_of X G aH, PySem.W.mg_none_of X G z11, PySem.W.mg_none_of X G z12, exm_self exC clC tyC sbC, ⟨gaC, ggC, exC, hdC⟩, ⟨clC, gaC, ggC, exC, ccC, spC, tkC, mrC⟩, nwC, iH, iV, iL⟩
  have FB := fun_mk (st := sBpi) lB cB kB
  have bB := FB.binds (ps := ["self"]) fun _ _ _ _ _ _ us hl => match us, hl with | [_], _ => rfl
  have FH : FunD K "__init__" "HeedError.__init__" (defArgs sHi) (defBody sHi) (defScope sHi) [.str "HeedError", .str ""] [] fH _ := ⟨⟨_, _, _, _, _, _, _, _, _, _, rfl, lH, ccH, .inr ⟨by simp, _, _, [.str "HeedError" tkH1, .str "" tkH2], _, rfl, tH, rfl, .cons ⟨_, rfl⟩ (.cons ⟨_, rfl⟩ .nil)⟩, .inl rfl⟩, kH⟩
  obtain ⟨dsH, rvH, bH⟩ := FH.binds1 (ps := ["self", "word", "about"]) 2 1 (by simp) rfl (fun T kV doc pm an cdv ct us its hu hi => match us, its, hu, hi with | [_, _], [_, _], _, _ => ⟨_, rfl, rfl⟩)

  have F1 := fun_mk (st := sGcd) l1 c1 k1
  have F2 : FunD K "part" "part" (defArgs sPart) (defBody sPart) (defScope sPart) [.int 1] [] f2 _ := ⟨⟨_, _, _, _, _, _, _, _, _, _, rfl, l2, c2, .inr ⟨by simp, _, _, [.int 1 tk2], _, rfl, t2, rfl, .cons ⟨_, rfl⟩ .nil⟩, .inl rfl⟩, k2⟩
  have F3 := fun_mk (st := sDeal) l3 c3 k3
  have F4 := fun_mk (st := sPick) l4 c4 k4
  have F5 := fun_mk (st := sOf) l5 c5 k5
  have F6 := fun_mk (st := sLike) l6 c6 k6
  have F7 := fun_mk (st := sLow) l7 c7 k7
  have F8 := fun_mk (st := sOver) l8 c8 k8
  have F9 := fun_mk (st := sLaw) l9 c9 k9
  have b1 := F1.binds (ps := ["one", "other"]) fun _ _ _ _ _ _ us hl => match us, hl with | [_, _], _ => rfl
  have b3 := F3.binds (ps := ["_law_script"]) fun _ _ _ _ _ _ us hl => match us, hl with | [_], _ => rfl
  have b4 := F4.binds (ps := ["_law_deal_here", "_law_many"]) fun _ _ _ _ _ _ us hl => match us, hl with | [_, _], _ => rfl
  have b5 := F5.binds (ps := ["_law_deal_here", "_law_some"]) fun _ _ _ _ _ _ us hl => match us, hl with | [_, _], _ => rfl
  have b6 := F6.binds (ps := ["_law_found", "_law_due"]) fun _ _ _ _ _ _ us hl => match us, hl with | [_, _], _ => rfl
  have b7 := F7.binds (ps := ["_law_over_z", "_law_under_z"]) fun _ _ _ _ _ _ us hl => match us, hl with | [_, _], _ => rfl
  have b8 := F8.binds (ps := ["_law_deal_here"]) fun _ _ _ _ _ _ us hl => match us, hl with | [_], _ => rfl
  have b2 : Binds K (PySem.W.fnOf "part" "part" (defArgs sPart) (defBody sPart) (defScope sPart) (.ref T2) kV2 dc2 pm2 an2 cd2 ct2) ["over", "under"] [] := by
    obtain ⟨ds, r, b⟩ := F2.binds1 (ps := ["over", "under"]) 2 1 (by simp) rfl (fun T kV doc pm an cdv ct us its hu hi => match us, its, hu, hi with | [_, _], [_], _, _ => ⟨_, rfl, rfl⟩)
    cases r
    exact b
  obtain ⟨ds1, v1, b21⟩ := F2.binds1 (ps := ["over", "under"]) 1 0 (by simp) rfl (fun T kV doc pm an cdv ct us its hu hi => match us, its, hu, hi with | [_], [_], _, _ => ⟨_, rfl, rfl⟩)
  have nP : KBn K (PySem.W.fnOf "part" "part" (defArgs sPart) (defBody sPart) (defScope sPart) (.ref T2) kV2 dc2 pm2 an2 cd2 ct2) ["over", "under"] 0 ["under", "over"] turn turn := by
    refine ⟨fun s us ws Y l1 l2 => ?_, turn_rel⟩
    match us, ws, l1, l2 with
    | [], [a, b], _, _ =>
      refine BindsTo.of_looks fun M => ?_
      exact looks_items Y t2 rfl (.of_pure rfl)
  have g1 := PySem.W.mg_of X G a1
  have g2 := PySem.W.mg_of X G a2
  have g3 := PySem.W.mg_of X G a3
  have g4 := PySem.W.mg_of X G a4
  have g5 := PySem.W.mg_of X G a5
  have g6 := PySem.W.mg_of X G a6
  have g7 := PySem.W.mg_of X G a7
  have g8 := PySem.W.mg_of X G a8
  refine ⟨PySem.W.fnOf "law" "law" (defArgs sLaw) (defBody sLaw) (defScope sLaw) .none kV9 dc9 pm9 an9 cd9 ct9, fun s v => .of_eq rfl, fun base _ _ => ?_⟩
  have GH : FnOk l.prog w K mg base CX0 1 fH _ ["self", "word", "about"] (spHi K) := ok_hi (k := 0) FH BT.mV vV
  have GB : FnOk l.prog w K mg base CX0 2 fB _ ["self"] (spBpi K) := ok_bpi (k := 0) FB GH kH bH rvH ⟨rH, gaH⟩ ⟨vH, rfl⟩ BT.gH
  have GP : FnOk l.prog w K mg base (L2.CX l.prog w) 4 f2 _ ["over", "under"] (spPart C) := ok_part (k := 0) F2 F1 b1 g1 B.abs GB bB T nwC iC tI BT.gC
  exact ok_law (k := 4) F9 B BT ⟨ok_deal (k := 3) F3 B.lst, k3, b3, g3⟩ ⟨ok_of (k := 2) F5 F4 b4 g4 B, k5, b5, g5⟩ ⟨ok_like F6 b6 g6 B 3, k6, b6, g6⟩ ⟨ok_low (k := 3) F7 B, k7, b7, g7⟩
    ⟨ok_over (k := 1) F8 F4 b4 g4 F5 b5 g5 B, k8, b8, g8⟩ GP k2 g2 b2 b21 v1 nP
end Hl

set_option Elab.async false
set_option linter.all false
set_option maxRecDepth 100000
open PySem PySem.W PyProof.Rows
set_option maxHeartbeats 0 in
theorem PySem.Challenge.cw_heedless_k01_parts_in_lowest_terms_holds : PySem.Challenge.rw_heedless_k01_parts_in_lowest_terms.Holds := by
  w_on; o_law; k_head; (case hw => w_witness2)
  k_fill
  refine L2.walk_of (l := PySem.Challenge.rw_heedless_k01_parts_in_lowest_terms) (n := 63) (k := 5) (x := "_law_script") (CX := fun _ => L2.CX0) (sp := fun w => Hl.spLaw _) rfl (by decide) rfl ⟨rfl, by decide, by decide⟩ (fun w h Y => PySem.W.kIn_of Y) ?F (fun _ _ a ns hl _ hS => ⟨a, ns, rfl, hS, hl, fun _ => rfl⟩) (fun _ _ _ _ _ h => h)
  case F =>
    intro w mg fa h KX G hmg
    refine' Hl.all_mk KX G hmg ?a1 ?l1 ?c1 ?k1 ?a2 ?l2 ?c2 ?k2 ?t2 ?a3 ?l3 ?c3 ?k3 ?a4 ?l4 ?c4 ?k4 ?a5 ?l5 ?c5 ?k5 ?a6 ?l6 ?c6 ?k6 ?a7 ?l7 ?c7 ?k7 ?a8 ?l8 ?c8 ?k8 ?a9 ?l9 ?c9 ?k9 ?z1 ?z2 ?z3 ?z4 ?z5 ?z6 ?z7 ?z8 ?z9 ?z10 ?z11 ?z12 ?aC ?aH ?xC ?saC ?exC ?tyC ?kpC ?iC ?tI ?lB ?cB ?kB ?rH ?gaH ?vH ?lH ?ccH ?kH ?tH ?vV ?gaC ?ggC ?hdC ?clC ?ccC ?spC ?tkC ?mrC ?nwC ?sbC ?iH ?iV ?iL
    (case a1 => first | k_is | rfl); (case l1 => first | k_is | rfl); (case c1 => first | k_is | rfl); (case k1 => first | k_is | rfl); (case a2 => first | k_is | rfl); (case l2 => first | k_is | rfl); (case c2 => first | k_is | rfl); (case k2 => first | k_is | rfl); (case t2 => first | k_is | rfl); (case a3 => first | k_is | rfl); (case l3 => first | k_is | rfl); (case c3 => first | k_is | rfl); (case k3 => first | k_is | rfl); (case a4 => first | k_is | rfl); (case l4 => first | k_is | rfl); (case c4 => first | k_is | rfl); (case k4 => first | k_is | rfl); (case a5 => first | k_is | rfl); (case l5 => first | k_is | rfl); (case c5 => first | k_is | rfl); (case k5 => first | k_is | rfl); (case a6 => first | k_is | rfl); (case l6 => first | k_is | rfl); (case c6 => first | k_is | rfl); (case k6 => first | k_is | rfl); (case a7 => first | k_is | rfl); (case l7 => first | k_is | rfl); (case c7 => first | k_is | rfl); (case k7 => first | k_is | rfl); (case a8 => first | k_is | rfl); (case l8 => first | k_is | rfl); (case c8 => first | k_is | rfl); (case k8 => first | k_is | rfl); (case a9 => first | k_is | rfl); (case l9 => first | k_is | rfl); (case c9 => first | k_is | rfl); (case k9 => first | k_is | rfl); (case z1 => first | k_is | rfl); (case z2 => first | k_is | rfl); (case z3 => first | k_is | rfl); (case z4 => first | k_is | rfl); (case z5 => first | k_is | rfl); (case z6 => first | k_is | rfl); (case z7 => first | k_is | rfl); (case z8 => first | k_is | rfl); (case z9 => first | k_is | rfl); (case z10 => first | k_is | rfl); (case z11 => first | k_is | rfl); (case z12 => first | k_is | rfl); (case aC => first | k_is | rfl); (case aH => first | k_is | rfl); (case xC => first | k_is | rfl); (case saC => first | k_is | rfl); (case exC => first | k_is | rfl); (case tyC => first | k_is | rfl); (case kpC => first | k_is | rfl); (case iC => first | k_is | rfl); (case tI => first | k_is | rfl); (case lB => first | k_is | rfl); (case cB => first | k_is | rfl); (case kB => first | k_is | rfl); (case rH => first | k_is | rfl); (case gaH => first | k_is | rfl); (case vH => first | k_is | rfl); (case lH => first | k_is | rfl); (case ccH => first | k_is | rfl); (case kH => first | k_is | rfl); (case tH => first | k_is | rfl); (case vV => first | k_is | rfl); (case gaC => first | k_is | rfl); (case ggC => first | k_is | rfl); (case hdC => first | k_is | rfl); (case clC => first | k_is | rfl); (case ccC => first | k_is | rfl); (case spC => first | k_is | rfl); (case tkC => first | k_is | rfl); (case mrC => first | k_is | rfl); (case nwC => first | k_is | rfl); (case sbC => first | k_is | rfl); (case iH => first | k_is | rfl); (case iV => first | k_is | rfl); (case iL => first | k_is | rfl)

