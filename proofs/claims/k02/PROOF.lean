import PyProof.Rows.All
import Wide.All
import OpenK.AllK
import Wide.FinOn
import PySem.Challenge.RW_heedless_k02_parts_reckoned
import HandS.ForMost
import HandS.Wide
import HandS.EndBits
import HandS.IsInst
import HandS.Defaults
import HandS.Evl
import HandS.Style
set_option Elab.async false
set_option linter.all false
set_option maxRecDepth 100000
set_option maxHeartbeats 4000000
namespace Hl
open PySem PySem.Spec PyProof.Rows L2
def topS (i : Nat) : Stmt := PySem.Challenge.pw_heedless_k02_parts_reckoned.main.body.getD i (.Pass ⟨0, 0, 0, 0⟩)
abbrev sGcd : Stmt := topS 4
abbrev sPart : Stmt := topS 5
abbrev sLow : Stmt := topS 15
/-! mathematics -/
/-- the greatest common number, as an int -/
def gI (a b : Int) : Int := ((Int.gcd a b : Nat) : Int)
def sgn (o u : Int) : Int := if u < 0 then -(gI o u) else gI o u
def lowF (o u : Int) : List V := [.int (o.fdiv (sgn o u)), .int (u.fdiv (sgn o u))]
theorem gI_step {x y : Int} (hx : 0 ≤ x) (hy : 0 < y) : gI y (x % y) = gI x y := by
  obtain ⟨n, rfl⟩ := Int.eq_ofNat_of_zero_le hx
  obtain ⟨m, rfl⟩ := Int.eq_ofNat_of_zero_le (Int.le_of_lt hy)
  unfold gI Int.gcd
  rw [← Int.natCast_emod, Int.natAbs_natCast, Int.natAbs_natCast, Int.natAbs_natCast, Nat.gcd_comm n m, Nat.gcd_rec m n, Nat.gcd_comm]
theorem gI_zero {x : Int} (hx : 0 ≤ x) : gI x 0 = x := by
  unfold gI
  rw [Int.gcd_zero]
  omega
theorem absV (i : Int) : (if i < 0 then -i else i) = (i.natAbs : Int) := by
  split <;> omega
theorem gI_abs (o u : Int) : gI (o.natAbs : Int) (u.natAbs : Int) = gI o u := by
  unfold gI Int.gcd
  rw [Int.natAbs_natCast, Int.natAbs_natCast]
theorem gI_pos {o u : Int} (h : u ≠ 0) : 0 < gI o u := by
  unfold gI
  have := Int.gcd_pos_of_ne_zero_right o h
  omega
theorem gI_le {o u : Int} (h : u ≠ 0) : (gI o u).natAbs ≤ u.natAbs := by
  unfold gI
  have := Nat.gcd_le_right o.natAbs (Int.natAbs_pos.mpr h)
  unfold Int.gcd
  omega
theorem sgn_ne {o u : Int} (h : u ≠ 0) : sgn o u ≠ 0 := by
  have := gI_pos (o := o) h
  unfold sgn
  split <;> omega
theorem sgn_abs (o u : Int) : (sgn o u).natAbs = (gI o u).natAbs := by
  unfold sgn
  split <;> omega
/-- // by any divisor but nought, below 2 ^ 9000 in size -/
def CDivZ (_ j : Int) : Prop := j ≠ 0 ∧ j.natAbs.log2 < 9000
theorem op_fdivZ {X : Cx} : OpR X (binaryOp .FloorDiv) (rI CDivZ fun i j => .int (i.fdiv j)) :=
  opI fun _ _ _ _ _ _ _ hc q => floordiv_int hc.1 q (.inl (PyProof.noPylong_of_log2 hc.2))
theorem divZ {i j : Int} (h : j ≠ 0) (hb : j.natAbs < 2 ^ 9000) : CDivZ i j :=
  ⟨h, PySem.Flt.log2_lt_of (by decide) hb⟩
section
variable {P : Program} {w : World} {K : PySem.W.Frag} {mg : Str → Option Value} {base : Heap}
/-! greatest_common -/
def spGcd : Sp := fun vs H Q _ => ∃ a b : Int, vs = [.int a, .int b] ∧ 0 ≤ a ∧ 0 ≤ b ∧ Q (.int (gI a b)) H
theorem scG : FnScope ["one", "other"] ["one", "other"] (defScope sGcd) := ⟨rfl, rfl, rfl, by decide +kernel, rfl, by decide +kernel, by decide +kernel⟩
theorem ok_gcd {f : Addr} {fd : FuncData} {k : Nat} (F : Fun K "greatest_common" "greatest_common" sGcd f fd) : FnOk P w K mg base CX0 (k + 1) f fd ["one", "other"] spGcd := by
  refine F.ok scG (fun vs H Q E h => ?_) (fun cdv A outer s H vs Q E hr h => ?_)
  · obtain ⟨a, b, rfl, _⟩ := h
    rfl
  · obtain ⟨a, b, rfl, ha, hb, q⟩ := h
    refine ⟨_, pss_cons (ps_while PassesOwn.never (pt_cmpR op_ne (pv 1) pe_int (nomark _))
        (pss_one (ps_par (i := 0) (j := 1) rfl scG.nd rfl rfl (by decide) rfl rfl (pa_cons (pv 1) (pa_cons (pe_op op_mod (pv 0) (pv 1)) pa_nil)) (by rfl))))
      (pss_one (ps_ret (pv 0))), ?_⟩
    refine ⟨fun m σ H' => ∃ x y : Int, σ = [some (.int x), some (.int y)] ∧ 0 ≤ x ∧ 0 ≤ y ∧ m = y.toNat ∧ gI x y = gI a b ∧ H' = H,
      ⟨_, a, b, rfl, ha, hb, rfl, rfl, rfl⟩, ?_⟩
    rintro m σ H' ⟨x, y, rfl, hx, hy, rfl, hg, rfl⟩
    refine ⟨_, rfl, rfl, _, rfl, ite2 (fun e => ?_) (fun e => ?_)⟩
    · have hy0 : y ≠ 0 := fun z => by
        subst z
        exact absurd e (by decide)
      have hy1 : 0 < y := by omega
      refine ⟨fun σ' H'' => ∃ x' y' : Int, σ' = [some (.int x'), some (.int y')] ∧ 0 ≤ x' ∧ 0 ≤ y' ∧ y' < y ∧ gI x' y' = gI a b ∧ H'' = H', fun σ' H'' ⟨x', y', e1, e2, e3, e4, e5, e6⟩ => ⟨y'.toNat, by omega, x', y', e1, e2, e3, rfl, e5, e6⟩, ?_⟩
      refine ⟨_, rfl, _, rfl, _, rfl, _, _, rfl, rfl, hy1, _, _, rfl, ?_⟩
      exact ⟨y, x % y, rfl, hy, Int.emod_nonneg _ hy0, Int.emod_lt_of_pos _ hy1, (gI_step hx hy1).trans hg, rfl⟩
    · have hy0 : y = 0 := by
        by_cases z : y = 0
        · exact z
        · exact absurd (show (!decide (V.int y = V.int 0)) = true by simp [z]) e
      subst hy0
      rw [gI_zero hx] at hg
      subst hg
      exact ⟨_, rfl, q⟩
/-! part -/
def spPart : Sp := fun vs H Q _ => ∃ o u : Int, vs = [.int o, .int u] ∧ u ≠ 0 ∧ u.natAbs < 2 ^ 9000 ∧ ∀ p, H p = none → Q (.ref p) (upd H p (.tup (lowF o u)))
theorem scP : FnScope ["over", "under", "shared"] ["over", "under"] (defScope sPart) := ⟨rfl, rfl, rfl, by decide +kernel, rfl, by decide +kernel, by decide +kernel⟩
theorem ok_part {f fG : Addr} {fd fdG : FuncData} {dvs : List V} {kws : List (Str × V)} {k : Nat} (F : FunD K "part" "part" (defArgs sPart) (defBody sPart) (defScope sPart) dvs kws f fd) (FG : Fun K "greatest_common" "greatest_common" sGcd fG fdG) (bG : Binds K fdG ["one", "other"] [])
    (gG : mg "greatest_common" = some (.ref fG)) (mA : mg "abs" = none) : FnOk P w K mg base CX0 (k + 2) f fd ["over", "under"] spPart := by
  have GG : FnOk P w K mg base CX0 (k + 1) fG fdG ["one", "other"] spGcd := ok_gcd FG
  refine F.ok scP (fun vs H Q E h => ?_) (fun cdv A outer s H vs Q E hr h => ?_)
  · obtain ⟨o, u, rfl, _⟩ := h
    rfl
  · obtain ⟨o, u, rfl, hu0, hub, q⟩ := h
    refine ⟨_, PSs.nox (pss_cons (ps_if (pt_cmpR op_eq (pv 1) pe_int (nomark _)) (pss_one ps_never) pss_nil)
      (pss_cons (ps_set (i := 2) scP.nd rfl (.inl rfl) (pe_call GG hr (by rfl) gG FG.kp bG .nil pass0 (pa_cons (pe_callB call_abs (by rfl) mA (by decide +kernel) (pa_cons (pv 0) pa_nil)) (pa_cons (pe_callB call_abs (by rfl) mA (by decide +kernel) (pa_cons (pv 1) pa_nil)) pa_nil))))
      (pss_cons (ps_if (pt_cmpR op_lt (pv 1) pe_int (nomark _)) (pss_one (ps_set (i := 2) scP.nd rfl (.inl rfl) (pe_un un_neg (pv 2)))) pss_nil)
      (pss_one (ps_ret (pe_tup (pa_cons (pe_op op_fdivZ (pv 0) (pv 2)) (pa_cons (pe_op op_fdivZ (pv 1) (pv 2)) pa_nil)))))))), ?_⟩
    have hs0 : sgn o u ≠ 0 := sgn_ne hu0
    have hsb : (sgn o u).natAbs < 2 ^ 9000 := by
      rw [sgn_abs]
      exact Nat.lt_of_le_of_lt (gI_le hu0) hub
    refine ⟨_, rfl, rfl, _, rfl, ite2 (fun e => ?_) (fun e => ?_)⟩
    · exact absurd (V.int.inj (of_decide_eq_true e)) hu0
    · refine ⟨_, rfl, o, rfl, _, rfl, u, rfl, (o.natAbs : Int), (u.natAbs : Int), ?_, by omega, by omega, ?_⟩
      · rw [absV, absV]
        rfl
      · rw [gI_abs]
        refine ⟨_, rfl, _, _, rfl, rfl, _, rfl, ite2 (fun e2 => ?_) (fun e2 => ?_)⟩
        · have hn : u < 0 := of_decide_eq_true e2
          have es : sgn o u = -(gI o u) := if_pos hn
          refine ⟨_, rfl, _, rfl, ?_⟩
          dsimp only
          rw [← es]
          exact ⟨_, rfl, _, rfl, _, _, rfl, rfl, divZ hs0 hsb, _, rfl, _, rfl, _, _, rfl, rfl, divZ hs0 hsb, (by show 2 ≤ sizeLine; decide), fun p hp => q p hp⟩
        · have hn : ¬ u < 0 := fun z => e2 (decide_eq_true z)
          have es : sgn o u = gI o u := if_neg hn
          rw [← es]
          exact ⟨_, rfl, _, rfl, _, _, rfl, rfl, divZ hs0 hsb, _, rfl, _, rfl, _, _, rfl, rfl, divZ hs0 hsb, (by show 2 ≤ sizeLine; decide), fun p hp => q p hp⟩
end
end Hl

set_option Elab.async false
set_option linter.all false
set_option maxRecDepth 100000
set_option maxHeartbeats 4000000
namespace Hl
open PySem PySem.Spec PyProof.Rows L2
abbrev sDeal : Stmt := topS 11
abbrev sPick : Stmt := topS 12
abbrev sOf : Stmt := topS 13
/-- a positive divisor below 2 ^ 9000 -/
def CDivP (_ j : Int) : Prop := 0 < j ∧ j.natAbs.log2 < 9000
theorem op_fdivP {X : Cx} : OpR X (binaryOp .FloorDiv) (rI CDivP fun i j => .int (i / j)) := opI fun i j _ _ _ _ _ hc q => by
  have h1 : (0 : Int) < j := hc.1
  exact floordiv_int (by omega) (by rw [Int.fdiv_eq_ediv_of_nonneg i (by omega)]; exact q) (.inl (PyProof.noPylong_of_log2 hc.2))
/-- what stands in a deal -/
def d5 (l : Addr) (at' z m c : Int) : HO := .lst [.ref l, .int at', .int z, .int m, .int c]
structure Deal (H : Hp) (p : Addr) : Prop where
  ex : ∃ (l : Addr) (ns : List Int) (a z m c : Int), H p = some (d5 l a z m c) ∧ H l = some (.lst (ns.map V.int)) ∧ l ≠ p ∧ 0 ≤ a ∧ 0 ≤ z ∧ 0 ≤ m ∧ m < 2147483587
theorem upd_upd {H : Hp} {p : Addr} {a b : HO} : upd (upd H p a) p b = upd H p b := by
  funext x
  by_cases h : x = p
  · rw [h, upd_same, upd_same]
  · rw [upd_ne h, upd_ne h, upd_ne h]
theorem same_upd {H : Hp} {p : Addr} {o : HO} (h : H p = none) : Same H (upd H p o) := fun b x e => by
  rw [upd_ne (ne_of_none e h)]
  exact e
theorem ne_of_fresh {H : Hp} {a b : Addr} {o : HO} (h : H a = some o) (n : H b = none) : b ≠ a := fun e => by
  rw [e, h] at n
  cases n
/-- what H tracks stays, but at p -/
def But (p : Addr) (H H' : Hp) : Prop := ∀ b o, b ≠ p → H b = some o → H' b = some o
theorem But.refl (p : Addr) (H : Hp) : But p H H := fun _ _ _ h => h
theorem But.trans {p : Addr} {H H1 H2 : Hp} (a : But p H H1) (b : But p H1 H2) : But p H H2 := fun x o n h => b x o n (a x o n h)
theorem But.of {p : Addr} {H H1 : Hp} (a : Same H H1) : But p H H1 := fun x o _ h => a x o h
theorem But.upd {p : Addr} {H : Hp} {o : HO} : But p H (upd H p o) := fun b x n h => by
  rw [upd_ne n]
  exact h
theorem cut63 {xs : List V} (h : xs.length ≤ 63) : cutV xs none (some 63) = xs := by
  unfold cutV
  rw [HT.sIx_none, show HT.sIx xs.length xs.length (some 63) = min 63 xs.length from HT.sIx_nat xs.length xs.length 63, Nat.min_eq_right h]
  show (List.take (xs.length - 0) xs) = xs
  rw [Nat.sub_zero, List.take_length]
section
variable {P : Program} {w : World} {K : PySem.W.Frag} {mg : Str → Option Value} {base : Heap}
/-! _law_deal -/
def spDeal (K : PySem.W.Frag) : Sp := fun vs H Q _ => ∃ (a : Addr) (ns : List Int), vs = [.ref a] ∧ SqL K H a (ns.map V.int) ∧ ns.length ≤ 63 ∧
  ∀ H' p, Same H H' → H p = none → Deal H' p → Q (.ref p) H'
theorem scD : FnScope ["_law_script", "_law_mixed", "_law_cell"] ["_law_script"] (defScope sDeal) := ⟨rfl, rfl, rfl, by decide +kernel, rfl, by decide +kernel, by decide +kernel⟩
theorem ok_deal {f : Addr} {fd : FuncData} {k : Nat} (F : Fun K "_law_deal" "_law_deal" sDeal f fd) (mL : mg "list" = none) : FnOk P w K mg base CX0 (k + 1) f fd ["_law_script"] (spDeal K) := by
  refine F.ok scD (fun vs H Q E h => ?_) (fun cdv A outer s H vs Q E hr h => ?_)
  · obtain ⟨a, ns, rfl, _⟩ := h
    rfl
  · obtain ⟨a, ns, rfl, hS, hlen, q⟩ := h
    refine ⟨_, pss_cons (ps_set (i := 1) scD.nd rfl (.inl rfl) pe_int)
      (pss_cons (ps_for PassesOwn.never rfl (pi_list (pe_slice sl_list (pv 0) po_none (po_some pe_int))) (pg_name (i := 2) scD.nd rfl (.inl rfl))
        (pss_one (ps_set (i := 1) scD.nd rfl (.inl rfl) (pe_op op_mod (pe_op op_add (pe_op op_add (pe_op op_mul (pv 1) pe_int) (pe_op op_mod (pv 2) pe_int)) pe_int) pe_int))))
      (pss_one (ps_ret (pe_lst (pa_cons (pe_callTy call_list_of (by rfl) mL (by decide +kernel) (pa_cons (pe_slice sl_list (pv 0) po_none (po_some pe_int)) pa_nil)) (pa_cons pe_int (pa_cons pe_int (pa_cons (pv 1) (pa_cons pe_int pa_nil))))))))), ?_⟩
    have hl63 : (ns.map V.int).length ≤ 63 := by rw [List.length_map]; exact hlen
    refine ⟨_, rfl, 63, rfl, a, ns.map V.int, rfl, hS, fun c nc => ?_⟩
    rw [cut63 hl63]
    have s1 : Same H (upd H c (.lst (ns.map V.int))) := same_upd nc
    refine ⟨c, rfl, ⟨_, SqL.of upd_same⟩, for_list (K := K) (a := c) (xs := ns.map V.int) (fun i σ H' => ∃ (m : Int) (v : Option V), σ = [some (.ref a), some (.int m), v] ∧ 0 ≤ m ∧ m < 2147483587 ∧ H' = upd H c (.lst (ns.map V.int)))
      ⟨9144, none, rfl, by decide, by decide, rfl⟩ (fun i σ H' _ ⟨_, _, _, _, _, e⟩ => by rw [e]; exact SqL.of upd_same) ?_ ?_⟩
    · rintro i y σ H' hi ⟨m, v, rfl, h0, h1, rfl⟩
      obtain ⟨z, hz, rfl⟩ : ∃ z, ns[i]? = some z ∧ y = V.int z := by
        rw [List.getElem?_map] at hi
        cases e : ns[i]? with
        | none =>
          rw [e] at hi
          cases hi
        | some z =>
          rw [e] at hi
          exact ⟨z, rfl, (Option.some.inj hi).symm⟩
      refine ⟨_, rfl, _, _, rfl, rfl, .inl ⟨by omega, by omega⟩, _, rfl, _, _, rfl, rfl, (by show (0 : Int) < 2147483629; decide), _, _, rfl, rfl, _, _, rfl, rfl, _, _, rfl, rfl, (by show (0 : Int) < 2147483587; decide), ?_⟩
      exact ⟨_, some (.int z), rfl, Int.emod_nonneg _ (by decide), Int.emod_lt_of_pos _ (by decide), rfl⟩
    · rintro σ H' ⟨m, v, rfl, h0, h1, rfl⟩
      refine ⟨_, rfl, 63, rfl, a, ns.map V.int, rfl, s1.seq hS, fun b nb => ?_⟩
      rw [cut63 hl63]
      have s2 := same_upd (o := .lst (ns.map V.int)) nb
      refine ⟨b, _, rfl, .inl (SqL.of upd_same), fun l nl => ?_⟩
      have s3 := same_upd (o := .lst (ns.map V.int)) nl
      refine ⟨_, rfl, (by show 5 ≤ sizeLine; decide), fun p np => ?_⟩
      have s4 := same_upd (o := d5 l 0 0 m 0) np
      have S3 := s1.trans (s2.trans s3)
      refine q _ p (S3.trans s4) (S3.free np) ⟨l, ns, 0, 0, m, 0, upd_same, ?_, ?_, by decide, by decide, h0, h1⟩
      · exact s4 _ _ upd_same
      · exact (ne_of_fresh (o := .lst (ns.map V.int)) upd_same np).symm
end
end Hl

set_option Elab.async false
set_option linter.all false
set_option maxRecDepth 100000
set_option maxHeartbeats 4000000
namespace Hl
open PySem PySem.Spec PyProof.Rows L2
section
variable {P : Program} {w : World} {K : PySem.W.Frag} {mg : Str → Option Value} {base : Heap}
/-! _law_pick -/
def spPick : Sp := fun vs H Q _ => ∃ (p : Addr) (n : Int), vs = [.ref p, .int n] ∧ Deal H p ∧ 0 < n ∧ n.natAbs.log2 < 9000 ∧
  ∀ (o : HO) (r : Int), Deal (upd H p o) p → 0 ≤ r → r < n → Q (.int r) (upd H p o)
theorem scK : FnScope ["_law_deal_here", "_law_many", "_law_cell", "_law_got", "_law_seed"] ["_law_deal_here", "_law_many"] (defScope sPick) := ⟨rfl, rfl, rfl, by decide +kernel, rfl, by decide +kernel, by decide +kernel⟩
theorem ok_pick {f : Addr} {fd : FuncData} {k : Nat} (F : Fun K "_law_pick" "_law_pick" sPick f fd) (mLen : mg "len" = none) : FnOk P w K mg base CX0 (k + 1) f fd ["_law_deal_here", "_law_many"] spPick := by
  refine F.ok scK (fun vs H Q E h => ?_) (fun cdv A outer s H vs Q E hr h => ?_)
  · obtain ⟨a, ns, rfl, _⟩ := h
    rfl
  · obtain ⟨p, n, rfl, ⟨l, ns, a, z, m, c, hp, hl, hlp, ha, hz, hm, hm2⟩, hn, hn2, q⟩ := h
    refine ⟨_, pss_cons (ps_asg (pe_op op_add (pe_ix ix_list (pv 0) pe_int (fun _ _ => rfl)) pe_int) (pg_sub (pv 0) pe_int set_list))
      (Evl.pss_cut (ps_if (PW.pt (pw_and (pt_cmpR op_eq (pe_ix ix_list (pv 0) pe_int (fun _ _ => rfl)) pe_int (nomark _)) (pw_and1 (pt_cmpR op_lt (pe_ix ix_list (pv 0) pe_int (fun _ _ => rfl)) (pe_callB call_len_seq (by rfl) mLen PySem.boot_len (pa_cons (pe_ix ix_list (pv 0) pe_int (fun _ _ => rfl)) pa_nil)) (nomark _)))))
          (pss_cons (ps_set (i := 2) scK.nd rfl (.inl rfl) (pe_ix ix_list (pe_ix ix_list (pv 0) pe_int (fun _ _ => rfl)) (pe_ix ix_list (pv 0) pe_int (fun _ _ => rfl)) (fun _ _ => rfl)))
          (pss_cons (ps_asg (pe_op op_add (pe_ix ix_list (pv 0) pe_int (fun _ _ => rfl)) pe_int) (pg_sub (pv 0) pe_int set_list))
          (pss_one (ps_if (pt_cmpR op_ge (pv 2) (pe_op op_pow pe_int pe_int) (nomark _)) (pss_one (ps_asg (pv 2) (pg_sub (pv 0) pe_int set_list)))
            (pss_one (ps_asg (pe_op op_mod (pe_op op_add (pe_op op_add (pe_op op_mul (pe_ix ix_list (pv 0) pe_int (fun _ _ => rfl)) pe_int) (pe_op op_mul (pe_op op_mod (pv 2) pe_int) pe_int)) pe_int) pe_int) (pg_sub (pv 0) pe_int set_list)))))))
          pss_nil)
      (pss_cons (ps_if (pt_cmpR op_gt (pe_ix ix_list (pv 0) pe_int (fun _ _ => rfl)) pe_int (nomark _))
          (pss_cons (ps_set (i := 3) scK.nd rfl (.inl rfl) (pe_op op_mod (pe_ix ix_list (pv 0) pe_int (fun _ _ => rfl)) (pv 1)))
          (pss_cons (ps_asg (pe_op op_fdivP (pe_ix ix_list (pv 0) pe_int (fun _ _ => rfl)) (pv 1)) (pg_sub (pv 0) pe_int set_list))
          (pss_one (ps_ret (pv 3))))) pss_nil)
      (pss_cons (ps_set (i := 4) scK.nd rfl (.inl rfl) (pe_ix ix_list (pv 0) pe_int (fun _ _ => rfl)))
      (pss_cons (ps_asg (pe_op op_mod (pe_op op_add (pe_op op_add (pe_op op_add (pe_op op_mul (pe_op op_mod (pe_op op_mul (pv 4) (pv 4)) pe_int) pe_int) (pe_op op_mul (pv 4) pe_int)) pe_int) (pe_ix ix_list (pv 0) pe_int (fun _ _ => rfl))) pe_int) (pg_sub (pv 0) pe_int set_list))
      (pss_one (ps_ret (pe_op op_mod (pe_op op_add (pe_op op_fdivP (pe_ix ix_list (pv 0) pe_int (fun _ _ => rfl)) pe_int) (pe_op op_mul (pe_op op_mod (pe_ix ix_list (pv 0) pe_int (fun _ _ => rfl)) pe_int) pe_int)) (pv 1)))))))), ?_⟩
    -- deal[4] = deal[4] + 1
    refine ⟨_, rfl, p, _, 4, _, rfl, rfl, SqL.of hp, atI_nat (j := 4) rfl, _, _, rfl, rfl, _, rfl, p, _, 4, 4, rfl, rfl, hp, by rfl, ?_⟩
    have hl1 : ∀ o, upd H p o l = some (.lst (ns.map V.int)) := fun o => by rw [upd_ne hlp]; exact hl
    have hp1 : (upd H p (d5 l a z m (c + 1))) p = some (d5 l a z m (c + 1)) := upd_same
    -- the ways meet
    refine ⟨fun σ' H' => ∃ (v : Option V) (a z m : Int), σ' = [some (.ref p), some (.int n), v, none, none] ∧ H' = upd H p (d5 l a z m (c + 1)) ∧ 0 ≤ a ∧ 0 ≤ z ∧ 0 ≤ m ∧ m < 2147483587, ?_, ?_⟩
    · refine ⟨_, rfl, p, _, 2, _, rfl, rfl, SqL.of hp1, atI_nat (j := 2) rfl, rfl, _, rfl, ite2 (fun e => ?_) (fun e => ?_)⟩
      · refine ⟨_, rfl, p, _, 1, _, rfl, rfl, SqL.of hp1, atI_nat (j := 1) rfl, _, rfl, p, _, 0, _, rfl, rfl, SqL.of hp1, atI_nat (j := 0) rfl, l, _, rfl, .inl (SqL.of (hl1 _)), _, _, rfl, rfl, _, rfl, ite2 (fun e2 => ?_) (fun e2 => ?_)⟩
        · have hlt : a < ((ns.map V.int).length : Int) := of_decide_eq_true e2
          obtain ⟨j, rfl⟩ := Int.eq_ofNat_of_zero_le ha
          have hj : j < ns.length := by
            rw [List.length_map] at hlt
            omega
          have gj : (ns.map V.int)[j]? = some (.int ns[j]) := by
            rw [List.getElem?_map, List.getElem?_eq_getElem hj]
            rfl
          refine ⟨_, rfl, p, _, 0, _, rfl, rfl, SqL.of hp1, atI_nat (j := 0) rfl, _, rfl, p, _, 1, _, rfl, rfl, SqL.of hp1, atI_nat (j := 1) rfl, l, _, _, _, rfl, rfl, SqL.of (hl1 _), atI_nat (j := j) gj, ?_⟩
          refine ⟨_, rfl, p, _, 1, _, rfl, rfl, SqL.of hp1, atI_nat (j := 1) rfl, _, _, rfl, rfl, _, rfl, p, _, 1, 1, rfl, rfl, hp1, by rfl, ?_⟩
          have hp2 : (upd (upd H p (d5 l j z m (c + 1))) p (d5 l (j + 1) z m (c + 1))) p = some (d5 l (j + 1) z m (c + 1)) := upd_same
          refine ⟨_, rfl, _, _, rfl, rfl, ⟨by decide, by decide, by decide⟩, _, _, rfl, rfl, _, rfl, ite2 (fun e3 => ?_) (fun e3 => ?_)⟩
          · have h18 : (1000000000000000000 : Int) ≤ ns[j] := of_decide_eq_true e3
            refine ⟨_, rfl, _, rfl, p, _, 2, 2, rfl, rfl, hp2, by rfl, ?_⟩
            exact ⟨_, _, _, _, rfl, by rw [upd_upd, upd_upd]; rfl, by omega, by omega, hm, hm2⟩
          · refine ⟨_, rfl, p, _, 3, _, rfl, rfl, SqL.of hp2, atI_nat (j := 3) rfl, _, _, rfl, rfl, .inl ⟨by omega, by omega⟩, _, rfl, _, _, rfl, rfl, (by show (0 : Int) < 2147483629; decide), _, _, rfl, rfl, .inr ⟨by decide, by decide⟩, _, _, rfl, rfl, _, _, rfl, rfl, _, _, rfl, rfl, (by show (0 : Int) < 2147483587; decide), _, rfl, p, _, 3, 3, rfl, rfl, hp2, by rfl, ?_⟩
            exact ⟨_, _, _, _, rfl, by rw [upd_upd, upd_upd]; rfl, by omega, hz, Int.emod_nonneg _ (by decide), Int.emod_lt_of_pos _ (by decide)⟩
        · exact ⟨_, _, _, _, rfl, rfl, ha, hz, hm, hm2⟩
      · exact iteF ⟨_, _, _, _, rfl, rfl, ha, hz, hm, hm2⟩
    · rintro σ' H' ⟨v, a, z, m, rfl, rfl, ha, hz, hm, hm2⟩
      have hp1 : (upd H p (d5 l a z m (c + 1))) p = some (d5 l a z m (c + 1)) := upd_same
      have dl : ∀ (z m : Int), 0 ≤ z → 0 ≤ m → m < 2147483587 → Deal (upd H p (d5 l a z m (c + 1))) p := fun z m h1 h2 h3 => ⟨l, ns, a, z, m, c + 1, upd_same, hl1 _, hlp, ha, h1, h2, h3⟩
      refine ⟨_, rfl, p, _, 2, _, rfl, rfl, SqL.of hp1, atI_nat (j := 2) rfl, _, _, rfl, rfl, _, rfl, ite2 (fun e => ?_) (fun e => ?_)⟩
      · refine ⟨_, rfl, p, _, 2, _, rfl, rfl, SqL.of hp1, atI_nat (j := 2) rfl, _, rfl, _, _, rfl, rfl, hn, ?_⟩
        refine ⟨_, rfl, p, _, 2, _, rfl, rfl, SqL.of hp1, atI_nat (j := 2) rfl, _, rfl, _, _, rfl, rfl, ⟨hn, hn2⟩, _, rfl, p, _, 2, 2, rfl, rfl, hp1, by rfl, ?_⟩
        refine ⟨_, rfl, ?_⟩
        rw [upd_upd]
        exact q _ _ (dl _ _ (Int.ediv_nonneg hz (Int.le_of_lt hn)) hm hm2) (Int.emod_nonneg _ (by omega)) (Int.emod_lt_of_pos _ hn)
      · refine ⟨_, rfl, p, _, 3, _, rfl, rfl, SqL.of hp1, atI_nat (j := 3) rfl, ?_⟩
        refine ⟨_, rfl, _, rfl, _, _, rfl, rfl, .inl ⟨by omega, by omega⟩, _, _, rfl, rfl, (by show (0 : Int) < 2147483563; decide), _, _, rfl, rfl, .inr ⟨by decide, by decide⟩, _, rfl, _, _, rfl, rfl, .inr ⟨by decide, by decide⟩, _, _, rfl, rfl, _, _, rfl, rfl, _, rfl, p, _, 4, _, rfl, rfl, SqL.of hp1, atI_nat (j := 4) rfl, _, _, rfl, rfl, _, _, rfl, rfl, (by show (0 : Int) < 2147483587; decide), _, rfl, p, _, 3, 3, rfl, rfl, hp1, by rfl, ?_⟩
        refine ⟨_, rfl, p, _, 3, _, rfl, rfl, SqL.of upd_same, atI_nat (j := 3) rfl, _, _, rfl, rfl, ⟨by decide, by decide⟩, _, rfl, p, _, 3, _, rfl, rfl, SqL.of upd_same, atI_nat (j := 3) rfl, _, _, rfl, rfl, (by show (0 : Int) < 7919; decide), _, _, rfl, rfl, .inr ⟨by decide, by decide⟩, _, _, rfl, rfl, _, rfl, _, _, rfl, rfl, hn, ?_⟩
        rw [upd_upd]
        exact q _ _ (dl _ _ hz (Int.emod_nonneg _ (by decide)) (Int.emod_lt_of_pos _ (by decide))) (Int.emod_nonneg _ (by omega)) (Int.emod_lt_of_pos _ hn)
end
end Hl

set_option Elab.async false
set_option linter.all false
set_option maxRecDepth 100000
set_option maxHeartbeats 4000000
namespace Hl
open PySem PySem.Spec PyProof.Rows L2
abbrev sLike : Stmt := topS 14
theorem iT {c : Bool} {A B : Prop} (hc : c = true) (h : A) : if c = true then A else B := by
  rw [if_pos hc]
  exact h
theorem iF {c : Bool} {A B : Prop} (hc : c = false) (h : B) : if c = true then A else B := by
  rw [hc, if_neg Bool.false_ne_true]
  exact h
section
variable {K : PySem.W.Frag} {H H' : Hp}
theorem same_t {a : Addr} {xs : List V} (e : Same H H') (h : SqT K H a xs) : SqT K H' a xs := by
  rcases h with (h | ⟨o, h⟩) | h
  · exact .inl (.inl (e _ _ h))
  · exact .inl (.inr ⟨o, e _ _ h⟩)
  · exact .inr h
theorem tyL {a : Addr} {xs : List V} (h : SqL K H a xs) : TyX K H (.ref a) (.type "list") := by
  rcases h with (h | ⟨o, h⟩) | ⟨o, its, n, h1, h2, _⟩
  · exact .base (.lst h)
  · exact .base (.frz h)
  · exact .kList h1 h2
theorem tyT {a : Addr} {xs : List V} (h : SqT K H a xs) : TyX K H (.ref a) (.type "tuple") := by
  rcases h with (h | ⟨o, h⟩) | ⟨o, its, n, h1, h2, _⟩
  · exact .base (.tup h)
  · exact .fTuple h
  · exact .kTuple h1 h2
theorem kA_list : PySem.W.kitAny K (.type "list") [.type "list", .type "tuple"] = some true := kitAny_cons (b := true) (kit_ty (by decide +kernel)) (fun z => by cases z) (fun _ => rfl)
theorem kA_tuple : PySem.W.kitAny K (.type "tuple") [.type "list", .type "tuple"] = some true :=
  kitAny_cons (b := false) (kit_ty (by decide +kernel)) (fun _ => kitAny_cons (b := true) (kit_ty (by decide +kernel)) (fun z => by cases z) (fun _ => rfl)) (fun z => by cases z)
theorem kA_no {t : String} (h1 : kitB t "list" = some false) (h2 : kitB t "tuple" = some false) : PySem.W.kitAny K (.type t) [.type "list", .type "tuple"] = some false :=
  kitAny_cons (b := false) (kit_ty h1) (fun _ => kitAny_cons (b := false) (kit_ty h2) (fun _ => kitAny_nil) (fun z => by cases z)) (fun z => by cases z)
theorem pCls : Paired ClsV [.ty "list", .ty "tuple"] [.type "list", .type "tuple"] := .cons (.ty _) (.cons (.ty _) .nil)
/-- two values that read as the same data, at most n deep -/
inductive Lk (K : PySem.W.Frag) (H : Hp) : Nat → V → V → Prop
  | non {n : Nat} : Lk K H n .non .non
  | bl {n : Nat} (b : Bool) : Lk K H n (.bl b) (.bl b)
  | int {n : Nat} (i : Int) : Lk K H n (.int i) (.int i)
  | str {n : Nat} (s : Str) : Lk K H n (.str s) (.str s)
  | lst {n : Nat} {a b : Addr} {xs ys : List V} (ha : SqL K H a xs) (hb : SqL K H b ys) (hl : xs.length = ys.length) (h1 : ys.length ≤ 1000) (hi : ∀ (i : Nat) (x y : V), xs[i]? = some x → ys[i]? = some y → Lk K H n x y) : Lk K H (n + 1) (.ref a) (.ref b)
  | tup {n : Nat} {a b : Addr} {xs ys : List V} (ha : SqT K H a xs) (hb : SqT K H b ys) (hl : xs.length = ys.length) (h1 : ys.length ≤ 1000) (hi : ∀ (i : Nat) (x y : V), xs[i]? = some x → ys[i]? = some y → Lk K H n x y) : Lk K H (n + 1) (.ref a) (.ref b)
theorem Lk.mono {n : Nat} {x y : V} (e : Same H H') (h : Lk K H n x y) : Lk K H' n x y := by
  induction h with
  | non => exact .non
  | bl b => exact .bl b
  | int b => exact .int b
  | str b => exact .str b
  | lst ha hb hl h1 hi ih => exact .lst (e.seq ha) (e.seq hb) hl h1 ih
  | tup ha hb hl h1 hi ih => exact .tup (same_t e ha) (same_t e hb) hl h1 ih
end
section
variable {P : Program} {w : World} {K : PySem.W.Frag} {mg : Str → Option Value} {base : Heap}
def spLike (K : PySem.W.Frag) : Nat → Sp
  | 0 => fun _ _ _ _ => False
  | n + 1 => fun vs H Q _ => ∃ x y : V, vs = [x, y] ∧ Lk K H n x y ∧ ∀ H', Same H H' → Q (.bl true) H'
theorem scL : FnScope ["_law_found", "_law_due", "_law_k"] ["_law_found", "_law_due"] (defScope sLike) := ⟨rfl, rfl, rfl, by decide +kernel, rfl, by decide +kernel, by decide +kernel⟩
/-- the built-ins that the law's own defs ask for by name -/
structure Bi (mg : Str → Option Value) : Prop where
  isi : mg "isinstance" = none
  lst : mg "list" = none
  tup : mg "tuple" = none
  len : mg "len" = none
  all : mg "all" = none
  rng : mg "range" = none
  boo : mg "bool" = none
  int : mg "int" = none
  str : mg "str" = none
  abs : mg "abs" = none
theorem ok_like {f : Addr} {fd : FuncData} (F : Fun K "_law_like" "_law_like" sLike f fd) (bL : Binds K fd ["_law_found", "_law_due"] []) (gL : mg "_law_like" = some (.ref f)) (B : Bi mg) : ∀ n : Nat, FnOk P w K mg base CX0 (n + 1) f fd ["_law_found", "_law_due"] (spLike K n)
  | 0 => F.ok scL (fun vs H Q E h => h.elim) (fun cdv A outer s H vs Q E hr h => h.elim)
  | n + 1 => by
    have GL : FnOk P w K mg base CX0 (n + 1) f fd ["_law_found", "_law_due"] (spLike K n) := ok_like F bL gL B n
    refine F.ok scL (fun vs H Q E h => ?_) (fun cdv A outer s H vs Q E hr h => ?_)
    · obtain ⟨a, ns, rfl, _⟩ := h
      rfl
    · obtain ⟨x, y, rfl, hk, q⟩ := h
      refine ⟨_, pss_cons (ps_if (pt_val (pe_callB call_isiT (by rfl) B.isi (by decide +kernel) (pa_cons (pv 1) (pa_cons (pe_tup (pa_cons (pe_bltn (v := .ty "list") (by rfl) B.lst (by decide +kernel) rfl) (pa_cons (pe_bltn (v := .ty "tuple") (by rfl) B.tup (by decide +kernel) rfl) pa_nil))) pa_nil))))
          (pss_cons (ps_if (PW.pt (pw_or
                (pt_cmpR op_ne (pe_callB call_isi (by rfl) B.isi (by decide +kernel) (pa_cons (pv 0) (pa_cons (pe_bltn (v := .ty "list") (by rfl) B.lst (by decide +kernel) rfl) pa_nil))) (pe_callB call_isi (by rfl) B.isi (by decide +kernel) (pa_cons (pv 1) (pa_cons (pe_bltn (v := .ty "list") (by rfl) B.lst (by decide +kernel) rfl) pa_nil))) (nomark _))
                (pw_or1 (pt_cmpR op_ne (pe_callB call_isi (by rfl) B.isi (by decide +kernel) (pa_cons (pv 0) (pa_cons (pe_bltn (v := .ty "tuple") (by rfl) B.tup (by decide +kernel) rfl) pa_nil))) (pe_callB call_isi (by rfl) B.isi (by decide +kernel) (pa_cons (pv 1) (pa_cons (pe_bltn (v := .ty "tuple") (by rfl) B.tup (by decide +kernel) rfl) pa_nil))) (nomark _)))))
              (pss_one (ps_ret pe_bl)) pss_nil)
          (pss_one (ps_ret (pe_and (pe_cmpR op_eq (pe_callB call_len_seq (by rfl) B.len PySem.boot_len (pa_cons (pv 0) pa_nil)) (pe_callB call_len_seq (by rfl) B.len PySem.boot_len (pa_cons (pv 1) pa_nil)) (nomark _))
            (pe_one (pe_callB (cr_all rfl) (by rfl) B.all (by decide +kernel) (pa_cons
              (pe_lc (own := [("_law_k", 2)]) (g := gName 2) (tt := tYes) rfl scL.nd (pi_range1 (by rfl) B.rng (pa_cons (pe_callB call_len_seq (by rfl) B.len PySem.boot_len (pa_cons (pv 1) pa_nil)) pa_nil))
                (blkOk_by (own := [("_law_k", 2)]) (N := ["_law_found", "_law_due", "_law_k"]) (sc := defScope sLike) (by decide +kernel))
                (fun _ _ _ _ _ => pg_name (i := 2) scL.nd rfl (Or.inl rfl)) (fun _ _ _ _ _ => pts_nil)
                (fun _ _ _ _ _ => pe_call GL hr (by rfl) gL F.kp bL .nil pass0 (pa_cons (pe_ix (r := rIx K) ix_seq (pv 0) (pv 2) (fun _ _ => rfl)) (pa_cons (pe_ix (r := rIx K) ix_seq (pv 1) (pv 2) (fun _ _ => rfl)) pa_nil))))
              pa_nil))))))) pss_nil)
        (pss_cons (ps_if (PW.pt (pw_or (pt_cmpR op_isN (pv 1) pe_non (nomark _)) (pw_or1 (pt_cmpR op_isN (pv 0) pe_non (nomark _)))))
          (pss_one (ps_ret (pe_and (pe_cmpR op_isN (pv 1) pe_non (nomark _)) (pe_one (pe_cmpR op_isN (pv 0) pe_non (nomark _)))))) pss_nil)
        (pss_cons (ps_if (PW.pt (pw_or
                (pt_cmpR op_ne (pe_callB call_isi (by rfl) B.isi (by decide +kernel) (pa_cons (pv 0) (pa_cons (pe_bltn (v := .ty "bool") (by rfl) B.boo (by decide +kernel) rfl) pa_nil))) (pe_callB call_isi (by rfl) B.isi (by decide +kernel) (pa_cons (pv 1) (pa_cons (pe_bltn (v := .ty "bool") (by rfl) B.boo (by decide +kernel) rfl) pa_nil))) (nomark _))
                (pw_or1 (pt_cmpR op_ne (pe_callB call_isi (by rfl) B.isi (by decide +kernel) (pa_cons (pv 0) (pa_cons (pe_bltn (v := .ty "int") (by rfl) B.int (by decide +kernel) rfl) pa_nil))) (pe_callB call_isi (by rfl) B.isi (by decide +kernel) (pa_cons (pv 1) (pa_cons (pe_bltn (v := .ty "int") (by rfl) B.int (by decide +kernel) rfl) pa_nil))) (nomark _)))))
              (pss_one (ps_ret pe_bl)) pss_nil)
        (pss_one (ps_ret (pe_and (pe_cmpR op_eq (pe_callB call_isi (by rfl) B.isi (by decide +kernel) (pa_cons (pv 0) (pa_cons (pe_bltn (v := .ty "str") (by rfl) B.str (by decide +kernel) rfl) pa_nil))) (pe_callB call_isi (by rfl) B.isi (by decide +kernel) (pa_cons (pv 1) (pa_cons (pe_bltn (v := .ty "str") (by rfl) B.str (by decide +kernel) rfl) pa_nil))) (nomark _))
          (pe_one (pe_cmpR op_eq (pv 0) (pv 1) (nomark _)))))))), ?_⟩
      cases hk with
      | non =>
        refine ⟨_, rfl, (by show 2 ≤ sizeLine; decide), fun T hT => ⟨_, T, _, _, _, _, rfl, upd_same, pCls, .base .non, kA_no (by decide +kernel) (by decide +kernel), _, rfl, iteF ?_⟩⟩
        refine ⟨_, rfl, rfl, _, rfl, iT (decide_eq_true rfl) (iteT ?_)⟩
        refine ⟨_, rfl, rfl, _, rfl, iT (decide_eq_true rfl) ⟨_, rfl, rfl, ?_⟩⟩
        rw [decide_eq_true rfl]
        exact q _ (same_upd hT)
      | bl b =>
        refine ⟨_, rfl, (by show 2 ≤ sizeLine; decide), fun T hT => ⟨_, T, _, _, _, _, rfl, upd_same, pCls, .base (.bl b), kA_no (by decide +kernel) (by decide +kernel), _, rfl, iteF ?_⟩⟩
        refine ⟨_, rfl, rfl, _, rfl, iF rfl ⟨_, rfl, rfl, _, rfl, iteF ?_⟩⟩
        refine ⟨_, rfl, _, _, _, _, true, rfl, .ty _, .base (.bl b), kit_ty (by decide +kernel), _, rfl, _, _, _, _, true, rfl, .ty _, .base (.bl b), kit_ty (by decide +kernel), rfl, _, rfl, iF (by decide) ?_⟩
        refine ⟨_, rfl, _, _, _, _, true, rfl, .ty _, .base (.bl b), kit_ty (by decide +kernel), _, rfl, _, _, _, _, true, rfl, .ty _, .base (.bl b), kit_ty (by decide +kernel), rfl, _, rfl, iF (by decide) ?_⟩
        refine ⟨_, rfl, _, _, _, _, false, rfl, .ty _, .base (.bl b), kit_ty (by decide +kernel), _, rfl, _, _, _, _, false, rfl, .ty _, .base (.bl b), kit_ty (by decide +kernel), rfl, _, rfl, iT (by decide) ⟨_, rfl, _, rfl, rfl, ?_⟩⟩
        rw [decide_eq_true rfl]
        exact q _ (same_upd hT)
      | int b =>
        refine ⟨_, rfl, (by show 2 ≤ sizeLine; decide), fun T hT => ⟨_, T, _, _, _, _, rfl, upd_same, pCls, .base (.int b), kA_no (by decide +kernel) (by decide +kernel), _, rfl, iteF ?_⟩⟩
        refine ⟨_, rfl, rfl, _, rfl, iF rfl ⟨_, rfl, rfl, _, rfl, iteF ?_⟩⟩
        refine ⟨_, rfl, _, _, _, _, false, rfl, .ty _, .base (.int b), kit_ty (by decide +kernel), _, rfl, _, _, _, _, false, rfl, .ty _, .base (.int b), kit_ty (by decide +kernel), rfl, _, rfl, iF (by decide) ?_⟩
        refine ⟨_, rfl, _, _, _, _, true, rfl, .ty _, .base (.int b), kit_ty (by decide +kernel), _, rfl, _, _, _, _, true, rfl, .ty _, .base (.int b), kit_ty (by decide +kernel), rfl, _, rfl, iF (by decide) ?_⟩
        refine ⟨_, rfl, _, _, _, _, false, rfl, .ty _, .base (.int b), kit_ty (by decide +kernel), _, rfl, _, _, _, _, false, rfl, .ty _, .base (.int b), kit_ty (by decide +kernel), rfl, _, rfl, iT (by decide) ⟨_, rfl, _, rfl, rfl, ?_⟩⟩
        rw [decide_eq_true rfl]
        exact q _ (same_upd hT)
      | str b =>
        refine ⟨_, rfl, (by show 2 ≤ sizeLine; decide), fun T hT => ⟨_, T, _, _, _, _, rfl, upd_same, pCls, .base (.str b), kA_no (by decide +kernel) (by decide +kernel), _, rfl, iteF ?_⟩⟩
        refine ⟨_, rfl, rfl, _, rfl, iF rfl ⟨_, rfl, rfl, _, rfl, iteF ?_⟩⟩
        refine ⟨_, rfl, _, _, _, _, false, rfl, .ty _, .base (.str b), kit_ty (by decide +kernel), _, rfl, _, _, _, _, false, rfl, .ty _, .base (.str b), kit_ty (by decide +kernel), rfl, _, rfl, iF (by decide) ?_⟩
        refine ⟨_, rfl, _, _, _, _, false, rfl, .ty _, .base (.str b), kit_ty (by decide +kernel), _, rfl, _, _, _, _, false, rfl, .ty _, .base (.str b), kit_ty (by decide +kernel), rfl, _, rfl, iF (by decide) ?_⟩
        refine ⟨_, rfl, _, _, _, _, true, rfl, .ty _, .base (.str b), kit_ty (by decide +kernel), _, rfl, _, _, _, _, true, rfl, .ty _, .base (.str b), kit_ty (by decide +kernel), rfl, _, rfl, iT (by decide) ⟨_, rfl, _, rfl, rfl, ?_⟩⟩
        rw [decide_eq_true rfl]
        exact q _ (same_upd hT)
      | lst ha hb hl h1 hi =>
        rename_i n a b xs ys
        refine ⟨_, rfl, (by show 2 ≤ sizeLine; decide), fun T hT => ?_⟩
        have s1 := same_upd (o := .tup [V.ty "list", V.ty "tuple"]) hT
        have hA := Same.seq s1 ha
        have hB := Same.seq s1 hb
        refine ⟨_, T, _, _, _, _, rfl, upd_same, pCls, tyL hB, kA_list, _, rfl, iteT ?_⟩
        refine ⟨_, rfl, _, _, _, _, true, rfl, .ty _, tyL hA, kit_ty (by decide +kernel), _, rfl, _, _, _, _, true, rfl, .ty _, tyL hB, kit_ty (by decide +kernel), rfl, _, rfl, iF (by decide) ?_⟩
        refine ⟨_, rfl, _, _, _, _, false, rfl, .ty _, tyL hA, kit_ty (by decide +kernel), _, rfl, _, _, _, _, false, rfl, .ty _, tyL hB, kit_ty (by decide +kernel), rfl, _, rfl, iF (by decide) ?_⟩
        refine ⟨_, rfl, a, xs, rfl, .inl hA, _, rfl, b, ys, rfl, .inl hB, rfl, _, rfl, iT (by rw [hl]; exact decide_eq_true rfl) ?_⟩
        refine ⟨_, rfl, b, ys, rfl, .inl hB, (ys.length : Int), rfl, by omega, by omega, fun D hD => ?_⟩
        refine lc_range (lo := 0) (n := ys.length) (fun i H' => Same H H' ∧ H' D = some (.lst (List.replicate i (.bl true)))) ?_ ?_ ?_
        · have s2 := same_upd (o := .lst []) hD
          exact ⟨s1.trans s2, upd_same⟩
        · rintro i H3 hlt ⟨s3, hD3⟩
          have hA3 := Same.seq s3 ha
          have hB3 := Same.seq s3 hb
          have hlt2 : i < xs.length := by omega
          have g1 : xs[i]? = some xs[i] := List.getElem?_eq_getElem hlt2
          have g2 : ys[i]? = some ys[i] := List.getElem?_eq_getElem hlt
          refine ⟨rfl, ?_⟩
          refine ⟨_, rfl, _, rfl, .inl ⟨a, xs, _, _, rfl, rfl, hA3, at_of (j := i) (by omega) g1, _, rfl, _, rfl, .inl ⟨b, ys, _, _, rfl, rfl, hB3, at_of (j := i) (by omega) g2, _, _, rfl, (hi i _ _ g1 g2).mono s3, fun H4 s4 => ?_⟩⟩⟩
          refine ⟨_, s4 _ _ hD3, ?_, ?_⟩
          · rw [List.length_replicate]
            exact small1000 (by omega)
          · have nD : H D = none := s1.free hD
            refine ⟨fun b' o' e => ?_, ?_⟩
            · rw [upd_ne (ne_of_none e nD)]
              exact s4 _ _ (s3 _ _ e)
            · rw [upd_same, List.replicate_succ']
        · rintro H3 ⟨s3, hD3⟩
          refine ⟨D, List.replicate ys.length true, rfl, SqL.of (by rw [hD3, List.map_replicate]), ?_⟩
          rw [show (List.replicate ys.length true).all id = true by simp]
          exact q _ s3
      | tup ha hb hl h1 hi =>
        rename_i n a b xs ys
        refine ⟨_, rfl, (by show 2 ≤ sizeLine; decide), fun T hT => ?_⟩
        have s1 := same_upd (o := .tup [V.ty "list", V.ty "tuple"]) hT
        have hA := same_t s1 ha
        have hB := same_t s1 hb
        refine ⟨_, T, _, _, _, _, rfl, upd_same, pCls, tyT hB, kA_tuple, _, rfl, iteT ?_⟩
        refine ⟨_, rfl, _, _, _, _, false, rfl, .ty _, tyT hA, kit_ty (by decide +kernel), _, rfl, _, _, _, _, false, rfl, .ty _, tyT hB, kit_ty (by decide +kernel), rfl, _, rfl, iF (by decide) ?_⟩
        refine ⟨_, rfl, _, _, _, _, true, rfl, .ty _, tyT hA, kit_ty (by decide +kernel), _, rfl, _, _, _, _, true, rfl, .ty _, tyT hB, kit_ty (by decide +kernel), rfl, _, rfl, iF (by decide) ?_⟩
        refine ⟨_, rfl, a, xs, rfl, .inr hA, _, rfl, b, ys, rfl, .inr hB, rfl, _, rfl, iT (by rw [hl]; exact decide_eq_true rfl) ?_⟩
        refine ⟨_, rfl, b, ys, rfl, .inr hB, (ys.length : Int), rfl, by omega, by omega, fun D hD => ?_⟩
        refine lc_range (lo := 0) (n := ys.length) (fun i H' => Same H H' ∧ H' D = some (.lst (List.replicate i (.bl true)))) ?_ ?_ ?_
        · have s2 := same_upd (o := .lst []) hD
          exact ⟨s1.trans s2, upd_same⟩
        · rintro i H3 hlt ⟨s3, hD3⟩
          have hA3 := same_t s3 ha
          have hB3 := same_t s3 hb
          have hlt2 : i < xs.length := by omega
          have g1 : xs[i]? = some xs[i] := List.getElem?_eq_getElem hlt2
          have g2 : ys[i]? = some ys[i] := List.getElem?_eq_getElem hlt
          refine ⟨rfl, ?_⟩
          refine ⟨_, rfl, _, rfl, .inr <| .inl ⟨a, xs, _, _, rfl, rfl, hA3, at_of (j := i) (by omega) g1, _, rfl, _, rfl, .inr <| .inl ⟨b, ys, _, _, rfl, rfl, hB3, at_of (j := i) (by omega) g2, _, _, rfl, (hi i _ _ g1 g2).mono s3, fun H4 s4 => ?_⟩⟩⟩
          refine ⟨_, s4 _ _ hD3, ?_, ?_⟩
          · rw [List.length_replicate]
            exact small1000 (by omega)
          · have nD : H D = none := s1.free hD
            refine ⟨fun b' o' e => ?_, ?_⟩
            · rw [upd_ne (ne_of_none e nD)]
              exact s4 _ _ (s3 _ _ e)
            · rw [upd_same, List.replicate_succ']
        · rintro H3 ⟨s3, hD3⟩
          refine ⟨D, List.replicate ys.length true, rfl, SqL.of (by rw [hD3, List.map_replicate]), ?_⟩
          rw [show (List.replicate ys.length true).all id = true by simp]
          exact q _ s3
end
end Hl

set_option Elab.async false
set_option linter.all false
set_option maxRecDepth 100000
set_option maxHeartbeats 4000000
namespace Hl
open PySem PySem.Spec PyProof.Rows L2
abbrev sOver : Stmt := topS 18
theorem lg {n : Int} {b : Nat} (h : n.natAbs < 2 ^ b) (h0 : 0 < b) (h9 : b ≤ 9000) : n.natAbs.log2 < 9000 := Nat.lt_of_lt_of_le (PySem.Flt.log2_lt_of h0 h) h9
theorem But.seq {K : PySem.W.Frag} {p : Addr} {H H' : Hp} {a : Addr} {xs : List V} (e : But p H H') (n : a ≠ p) (h : SqL K H a xs) : SqL K H' a xs := by
  rcases h with (h | ⟨o, h⟩) | h
  · exact .inl (.inl (e _ _ n h))
  · exact .inl (.inr ⟨o, e _ _ n h⟩)
  · exact .inr h
theorem But.tup {K : PySem.W.Frag} {p : Addr} {H H' : Hp} {a : Addr} {xs : List V} (e : But p H H') (n : a ≠ p) (h : SqT K H a xs) : SqT K H' a xs := by
  rcases h with (h | ⟨o, h⟩) | h
  · exact .inl (.inl (e _ _ n h))
  · exact .inl (.inr ⟨o, e _ _ n h⟩)
  · exact .inr h
theorem Deal.same {H H' : Hp} {p : Addr} (d : Deal H p) (e : Same H H') : Deal H' p := by
  obtain ⟨l, ns, a, z, m, c, hp, hl, r⟩ := d
  exact ⟨l, ns, a, z, m, c, e _ _ hp, e _ _ hl, r⟩
theorem Deal.there {H : Hp} {p : Addr} (d : Deal H p) : ∃ o, H p = some o := by
  obtain ⟨l, ns, a, z, m, c, hp, hl, r⟩ := d
  exact ⟨_, hp⟩
theorem Deal.ne {H : Hp} {p q : Addr} (d : Deal H p) (h : H q = none) : q ≠ p := by
  obtain ⟨o, e⟩ := d.there
  exact ne_of_fresh e h
/-- what is free behind was free ahead -/
theorem But.free {H H' : Hp} {p q : Addr} (e : But p H H') (d : Deal H' p) (h : H' q = none) : H q = none := by
  cases x : H q with
  | none => rfl
  | some o =>
    rw [e q o (d.ne h) x] at h
    cases h
section
variable {P : Program} {w : World} {K : PySem.W.Frag} {mg : Str → Option Value} {base : Heap}
/-! _law_of -/
def spOf (K : PySem.W.Frag) : Sp := fun vs H Q _ => ∃ (p a : Addr) (xs : List V), vs = [.ref p, .ref a] ∧ Deal H p ∧ SqL K H a xs ∧ a ≠ p ∧ 0 < xs.length ∧ xs.length ≤ 1000 ∧
  ∀ (o : HO) (x : V), x ∈ xs → Deal (upd H p o) p → Q x (upd H p o)
theorem scO : FnScope ["_law_deal_here", "_law_some"] ["_law_deal_here", "_law_some"] (defScope sOf) := ⟨rfl, rfl, rfl, by decide +kernel, rfl, by decide +kernel, by decide +kernel⟩
theorem ok_of {f fK : Addr} {fd fdK : FuncData} {k : Nat} (F : Fun K "_law_of" "_law_of" sOf f fd) (FK : Fun K "_law_pick" "_law_pick" sPick fK fdK) (bK : Binds K fdK ["_law_deal_here", "_law_many"] []) (gK : mg "_law_pick" = some (.ref fK)) (B : Bi mg) :
    FnOk P w K mg base CX0 (k + 2) f fd ["_law_deal_here", "_law_some"] (spOf K) := by
  have GK : FnOk P w K mg base CX0 (k + 1) fK fdK ["_law_deal_here", "_law_many"] spPick := ok_pick FK B.len
  refine F.ok scO (fun vs H Q E h => ?_) (fun cdv A outer s H vs Q E hr h => ?_)
  · obtain ⟨a, ns, xs, rfl, _⟩ := h
    rfl
  · obtain ⟨p, a, xs, rfl, dl, hS, nap, h0, h1, q⟩ := h
    refine ⟨_, pss_one (ps_ret (pe_ix ix_list (pv 1) (pe_call GK hr (by rfl) gK FK.kp bK .nil pass0 (pa_cons (pv 0) (pa_cons (pe_callB call_len_seq (by rfl) B.len PySem.boot_len (pa_cons (pv 1) pa_nil)) pa_nil))) (fun _ _ => rfl))), ?_⟩
    refine ⟨_, rfl, _, rfl, _, rfl, a, xs, rfl, .inl hS, p, (xs.length : Int), rfl, dl, by omega, lg (b := 10) (by omega) (by decide) (by decide), fun o r dl' r0 r1 => ?_⟩
    obtain ⟨j, rfl⟩ := Int.eq_ofNat_of_zero_le r0
    have hj : j < xs.length := by omega
    refine ⟨a, xs, _, _, rfl, rfl, But.upd.seq nap hS, atI_nat (j := j) (List.getElem?_eq_getElem hj), ?_⟩
    exact q o _ (List.getElem_mem hj) dl'
/-! _law_over -/
def spOver : Sp := fun vs H Q _ => ∃ p : Addr, vs = [.ref p] ∧ Deal H p ∧ ∀ (H' : Hp) (r : Int), But p H H' → Deal H' p → r.natAbs < 2 ^ 100 → Q (.int r) H'
theorem scV : FnScope ["_law_deal_here", "_law_far"] ["_law_deal_here"] (defScope sOver) := ⟨rfl, rfl, rfl, by decide +kernel, rfl, by decide +kernel, by decide +kernel⟩
theorem ok_over {f fK fO : Addr} {fd fdK fdO : FuncData} {k : Nat} (F : Fun K "_law_over" "_law_over" sOver f fd) (FK : Fun K "_law_pick" "_law_pick" sPick fK fdK) (bK : Binds K fdK ["_law_deal_here", "_law_many"] []) (gK : mg "_law_pick" = some (.ref fK))
    (FO : Fun K "_law_of" "_law_of" sOf fO fdO) (bO : Binds K fdO ["_law_deal_here", "_law_some"] []) (gO : mg "_law_of" = some (.ref fO)) (B : Bi mg) :
    FnOk P w K mg base CX0 (k + 3) f fd ["_law_deal_here"] spOver := by
  have GK : FnOk P w K mg base CX0 (k + 2) fK fdK ["_law_deal_here", "_law_many"] spPick := ok_pick FK B.len
  have GO : FnOk P w K mg base CX0 (k + 2) fO fdO ["_law_deal_here", "_law_some"] (spOf K) := ok_of FO FK bK gK B
  refine F.ok scV (fun vs H Q E h => ?_) (fun cdv A outer s H vs Q E hr h => ?_)
  · obtain ⟨a, rfl, _⟩ := h
    rfl
  · obtain ⟨p, rfl, dl, q⟩ := h
    refine ⟨_, pss_cons (ps_set (i := 1) scV.nd rfl (.inl rfl) (pe_call GO hr (by rfl) gO FO.kp bO .nil pass0 (pa_cons (pv 0) (pa_cons (pe_lst (pa_cons pe_int (pa_cons pe_int (pa_cons pe_int (pa_cons (pe_op op_pow pe_int pe_int) (pa_cons (pe_op op_pow pe_int pe_int) pa_nil)))))) pa_nil))))
      (pss_one (ps_ret (pe_op op_add (pe_op op_sub (pe_call GK hr (by rfl) gK FK.kp bK .nil pass0 (pa_cons (pv 0) (pa_cons (pe_op op_sub (pe_op op_mul pe_int (pv 1)) pe_int) pa_nil))) (pv 1)) pe_int))), ?_⟩
    refine ⟨_, rfl, _, _, rfl, rfl, ⟨by decide, by decide, by decide⟩, _, _, rfl, rfl, ⟨by decide, by decide, by decide⟩, (by show 5 ≤ sizeLine; decide), fun c nc => ?_⟩
    have dl1 := dl.same (same_upd (o := .lst [.int 3, .int 12, .int 100, .int ((10 : Int) ^ (9 : Int).toNat), .int ((10 : Int) ^ (30 : Int).toNat)]) nc)
    refine ⟨p, c, _, rfl, dl1, SqL.of upd_same, dl.ne nc, by decide, by decide, fun o x hx dl2 => ?_⟩
    obtain ⟨n, rfl, h3, h30⟩ : ∃ n : Int, x = .int n ∧ 3 ≤ n ∧ n ≤ 1000000000000000000000000000000 := by
      simp only [List.mem_cons, List.not_mem_nil, or_false] at hx
      rcases hx with rfl | rfl | rfl | rfl | rfl
      · exact ⟨_, rfl, by decide, by decide⟩
      · exact ⟨_, rfl, by decide, by decide⟩
      · exact ⟨_, rfl, by decide, by decide⟩
      · exact ⟨_, rfl, by decide, by decide⟩
      · exact ⟨_, rfl, by decide, by decide⟩
    have e200 : (2 : Nat) ^ 101 = 2535301200456458802993406410752 := by decide
    have e100 : (2 : Nat) ^ 100 = 1267650600228229401496703205376 := by decide
    refine ⟨_, rfl, _, rfl, _, _, rfl, rfl, .inl ⟨by decide, by decide⟩, _, _, rfl, rfl, p, _, rfl, dl2, by omega, lg (b := 101) (by omega) (by decide) (by decide), fun o2 r dl3 r0 r1 => ?_⟩
    refine ⟨_, rfl, _, _, rfl, rfl, _, _, rfl, rfl, ?_⟩
    refine q _ _ ((But.of (same_upd nc)).trans (But.upd.trans But.upd)) dl3 (by omega)
end
end Hl

set_option Elab.async false
set_option linter.all false
set_option maxRecDepth 100000
set_option maxHeartbeats 4000000
namespace Hl
open PySem PySem.Spec PyProof.Rows L2
abbrev sPlus : Stmt := topS 6
abbrev sLess : Stmt := topS 7
abbrev sTimes : Stmt := topS 8
abbrev sBelow : Stmt := topS 9
abbrev sSum : Stmt := topS 16
abbrev sProd : Stmt := topS 17
abbrev sAp : Stmt := topS 19
/-! more of parts -/
theorem sgn_pos {o u : Int} (h : 0 < u) : sgn o u = gI o u := if_neg (by omega)
theorem gI_dvd_left (o u : Int) : gI o u ∣ o := by
  unfold gI
  exact Int.gcd_dvd_left o u
theorem gI_dvd_right (o u : Int) : gI o u ∣ u := by
  unfold gI
  exact Int.gcd_dvd_right o u
/-- a pair of ints as parts have them -/
structure P2 (xs : List V) (x y : Int) : Prop where
  e : xs = [.int x, .int y]
  bx : x.natAbs < 2 ^ 100
  y0 : 0 < y
  by' : y.natAbs < 2 ^ 100
theorem lowP {o u : Int} (h : 0 < u) (ho : o.natAbs < 2 ^ 100) (hu : u.natAbs < 2 ^ 100) : ∃ x y, P2 (lowF o u) x y := by
  have g0 : 0 < gI o u := gI_pos (by omega)
  refine ⟨_, _, ⟨rfl, ?_, ?_, ?_⟩⟩
  · rw [sgn_pos h, Int.fdiv_eq_ediv_of_nonneg _ (by omega)]
    exact Nat.lt_of_le_of_lt (Int.natAbs_ediv_le_natAbs _ _) ho
  · rw [sgn_pos h, Int.fdiv_eq_ediv_of_nonneg _ (by omega)]
    exact Int.ediv_pos_of_pos_of_dvd h (by omega) (gI_dvd_right o u)
  · rw [sgn_pos h, Int.fdiv_eq_ediv_of_nonneg _ (by omega)]
    exact Nat.lt_of_le_of_lt (Int.natAbs_ediv_le_natAbs _ _) hu
theorem mul_lt {x w : Int} {a b : Nat} (hx : x.natAbs < 2 ^ a) (hw : w.natAbs < 2 ^ b) : (x * w).natAbs < 2 ^ (a + b) := wide_lt hx hw
theorem add_lt {x w : Int} {a : Nat} (hx : x.natAbs < 2 ^ a) (hw : w.natAbs < 2 ^ a) : (x + w).natAbs < 2 ^ (a + 1) := by
  have := Int.natAbs_add_le x w
  rw [Nat.pow_succ]
  omega
theorem lt9000 {x : Int} {a : Nat} (h : x.natAbs < 2 ^ a) (ha : a ≤ 9000) : x.natAbs < 2 ^ 9000 := Nat.lt_of_lt_of_le h (Nat.pow_le_pow_right (by decide) ha)
theorem cm {x w : Int} (hx : x.natAbs < 2 ^ 100) (hw : w.natAbs < 2 ^ 100) : CMulW x w := wide_mul hx hw (by decide) (by decide) (by decide)
section
variable {P : Program} {w : World} {K : PySem.W.Frag} {mg : Str → Option Value} {base : Heap}
/-! _law_low -/
def spLow : Sp := fun vs H Q _ => ∃ o u : Int, vs = [.int o, .int u] ∧ u ≠ 0 ∧ u.natAbs < 2 ^ 9000 ∧ ∀ p, H p = none → Q (.ref p) (upd H p (.tup (lowF o u)))
theorem scW : FnScope ["_law_over_here", "_law_under", "_law_one_z", "_law_other_z"] ["_law_over_here", "_law_under"] (defScope sLow) := ⟨rfl, rfl, rfl, by decide +kernel, rfl, by decide +kernel, by decide +kernel⟩
theorem ok_low {f : Addr} {fd : FuncData} {k : Nat} (F : Fun K "_law_low" "_law_low" sLow f fd) (B : Bi mg) : FnOk P w K mg base CX0 (k + 1) f fd ["_law_over_here", "_law_under"] spLow := by
  refine F.ok scW (fun vs H Q E h => ?_) (fun cdv A outer s H vs Q E hr h => ?_)
  · obtain ⟨o, u, rfl, _⟩ := h
    rfl
  · obtain ⟨o, u, rfl, hu0, hub, q⟩ := h
    refine ⟨_, pss_cons (ps_par (i := 2) (j := 3) rfl scW.nd rfl rfl (by decide) rfl rfl (pa_cons (pe_callB call_abs (by rfl) B.abs (by decide +kernel) (pa_cons (pv 0) pa_nil)) (pa_cons (pe_callB call_abs (by rfl) B.abs (by decide +kernel) (pa_cons (pv 1) pa_nil)) pa_nil)) (by rfl))
      (pss_cons (ps_while PassesOwn.never (pt_cmpR op_gt (pv 3) pe_int (nomark _))
        (pss_one (ps_par (i := 2) (j := 3) rfl scW.nd rfl rfl (by decide) rfl rfl (pa_cons (pv 3) (pa_cons (pe_op op_mod (pv 2) (pv 3)) pa_nil)) (by rfl))))
      (pss_cons (ps_set (i := 2) scW.nd rfl (.inl rfl) (pe_ifExp (pt_cmpR op_lt (pv 1) pe_int (nomark _)) (pe_op op_sub pe_int (pv 2)) (pv 2)))
      (pss_one (ps_ret (pe_tup (pa_cons (pe_op op_fdivZ (pv 0) (pv 2)) (pa_cons (pe_op op_fdivZ (pv 1) (pv 2)) pa_nil))))))), ?_⟩
    have hs0 : sgn o u ≠ 0 := sgn_ne hu0
    have hsb : (sgn o u).natAbs < 2 ^ 9000 := by
      rw [sgn_abs]
      exact Nat.lt_of_le_of_lt (gI_le hu0) hub
    refine ⟨_, rfl, o, rfl, _, rfl, u, rfl, _, _, rfl, ?_⟩
    rw [absV, absV]
    refine ⟨fun m σ H' => ∃ x y : Int, σ = [some (.int o), some (.int u), some (.int x), some (.int y)] ∧ 0 ≤ x ∧ 0 ≤ y ∧ m = y.toNat ∧ gI x y = gI o u ∧ H' = H,
      ⟨_, (o.natAbs : Int), (u.natAbs : Int), rfl, by omega, by omega, rfl, gI_abs o u, rfl⟩, ?_⟩
    rintro m σ H' ⟨x, y, rfl, hx, hy, rfl, hg, rfl⟩
    refine ⟨_, rfl, _, _, rfl, rfl, _, rfl, ite2 (fun e => ?_) (fun e => ?_)⟩
    · have hy1 : 0 < y := of_decide_eq_true e
      refine ⟨fun σ' H'' => ∃ x' y' : Int, σ' = [some (.int o), some (.int u), some (.int x'), some (.int y')] ∧ 0 ≤ x' ∧ 0 ≤ y' ∧ y' < y ∧ gI x' y' = gI o u ∧ H'' = H', fun σ' H'' ⟨x', y', e1, e2, e3, e4, e5, e6⟩ => ⟨y'.toNat, by omega, x', y', e1, e2, e3, rfl, e5, e6⟩, ?_⟩
      refine ⟨_, rfl, _, rfl, _, rfl, _, _, rfl, rfl, hy1, _, _, rfl, ?_⟩
      exact ⟨y, x % y, rfl, hy, Int.emod_nonneg _ (by omega), Int.emod_lt_of_pos _ hy1, (gI_step hx hy1).trans hg, rfl⟩
    · have hy0 : y = 0 := by
        have : ¬ 0 < y := fun z => e (decide_eq_true z)
        omega
      subst hy0
      rw [gI_zero hx] at hg
      subst hg
      refine ⟨_, rfl, _, _, rfl, rfl, _, rfl, ite2 (fun e2 => ?_) (fun e2 => ?_)⟩
      · have hn : u < 0 := of_decide_eq_true e2
        have es : sgn o u = 0 - gI o u := by
          unfold sgn
          rw [if_pos hn]
          omega
        refine ⟨_, rfl, _, _, rfl, rfl, ?_⟩
        dsimp only
        rw [← es]
        exact ⟨_, rfl, _, rfl, _, _, rfl, rfl, divZ hs0 hsb, _, rfl, _, rfl, _, _, rfl, rfl, divZ hs0 hsb, (by show 2 ≤ sizeLine; decide), fun p hp => q p hp⟩
      · have hn : ¬ u < 0 := fun z => e2 (decide_eq_true z)
        have es : sgn o u = gI o u := if_neg hn
        refine ⟨_, rfl, ?_⟩
        rw [← es]
        exact ⟨_, rfl, _, rfl, _, _, rfl, rfl, divZ hs0 hsb, _, rfl, _, rfl, _, _, rfl, rfl, divZ hs0 hsb, (by show 2 ≤ sizeLine; decide), fun p hp => q p hp⟩
/-! two parts to one -/
def spBin (K : PySem.W.Frag) (num : Int → Int → Int → Int → Int) : Sp := fun vs H Q _ => ∃ (a b : Addr) (xs ys : List V) (x y z u : Int), vs = [.ref a, .ref b] ∧ SqT K H a xs ∧ SqT K H b ys ∧ P2 xs x y ∧ P2 ys z u ∧
  ∀ (H' : Hp) (p : Addr), Same H H' → H p = none → H' p = some (.tup (lowF (num x y z u) (y * u))) → Q (.ref p) H'
def nPlus (x y z u : Int) : Int := x * u + z * y
def nLess (x y z u : Int) : Int := x * u - z * y
def nTimes (x _ z _ : Int) : Int := x * z
theorem yu {y u : Int} (h1 : 0 < y) (h2 : 0 < u) : y * u ≠ 0 := by
  have := Int.mul_pos h1 h2
  omega
theorem scB (st : Stmt) (h : st = sPlus ∨ st = sLess ∨ st = sTimes ∨ st = sBelow) : FnScope ["one", "other"] ["one", "other"] (defScope st) := by
  rcases h with rfl | rfl | rfl | rfl <;> exact ⟨rfl, rfl, rfl, by decide +kernel, rfl, by decide +kernel, by decide +kernel⟩
theorem sc1 : FnScope ["one", "other"] ["one", "other"] (defScope sPlus) := scB _ (.inl rfl)
theorem sc2 : FnScope ["one", "other"] ["one", "other"] (defScope sLess) := scB _ (.inr (.inl rfl))
theorem sc3 : FnScope ["one", "other"] ["one", "other"] (defScope sTimes) := scB _ (.inr (.inr (.inl rfl)))
theorem sc4 : FnScope ["one", "other"] ["one", "other"] (defScope sBelow) := scB _ (.inr (.inr (.inr rfl)))
theorem ok_plus {f fP : Addr} {fd fdP : FuncData} {k : Nat} (F : Fun K "plus" "plus" sPlus f fd) (GP : FnOk P w K mg base CX0 k fP fdP ["over", "under"] spPart) (kP : PySem.W.keepIn K (.ref fP) = true) (bP : Binds K fdP ["over", "under"] []) (gP : mg "part" = some (.ref fP)) :
    FnOk P w K mg base CX0 (k + 1) f fd ["one", "other"] (spBin K nPlus) := by
  refine F.ok sc1 (fun vs H Q E h => ?_) (fun cdv A outer s H vs Q E hr h => ?_)
  · obtain ⟨a, b, xs, ys, x, y, z, u, rfl, _⟩ := h
    rfl
  · obtain ⟨a, b, xs, ys, x, y, z, u, rfl, ha, hb, ⟨rfl, bx, y0, by'⟩, ⟨rfl, bz, u0, bu⟩, q⟩ := h
    refine ⟨_, pss_one (ps_ret (pe_call GP hr (by rfl) gP kP bP .nil pass0 (pa_cons (pe_op op_add (pe_op op_mulW (pe_ix ix_tup (pv 0) pe_int (fun _ _ => rfl)) (pe_ix ix_tup (pv 1) pe_int (fun _ _ => rfl))) (pe_op op_mulW (pe_ix ix_tup (pv 1) pe_int (fun _ _ => rfl)) (pe_ix ix_tup (pv 0) pe_int (fun _ _ => rfl))))
      (pa_cons (pe_op op_mulW (pe_ix ix_tup (pv 0) pe_int (fun _ _ => rfl)) (pe_ix ix_tup (pv 1) pe_int (fun _ _ => rfl))) pa_nil)))), ?_⟩
    refine ⟨_, rfl, a, _, 0, _, rfl, rfl, ha, atI_nat (j := 0) rfl, _, rfl, b, _, 1, _, rfl, rfl, hb, atI_nat (j := 1) rfl, _, _, rfl, rfl, cm bx bu, ?_⟩
    refine ⟨_, rfl, b, _, 0, _, rfl, rfl, hb, atI_nat (j := 0) rfl, _, rfl, a, _, 1, _, rfl, rfl, ha, atI_nat (j := 1) rfl, _, _, rfl, rfl, cm bz by', _, _, rfl, rfl, ?_⟩
    refine ⟨_, rfl, a, _, 1, _, rfl, rfl, ha, atI_nat (j := 1) rfl, _, rfl, b, _, 1, _, rfl, rfl, hb, atI_nat (j := 1) rfl, _, _, rfl, rfl, cm by' bu, ?_⟩
    exact ⟨_, _, rfl, yu y0 u0, lt9000 (mul_lt by' bu) (by decide), fun p hp => q _ p (same_upd hp) hp upd_same⟩
theorem ok_less {f fP : Addr} {fd fdP : FuncData} {k : Nat} (F : Fun K "less" "less" sLess f fd) (GP : FnOk P w K mg base CX0 k fP fdP ["over", "under"] spPart) (kP : PySem.W.keepIn K (.ref fP) = true) (bP : Binds K fdP ["over", "under"] []) (gP : mg "part" = some (.ref fP)) :
    FnOk P w K mg base CX0 (k + 1) f fd ["one", "other"] (spBin K nLess) := by
  refine F.ok sc2 (fun vs H Q E h => ?_) (fun cdv A outer s H vs Q E hr h => ?_)
  · obtain ⟨a, b, xs, ys, x, y, z, u, rfl, _⟩ := h
    rfl
  · obtain ⟨a, b, xs, ys, x, y, z, u, rfl, ha, hb, ⟨rfl, bx, y0, by'⟩, ⟨rfl, bz, u0, bu⟩, q⟩ := h
    refine ⟨_, pss_one (ps_ret (pe_call GP hr (by rfl) gP kP bP .nil pass0 (pa_cons (pe_op op_sub (pe_op op_mulW (pe_ix ix_tup (pv 0) pe_int (fun _ _ => rfl)) (pe_ix ix_tup (pv 1) pe_int (fun _ _ => rfl))) (pe_op op_mulW (pe_ix ix_tup (pv 1) pe_int (fun _ _ => rfl)) (pe_ix ix_tup (pv 0) pe_int (fun _ _ => rfl))))
      (pa_cons (pe_op op_mulW (pe_ix ix_tup (pv 0) pe_int (fun _ _ => rfl)) (pe_ix ix_tup (pv 1) pe_int (fun _ _ => rfl))) pa_nil)))), ?_⟩
    refine ⟨_, rfl, a, _, 0, _, rfl, rfl, ha, atI_nat (j := 0) rfl, _, rfl, b, _, 1, _, rfl, rfl, hb, atI_nat (j := 1) rfl, _, _, rfl, rfl, cm bx bu, ?_⟩
    refine ⟨_, rfl, b, _, 0, _, rfl, rfl, hb, atI_nat (j := 0) rfl, _, rfl, a, _, 1, _, rfl, rfl, ha, atI_nat (j := 1) rfl, _, _, rfl, rfl, cm bz by', _, _, rfl, rfl, ?_⟩
    refine ⟨_, rfl, a, _, 1, _, rfl, rfl, ha, atI_nat (j := 1) rfl, _, rfl, b, _, 1, _, rfl, rfl, hb, atI_nat (j := 1) rfl, _, _, rfl, rfl, cm by' bu, ?_⟩
    exact ⟨_, _, rfl, yu y0 u0, lt9000 (mul_lt by' bu) (by decide), fun p hp => q _ p (same_upd hp) hp upd_same⟩
theorem ok_times {f fP : Addr} {fd fdP : FuncData} {k : Nat} (F : Fun K "times" "times" sTimes f fd) (GP : FnOk P w K mg base CX0 k fP fdP ["over", "under"] spPart) (kP : PySem.W.keepIn K (.ref fP) = true) (bP : Binds K fdP ["over", "under"] []) (gP : mg "part" = some (.ref fP)) :
    FnOk P w K mg base CX0 (k + 1) f fd ["one", "other"] (spBin K nTimes) := by
  refine F.ok sc3 (fun vs H Q E h => ?_) (fun cdv A outer s H vs Q E hr h => ?_)
  · obtain ⟨a, b, xs, ys, x, y, z, u, rfl, _⟩ := h
    rfl
  · obtain ⟨a, b, xs, ys, x, y, z, u, rfl, ha, hb, ⟨rfl, bx, y0, by'⟩, ⟨rfl, bz, u0, bu⟩, q⟩ := h
    refine ⟨_, pss_one (ps_ret (pe_call GP hr (by rfl) gP kP bP .nil pass0 (pa_cons (pe_op op_mulW (pe_ix ix_tup (pv 0) pe_int (fun _ _ => rfl)) (pe_ix ix_tup (pv 1) pe_int (fun _ _ => rfl)))
      (pa_cons (pe_op op_mulW (pe_ix ix_tup (pv 0) pe_int (fun _ _ => rfl)) (pe_ix ix_tup (pv 1) pe_int (fun _ _ => rfl))) pa_nil)))), ?_⟩
    refine ⟨_, rfl, a, _, 0, _, rfl, rfl, ha, atI_nat (j := 0) rfl, _, rfl, b, _, 0, _, rfl, rfl, hb, atI_nat (j := 0) rfl, _, _, rfl, rfl, cm bx bz, ?_⟩
    refine ⟨_, rfl, a, _, 1, _, rfl, rfl, ha, atI_nat (j := 1) rfl, _, rfl, b, _, 1, _, rfl, rfl, hb, atI_nat (j := 1) rfl, _, _, rfl, rfl, cm by' bu, ?_⟩
    exact ⟨_, _, rfl, yu y0 u0, lt9000 (mul_lt by' bu) (by decide), fun p hp => q _ p (same_upd hp) hp upd_same⟩
/-- below -/
def spBel (K : PySem.W.Frag) : Sp := fun vs H Q _ => ∃ (a b : Addr) (xs ys : List V) (x y z u : Int), vs = [.ref a, .ref b] ∧ SqT K H a xs ∧ SqT K H b ys ∧ P2 xs x y ∧ P2 ys z u ∧
  ∀ (H' : Hp), Same H H' → Q (.bl (decide ((nLess x y z u).fdiv (sgn (nLess x y z u) (y * u)) < 0))) H'
theorem ok_below {f fL : Addr} {fd fdL : FuncData} {k : Nat} (F : Fun K "below" "below" sBelow f fd) (GL : FnOk P w K mg base CX0 k fL fdL ["one", "other"] (spBin K nLess)) (kL : PySem.W.keepIn K (.ref fL) = true) (bL : Binds K fdL ["one", "other"] []) (gL : mg "less" = some (.ref fL)) :
    FnOk P w K mg base CX0 (k + 1) f fd ["one", "other"] (spBel K) := by
  refine F.ok sc4 (fun vs H Q E h => ?_) (fun cdv A outer s H vs Q E hr h => ?_)
  · obtain ⟨a, b, xs, ys, x, y, z, u, rfl, _⟩ := h
    rfl
  · obtain ⟨a, b, xs, ys, x, y, z, u, rfl, ha, hb, hx, hy, q⟩ := h
    refine ⟨_, pss_one (ps_ret (pe_cmpR op_lt (pe_ix ix_tup (pe_call GL hr (by rfl) gL kL bL .nil pass0 (pa_cons (pv 0) (pa_cons (pv 1) pa_nil))) pe_int (fun _ _ => rfl)) pe_int (nomark _))), ?_⟩
    refine ⟨_, rfl, _, rfl, a, b, xs, ys, x, y, z, u, rfl, ha, hb, hx, hy, fun H' p sm np hp => ?_⟩
    exact ⟨p, _, 0, _, rfl, rfl, SqT.of hp, atI_nat (j := 0) rfl, _, _, rfl, rfl, q H' sm⟩
end
end Hl

set_option Elab.async false
set_option linter.all false
set_option maxRecDepth 100000
set_option maxHeartbeats 4000000
namespace Hl
open PySem PySem.Spec PyProof.Rows L2
/-! a call by names alone -/
section
variable {X : Cx} {CX : CXT} {k : Nat} {f : Addr} {fd : FuncData} {ps ks : List Str} {sp : Sp} {E : XK} {x : Str} {p pos : Pos} {kws : List Keyword} {tk : TA}
  {g : List Value → List Value → List Value} {gV : List V → List V → List V}
theorem pe_callN0 (F : FnOk X.prog X.w X.K X.mg X.base CX k f fd ps sp) (hr : Room k X.A) (hg : Gl X x) (hm : X.mg x = some (.ref f))
    (hk : PySem.W.keepIn X.K (.ref f) = true) (hb : KBn X.K fd ps 0 ks g gV) (hx : Passes CX X E) (hkw : PK X kws tk)
    (hall : (backToKw pos (keywordEach kws X.env)).all (·.1.isSome) = true := by rfl)
    (hks : (backToKw pos (keywordEach kws X.env)).filterMap (·.1) = ks := by rfl)
    (hdb : (x == ("__debug__" : Str)) = false := by decide)
    (hpl : ((backTo pos (starEach [] X.env)).any (·.1) || (backToKw pos (keywordEach kws X.env)).any (·.1.isNone)) = false := by rfl) :
    PE X (.Call (.Name x p) [] kws pos) (tCallN 0 ks.length sp gV E tNil tk) := by
  constructor
  intro pins s σ H Q I h
  refine wpAny_Call_Name_kw (ld_glob I hg hm ?_ hdb)
  refine PySem.W.callWith_KW0 (h₀ := X.base) I.ok.mod.kin hk hall (thn (hkw.run pos pins s σ H _ I h) ?_) hpl
  rintro ws s2 ⟨zs, H2, I2, rz, l1, l2, q2⟩
  refine ⟨I2.kIn, ?_⟩
  rw [hks]
  exact run_fnN (us := []) (vs := []) F hr hb hx I2 .nil rz l1 l2 q2
end
/-- the two values of a call by names, turned about -/
def turn {α : Type} : List α → List α → List α
  | _, [a, b] => [b, a]
  | _, _ => []
theorem turn_rel {vs zs : List V} {us ws : List Value} (_ : Vals vs us) (h : Vals zs ws) : Vals (turn vs zs) (turn us ws) := by
  cases h with
  | nil => exact .nil
  | cons a r =>
    cases r with
    | nil => exact .nil
    | cons b r2 =>
      cases r2 with
      | nil => exact .cons b (.cons a .nil)
      | cons c r3 => exact .nil
section
variable {K : PySem.W.Frag} {H H' : Hp}
theorem pr_get {R : V → V → Prop} {xs ys : List V} (h : Paired R xs ys) : ∀ (i : Nat) (x y : V), xs[i]? = some x → ys[i]? = some y → R x y := by
  induction h with
  | nil =>
    intro i x y h
    cases h
  | cons a r ih =>
    intro i x y h1 h2
    cases i with
    | zero =>
      cases Option.some.inj h1
      cases Option.some.inj h2
      exact a
    | succ j => exact ih j x y h1 h2
theorem lk_list {n : Nat} {a b : Addr} {xs ys : List V} (ha : SqL K H a xs) (hb : SqL K H b ys) (h : Paired (Lk K H n) xs ys) (hl : ys.length ≤ 1000) : Lk K H (n + 1) (.ref a) (.ref b) := .lst ha hb h.length hl (pr_get h)
theorem lk_tup {n : Nat} {a b : Addr} {xs ys : List V} (ha : SqT K H a xs) (hb : SqT K H b ys) (h : Paired (Lk K H n) xs ys) (hl : ys.length ≤ 1000) : Lk K H (n + 1) (.ref a) (.ref b) := .tup ha hb h.length hl (pr_get h)
theorem lk_low {n : Nat} {a b : Addr} {o u o' u' : Int} (ha : H a = some (.tup (lowF o u))) (hb : H b = some (.tup (lowF o' u'))) (e : lowF o' u' = lowF o u) : Lk K H (n + 1) (.ref a) (.ref b) := by
  rw [e] at hb
  exact lk_tup (SqT.of ha) (SqT.of hb) (.cons (.int _) (.cons (.int _) .nil)) (by show 2 ≤ 1000; decide)
end
theorem gI_neg (o u : Int) : gI (-o) u = gI o u := by
  unfold gI
  rw [Int.neg_gcd]
theorem low_neg {o u : Int} (h : 0 < u) : (-o).fdiv (sgn (-o) u) = -(o.fdiv (sgn o u)) := by
  have g0 : 0 < gI o u := gI_pos (by omega)
  rw [sgn_pos h, sgn_pos h, gI_neg, Int.fdiv_eq_ediv_of_nonneg _ (by omega), Int.fdiv_eq_ediv_of_nonneg _ (by omega)]
  exact Int.neg_ediv_of_dvd (gI_dvd_left o u)
theorem e_less (x y z u : Int) : nPlus x y (0 - z) u = nLess x y z u := by
  unfold nPlus nLess
  rw [Int.sub_mul, Int.zero_mul]
  omega
theorem e_turn (x y z u : Int) : nLess z u x y = -(nLess x y z u) := by
  unfold nLess
  omega
section
variable {P : Program} {w : World} {K : PySem.W.Frag} {mg : Str → Option Value} {base : Heap}
theorem sc5 : FnScope ["_law_one_z", "_law_other_z"] ["_law_one_z", "_law_other_z"] (defScope sSum) := ⟨rfl, rfl, rfl, by decide +kernel, rfl, by decide +kernel, by decide +kernel⟩
theorem sc6 : FnScope ["_law_one_z", "_law_other_z"] ["_law_one_z", "_law_other_z"] (defScope sProd) := ⟨rfl, rfl, rfl, by decide +kernel, rfl, by decide +kernel, by decide +kernel⟩
theorem ok_sum {f fP : Addr} {fd fdP : FuncData} {k : Nat} (F : Fun K "_law_sum" "_law_sum" sSum f fd) (GP : FnOk P w K mg base CX0 k fP fdP ["_law_over_here", "_law_under"] spLow) (kP : PySem.W.keepIn K (.ref fP) = true) (bP : Binds K fdP ["_law_over_here", "_law_under"] []) (gP : mg "_law_low" = some (.ref fP)) :
    FnOk P w K mg base CX0 (k + 1) f fd ["_law_one_z", "_law_other_z"] (spBin K nPlus) := by
  refine F.ok sc5 (fun vs H Q E h => ?_) (fun cdv A outer s H vs Q E hr h => ?_)
  · obtain ⟨a, b, xs, ys, x, y, z, u, rfl, _⟩ := h
    rfl
  · obtain ⟨a, b, xs, ys, x, y, z, u, rfl, ha, hb, ⟨rfl, bx, y0, by'⟩, ⟨rfl, bz, u0, bu⟩, q⟩ := h
    refine ⟨_, pss_one (ps_ret (pe_call GP hr (by rfl) gP kP bP .nil pass0 (pa_cons (pe_op op_add (pe_op op_mulW (pe_ix ix_tup (pv 0) pe_int (fun _ _ => rfl)) (pe_ix ix_tup (pv 1) pe_int (fun _ _ => rfl))) (pe_op op_mulW (pe_ix ix_tup (pv 1) pe_int (fun _ _ => rfl)) (pe_ix ix_tup (pv 0) pe_int (fun _ _ => rfl))))
      (pa_cons (pe_op op_mulW (pe_ix ix_tup (pv 0) pe_int (fun _ _ => rfl)) (pe_ix ix_tup (pv 1) pe_int (fun _ _ => rfl))) pa_nil)))), ?_⟩
    refine ⟨_, rfl, a, _, 0, _, rfl, rfl, ha, atI_nat (j := 0) rfl, _, rfl, b, _, 1, _, rfl, rfl, hb, atI_nat (j := 1) rfl, _, _, rfl, rfl, cm bx bu, ?_⟩
    refine ⟨_, rfl, b, _, 0, _, rfl, rfl, hb, atI_nat (j := 0) rfl, _, rfl, a, _, 1, _, rfl, rfl, ha, atI_nat (j := 1) rfl, _, _, rfl, rfl, cm bz by', _, _, rfl, rfl, ?_⟩
    refine ⟨_, rfl, a, _, 1, _, rfl, rfl, ha, atI_nat (j := 1) rfl, _, rfl, b, _, 1, _, rfl, rfl, hb, atI_nat (j := 1) rfl, _, _, rfl, rfl, cm by' bu, ?_⟩
    exact ⟨_, _, rfl, yu y0 u0, lt9000 (mul_lt by' bu) (by decide), fun p hp => q _ p (same_upd hp) hp upd_same⟩
theorem ok_prod {f fP : Addr} {fd fdP : FuncData} {k : Nat} (F : Fun K "_law_product" "_law_product" sProd f fd) (GP : FnOk P w K mg base CX0 k fP fdP ["_law_over_here", "_law_under"] spLow) (kP : PySem.W.keepIn K (.ref fP) = true) (bP : Binds K fdP ["_law_over_here", "_law_under"] []) (gP : mg "_law_low" = some (.ref fP)) :
    FnOk P w K mg base CX0 (k + 1) f fd ["_law_one_z", "_law_other_z"] (spBin K nTimes) := by
  refine F.ok sc6 (fun vs H Q E h => ?_) (fun cdv A outer s H vs Q E hr h => ?_)
  · obtain ⟨a, b, xs, ys, x, y, z, u, rfl, _⟩ := h
    rfl
  · obtain ⟨a, b, xs, ys, x, y, z, u, rfl, ha, hb, ⟨rfl, bx, y0, by'⟩, ⟨rfl, bz, u0, bu⟩, q⟩ := h
    refine ⟨_, pss_one (ps_ret (pe_call GP hr (by rfl) gP kP bP .nil pass0 (pa_cons (pe_op op_mulW (pe_ix ix_tup (pv 0) pe_int (fun _ _ => rfl)) (pe_ix ix_tup (pv 1) pe_int (fun _ _ => rfl)))
      (pa_cons (pe_op op_mulW (pe_ix ix_tup (pv 0) pe_int (fun _ _ => rfl)) (pe_ix ix_tup (pv 1) pe_int (fun _ _ => rfl))) pa_nil)))), ?_⟩
    refine ⟨_, rfl, a, _, 0, _, rfl, rfl, ha, atI_nat (j := 0) rfl, _, rfl, b, _, 0, _, rfl, rfl, hb, atI_nat (j := 0) rfl, _, _, rfl, rfl, cm bx bz, ?_⟩
    refine ⟨_, rfl, a, _, 1, _, rfl, rfl, ha, atI_nat (j := 1) rfl, _, rfl, b, _, 1, _, rfl, rfl, hb, atI_nat (j := 1) rfl, _, _, rfl, rfl, cm by' bu, ?_⟩
    exact ⟨_, _, rfl, yu y0 u0, lt9000 (mul_lt by' bu) (by decide), fun p hp => q _ p (same_upd hp) hp upd_same⟩
/-! _law_a_part -/
def spAp : Sp := fun vs H Q _ => ∃ p : Addr, vs = [.ref p] ∧ Deal H p ∧ ∀ (H' : Hp) (t : Addr) (xs : List V) (x y : Int), But p H H' → Deal H' p → H t = none → H' t = some (.tup xs) → P2 xs x y → Q (.ref t) H'
theorem scA : FnScope ["_law_deal_here"] ["_law_deal_here"] (defScope sAp) := ⟨rfl, rfl, rfl, by decide +kernel, rfl, by decide +kernel, by decide +kernel⟩
theorem ok_ap {f fK fO fV fW : Addr} {fd fdK fdO fdV fdW : FuncData} {k : Nat} (F : Fun K "_law_a_part" "_law_a_part" sAp f fd)
    (GK : FnOk P w K mg base CX0 k fK fdK ["_law_deal_here", "_law_many"] spPick) (kK : PySem.W.keepIn K (.ref fK) = true) (bK : Binds K fdK ["_law_deal_here", "_law_many"] []) (gK : mg "_law_pick" = some (.ref fK))
    (GO : FnOk P w K mg base CX0 k fO fdO ["_law_deal_here", "_law_some"] (spOf K)) (kO : PySem.W.keepIn K (.ref fO) = true) (bO : Binds K fdO ["_law_deal_here", "_law_some"] []) (gO : mg "_law_of" = some (.ref fO))
    (GV : FnOk P w K mg base CX0 k fV fdV ["_law_deal_here"] spOver) (kV : PySem.W.keepIn K (.ref fV) = true) (bV : Binds K fdV ["_law_deal_here"] []) (gV : mg "_law_over" = some (.ref fV))
    (GW : FnOk P w K mg base CX0 k fW fdW ["_law_over_here", "_law_under"] spLow) (kW : PySem.W.keepIn K (.ref fW) = true) (bW : Binds K fdW ["_law_over_here", "_law_under"] []) (gW : mg "_law_low" = some (.ref fW)) :
    FnOk P w K mg base CX0 (k + 1) f fd ["_law_deal_here"] spAp := by
  refine F.ok scA (fun vs H Q E h => ?_) (fun cdv A outer s H vs Q E hr h => ?_)
  · obtain ⟨p, rfl, _⟩ := h
    rfl
  · obtain ⟨p, rfl, dl, q⟩ := h
    refine ⟨_, pss_one (ps_ret (pe_call GW hr (by rfl) gW kW bW .nil pass0 (pa_cons (pe_call GV hr (by rfl) gV kV bV .nil pass0 (pa_cons (pv 0) pa_nil))
      (pa_cons (pe_op op_add pe_int (pe_call GK hr (by rfl) gK kK bK .nil pass0 (pa_cons (pv 0) (pa_cons (pe_call GO hr (by rfl) gO kO bO .nil pass0 (pa_cons (pv 0) (pa_cons (pe_lst (pa_cons pe_int (pa_cons pe_int (pa_cons pe_int (pa_cons (pe_op op_pow pe_int pe_int) pa_nil))))) pa_nil))) pa_nil)))) pa_nil)))), ?_⟩
    refine ⟨_, rfl, p, rfl, dl, fun H1 o b1 dl1 ob => ?_⟩
    refine ⟨_, rfl, _, rfl, _, _, rfl, rfl, ⟨by decide, by decide, by decide⟩, (by show 4 ≤ sizeLine; decide), fun c nc => ?_⟩
    have sc' := same_upd (o := .lst [.int 1, .int 6, .int 40, .int ((10 : Int) ^ (9 : Int).toNat)]) nc
    refine ⟨p, c, _, rfl, dl1.same sc', SqL.of upd_same, dl1.ne nc, by decide, by decide, fun o2 x hx dl2 => ?_⟩
    obtain ⟨n, rfl, h1, h9⟩ : ∃ n : Int, x = .int n ∧ 1 ≤ n ∧ n ≤ 1000000000 := by
      simp only [List.mem_cons, List.not_mem_nil, or_false] at hx
      rcases hx with rfl | rfl | rfl | rfl
      · exact ⟨_, rfl, by decide, by decide⟩
      · exact ⟨_, rfl, by decide, by decide⟩
      · exact ⟨_, rfl, by decide, by decide⟩
      · exact ⟨_, rfl, by decide, by decide⟩
    refine ⟨p, n, rfl, dl2, by omega, lg (b := 30) (by omega) (by decide) (by decide), fun o3 r dl3 r0 r1 => ?_⟩
    have e100 : (2 : Nat) ^ 100 = 1267650600228229401496703205376 := by decide
    have hu : (1 + r).natAbs < 2 ^ 100 := by omega
    refine ⟨_, _, rfl, rfl, o, 1 + r, rfl, by omega, lt9000 hu (by decide), fun t nt => ?_⟩
    have bb : But p H _ := b1.trans ((But.of sc').trans ((But.upd (o := o2)).trans (But.upd (o := o3))))
    obtain ⟨x, y, pp⟩ := lowP (o := o) (u := 1 + r) (by omega) ob hu
    exact q _ t _ x y (bb.trans (But.of (same_upd nt))) (dl3.same (same_upd nt)) (bb.free dl3 nt) upd_same pp
end
end Hl

set_option Elab.async false
set_option linter.all false
set_option maxRecDepth 100000
set_option maxHeartbeats 4000000
namespace Hl
open PySem PySem.Spec PyProof.Rows L2
abbrev sLaw : Stmt := topS 20
section
variable {P : Program} {w : World} {K : PySem.W.Frag} {mg : Str → Option Value} {base : Heap}
/-- a def that stands, keeps its promise, is called by its place or by names -/
structure Has (P : Program) (w : World) (K : PySem.W.Frag) (mg : Str → Option Value) (base : Heap) (k : Nat) (x : Str) (ps : List Str) (sp : Sp) (f : Addr) (fd : FuncData) : Prop where
  G : FnOk P w K mg base CX0 k f fd ps sp
  kp : PySem.W.keepIn K (.ref f) = true
  b : Binds K fd ps []
  g : mg x = some (.ref f)
def spLaw (K : PySem.W.Frag) : Sp := fun vs H Q _ => ∃ (a : Addr) (ns : List Int), vs = [.ref a] ∧ SqL K H a (ns.map V.int) ∧ ns.length ≤ 63 ∧ ∀ H', Q (.bl true) H'
theorem scZ : FnScope ["_law_script", "_law_deal_here", "_law_turn", "_law_one_z", "_law_other_z", "_law_back", "_law_due"] ["_law_script"] (defScope sLaw) := ⟨rfl, rfl, rfl, by decide +kernel, rfl, by decide +kernel, by decide +kernel⟩
theorem p2_t {H : Hp} {a : Addr} {xs : List V} (h : H a = some (.tup xs)) : SqT K H a xs := SqT.of h
theorem ok_law {f f1 f2 f3 f4 f5 f6 f7 f8 f9 fA : Addr} {fd d1 d2 d3 d4 d5 d6 d7 d8 d9 dA : FuncData} {k : Nat} (F : Fun K "law" "law" sLaw f fd) (B : Bi mg) (hk4 : 4 ≤ k)
    (D : Has P w K mg base k "_law_deal" ["_law_script"] (spDeal K) f1 d1)
    (O : Has P w K mg base k "_law_of" ["_law_deal_here", "_law_some"] (spOf K) f2 d2)
    (L : Has P w K mg base k "_law_like" ["_law_found", "_law_due"] (spLike K 3) f3 d3)
    (S : Has P w K mg base k "_law_sum" ["_law_one_z", "_law_other_z"] (spBin K nPlus) f4 d4)
    (R : Has P w K mg base k "_law_product" ["_law_one_z", "_law_other_z"] (spBin K nTimes) f5 d5)
    (A' : Has P w K mg base k "_law_a_part" ["_law_deal_here"] spAp f6 d6)
    (Pl : Has P w K mg base k "plus" ["one", "other"] (spBin K nPlus) f7 d7)
    (Le : Has P w K mg base k "less" ["one", "other"] (spBin K nLess) f8 d8)
    (Ti : Has P w K mg base k "times" ["one", "other"] (spBin K nTimes) f9 d9)
    (Be : Has P w K mg base k "below" ["one", "other"] (spBel K) fA dA)
    (nPl : KBn K d7 ["one", "other"] 0 ["other", "one"] turn turn) (nLe : KBn K d8 ["one", "other"] 0 ["other", "one"] turn turn) (nTi : KBn K d9 ["one", "other"] 0 ["other", "one"] turn turn) (nBe : KBn K dA ["one", "other"] 0 ["other", "one"] turn turn) :
    FnOk P w K mg base CX0 (k + 1) f fd ["_law_script"] (spLaw K) := by
  refine F.ok scZ (fun vs H Q E h => ?_) (fun cdv A outer s H vs Q E hr h => ?_)
  · obtain ⟨a, ns, rfl, _⟩ := h
    rfl
  · obtain ⟨a, ns, rfl, hS, hlen, q⟩ := h
    refine ⟨_, pss_cons (ps_set (i := 1) scZ.nd rfl (.inl rfl) (pe_call D.G hr (by rfl) D.g D.kp D.b .nil pass0 (pa_cons (pv 0) pa_nil)))
      (pss_cons (ps_for PassesOwn.never rfl (pi_range1 rfl B.rng (pa_cons pe_int pa_nil)) (pg_name (i := 2) scZ.nd rfl (.inl rfl))
        (pss_cons (ps_set (i := 3) scZ.nd rfl (.inl rfl) (pe_call A'.G hr (by rfl) A'.g A'.kp A'.b .nil pass0 (pa_cons (pv 1) pa_nil)))
        (pss_cons (ps_set (i := 4) scZ.nd rfl (.inl rfl) (pe_call O.G hr (by rfl) O.g O.kp O.b .nil pass0 (pa_cons (pv 1) (pa_cons (pe_lst (pa_cons (pe_call A'.G hr (by rfl) A'.g A'.kp A'.b .nil pass0 (pa_cons (pv 1) pa_nil)) (pa_cons (pe_call A'.G hr (by rfl) A'.g A'.kp A'.b .nil pass0 (pa_cons (pv 1) pa_nil)) (pa_cons (pv 3) pa_nil)))) pa_nil))))
        (pss_cons (ps_set (i := 5) scZ.nd rfl (.inl rfl) (pe_tup (pa_cons (pe_op op_sub pe_int (pe_ix ix_tup (pv 4) pe_int (fun _ _ => rfl))) (pa_cons (pe_ix ix_tup (pv 4) pe_int (fun _ _ => rfl)) pa_nil))))
        (pss_cons (ps_set (i := 6) scZ.nd rfl (.inl rfl) (pe_lst (pa_cons (pe_call S.G hr (by rfl) S.g S.kp S.b .nil pass0 (pa_cons (pv 3) (pa_cons (pv 4) pa_nil))) (pa_cons (pe_call S.G hr (by rfl) S.g S.kp S.b .nil pass0 (pa_cons (pv 3) (pa_cons (pv 5) pa_nil))) (pa_cons (pe_call R.G hr (by rfl) R.g R.kp R.b .nil pass0 (pa_cons (pv 3) (pa_cons (pv 4) pa_nil))) pa_nil)))))
        (pss_cons (ps_if (pt_not (pt_val (pe_call L.G hr (by rfl) L.g L.kp L.b .nil pass0 (pa_cons (pe_lst (pa_cons (pe_call Pl.G hr (by rfl) Pl.g Pl.kp Pl.b .nil pass0 (pa_cons (pv 3) (pa_cons (pv 4) pa_nil))) (pa_cons (pe_call Le.G hr (by rfl) Le.g Le.kp Le.b .nil pass0 (pa_cons (pv 3) (pa_cons (pv 4) pa_nil))) (pa_cons (pe_call Ti.G hr (by rfl) Ti.g Ti.kp Ti.b .nil pass0 (pa_cons (pv 3) (pa_cons (pv 4) pa_nil))) pa_nil)))) (pa_cons (pv 6) pa_nil)))))
            (pss_one (ps_ret pe_bl)) pss_nil)
        (pss_cons (ps_if (pt_not (pt_val (pe_call L.G hr (by rfl) L.g L.kp L.b .nil pass0 (pa_cons (pe_lst (pa_cons (pe_callN0 Pl.G hr (by rfl) Pl.g Pl.kp nPl pass0 (pk_cons (pv 4) (pk_cons (pv 3) pk_nil))) (pa_cons (pe_callN0 Le.G hr (by rfl) Le.g Le.kp nLe pass0 (pk_cons (pv 4) (pk_cons (pv 3) pk_nil))) (pa_cons (pe_callN0 Ti.G hr (by rfl) Ti.g Ti.kp nTi pass0 (pk_cons (pv 3) (pk_cons (pv 4) pk_nil))) pa_nil)))) (pa_cons (pv 6) pa_nil)))))
            (pss_one (ps_ret pe_bl)) pss_nil)
        (pss_one (ps_if (pt_not (pt_val (pe_call L.G hr (by rfl) L.g L.kp L.b .nil pass0 (pa_cons (pe_lst (pa_cons (pe_call Be.G hr (by rfl) Be.g Be.kp Be.b .nil pass0 (pa_cons (pv 3) (pa_cons (pv 4) pa_nil))) (pa_cons (pe_call Be.G hr (by rfl) Be.g Be.kp Be.b .nil pass0 (pa_cons (pv 4) (pa_cons (pv 3) pa_nil))) pa_nil)))
              (pa_cons (pe_lst (pa_cons (pe_cmpR op_lt (pe_ix ix_tup (pe_ix ix_list (pv 6) pe_int (fun _ _ => rfl)) pe_int (fun _ _ => rfl)) pe_int (nomark _)) (pa_cons (pe_cmpR op_gt (pe_ix ix_tup (pe_ix ix_list (pv 6) pe_int (fun _ _ => rfl)) pe_int (fun _ _ => rfl)) pe_int (nomark _)) pa_nil))) pa_nil)))))
            (pss_one (ps_ret pe_bl)) pss_nil)))))))))
      (pss_one (ps_ret (pe_cmpR op_isBl (pe_callN0 Be.G hr (by rfl) Be.g Be.kp nBe pass0 (pk_cons (pe_tup (pa_cons pe_int (pa_cons pe_int pa_nil))) (pk_cons (pe_tup (pa_cons pe_int (pa_cons pe_int pa_nil))) pk_nil))) pe_bl (nomark _))))), ?_⟩
    refine ⟨_, rfl, a, ns, rfl, hS, hlen, fun H1 p sm1 np dl1 => ?_⟩
    refine ⟨7, rfl, by decide, by decide, for_range (lo := 0) (n := 7) (fun i σ H' => ∃ v2 v3 v4 v5 v6 : Option V, σ = [some (.ref a), some (.ref p), v2, v3, v4, v5, v6] ∧ Deal H' p) ⟨none, none, none, none, none, rfl, dl1⟩ ?_ ?_⟩
    · rintro i σ H2 hi ⟨v2, v3, v4, v5, v6, rfl, dl2⟩
      refine ⟨_, rfl, p, rfl, dl2, fun H3 t1 xs1 x y b3 dl3 nt1 ht1 P1 => ?_⟩
      refine ⟨_, rfl, _, rfl, p, rfl, dl3, fun H4 t2 xs2 x2 y2 b4 dl4 nt2 ht2 P2' => ?_⟩
      refine ⟨_, rfl, p, rfl, dl4, fun H5 t3 xs3 x3 y3 b5 dl5 nt3 ht3 P3' => ?_⟩
      have n1 : t1 ≠ p := dl2.ne nt1
      have n2 : t2 ≠ p := dl3.ne nt2
      have n3 : t3 ≠ p := dl4.ne nt3
      refine ⟨_, rfl, (by show 3 ≤ sizeLine; decide), fun c nc => ?_⟩
      have sc' := same_upd (o := .lst [.ref t2, .ref t3, .ref t1]) nc
      refine ⟨p, c, _, rfl, dl5.same sc', SqL.of upd_same, dl5.ne nc, (by show 0 < 3; decide), (by show 3 ≤ 1000; decide), fun o6 vv hv dl6 => ?_⟩
      have k6 : But p H5 (upd (upd H5 c (.lst [.ref t2, .ref t3, .ref t1])) p o6) := (But.of sc').trans But.upd
      have h1 := k6 _ _ n1 (b5 _ _ n1 (b4 _ _ n1 ht1))
      have h2 := k6 _ _ n2 (b5 _ _ n2 ht2)
      have h3 := k6 _ _ n3 ht3
      obtain ⟨t, xs, z, u, rfl, ht, PP⟩ : ∃ (t : Addr) (xs : List V) (z u : Int), vv = .ref t ∧ (upd (upd H5 c (.lst [.ref t2, .ref t3, .ref t1])) p o6) t = some (.tup xs) ∧ P2 xs z u := by
        simp only [List.mem_cons, List.not_mem_nil, or_false] at hv
        rcases hv with rfl | rfl | rfl
        · exact ⟨_, _, _, _, rfl, h2, P2'⟩
        · exact ⟨_, _, _, _, rfl, h3, P3'⟩
        · exact ⟨_, _, _, _, rfl, h1, P1⟩
      generalize (upd (upd H5 c (.lst [.ref t2, .ref t3, .ref t1])) p o6) = G at *
      obtain ⟨rfl, bz, u0, bu⟩ := PP
      -- back
      refine ⟨_, rfl, t, _, 0, _, rfl, rfl, SqT.of ht, atI_nat (j := 0) rfl, _, _, rfl, rfl, _, rfl, t, _, 1, _, rfl, rfl, SqT.of ht, atI_nat (j := 1) rfl, (by show 2 ≤ sizeLine; decide), fun tb nb => ?_⟩
      have sb := same_upd (o := .tup [.int (0 - z), .int u]) nb
      have PB : P2 [.int (0 - z), .int u] (0 - z) u := ⟨rfl, by omega, u0, bu⟩
      have PO : P2 [.int z, .int u] z u := ⟨rfl, bz, u0, bu⟩
      have hb : (upd G tb (.tup [.int (0 - z), .int u])) tb = some (.tup [.int (0 - z), .int u]) := upd_same
      have h1' := sb _ _ h1
      have ht' := sb _ _ ht
      have dl7 := dl6.same sb
      generalize hG1 : (upd G tb (.tup [.int (0 - z), .int u])) = G1 at *
      -- due
      refine ⟨_, rfl, _, rfl, t1, t, _, _, x, y, z, u, rfl, SqT.of h1', SqT.of ht', P1, PO, fun G2 q1 s2 m1 e1 => ?_⟩
      refine ⟨_, rfl, _, rfl, t1, tb, _, _, x, y, 0 - z, u, rfl, SqT.of (s2 _ _ h1'), SqT.of (s2 _ _ hb), P1, PB, fun G3 q2 s3 m2 e2 => ?_⟩
      have s13 := s2.trans s3
      refine ⟨_, rfl, _, rfl, t1, t, _, _, x, y, z, u, rfl, SqT.of (s13 _ _ h1'), SqT.of (s13 _ _ ht'), P1, PO, fun G4 q3 s4 m3 e3 => ?_⟩
      have s14 := s13.trans s4
      refine ⟨(by show 3 ≤ sizeLine; decide), fun due nd => ?_⟩
      have s5 := same_upd (o := .lst [.ref q1, .ref q2, .ref q3]) nd
      have s15 := s14.trans s5
      have hd : (upd G4 due (.lst [.ref q1, .ref q2, .ref q3])) due = some (.lst [.ref q1, .ref q2, .ref q3]) := upd_same
      have e1' := s5 _ _ (s4 _ _ (s3 _ _ e1))
      have e2' := s5 _ _ (s4 _ _ e2)
      have e3' := s5 _ _ e3
      have g1 := s15 _ _ h1'
      have gt := s15 _ _ ht'
      have dl8 := dl7.same s15
      rw [e_less] at e2'
      generalize (upd G4 due (.lst [.ref q1, .ref q2, .ref q3])) = M at *
      -- plus, less, times by places
      refine ⟨_, rfl, _, rfl, t1, t, _, _, x, y, z, u, rfl, SqT.of g1, SqT.of gt, P1, PO, fun M1 r1 a1 _ c1 => ?_⟩
      refine ⟨_, rfl, _, rfl, t1, t, _, _, x, y, z, u, rfl, SqT.of (a1 _ _ g1), SqT.of (a1 _ _ gt), P1, PO, fun M2 r2 a2 _ c2 => ?_⟩
      have a12 := a1.trans a2
      refine ⟨_, rfl, _, rfl, t1, t, _, _, x, y, z, u, rfl, SqT.of (a12 _ _ g1), SqT.of (a12 _ _ gt), P1, PO, fun M3 r3 a3 _ c3 => ?_⟩
      refine ⟨(by show 3 ≤ sizeLine; decide), fun l1 nl1 => ?_⟩
      have a4 := same_upd (o := .lst [.ref r1, .ref r2, .ref r3]) nl1
      have a14 := (a12.trans a3).trans a4
      refine ⟨_, rfl, _, _, rfl, lk_list (SqL.of upd_same) (SqL.of (a14 _ _ hd)) (.cons (lk_low (a4 _ _ (a3 _ _ (a2 _ _ c1))) (a14 _ _ e1') rfl) (.cons (lk_low (a4 _ _ (a3 _ _ c2)) (a14 _ _ e2') rfl) (.cons (lk_low (a4 _ _ c3) (a14 _ _ e3') rfl) .nil))) (by show 3 ≤ 1000; decide), fun M5 a5 => ⟨_, rfl, iF rfl ?_⟩⟩
      have A5 := a14.trans a5
      -- by names
      refine ⟨_, rfl, _, rfl, rfl, rfl, t1, t, _, _, x, y, z, u, rfl, SqT.of (A5 _ _ g1), SqT.of (A5 _ _ gt), P1, PO, fun M6 r4 a6 _ c4 => ?_⟩
      have A6 := A5.trans a6
      refine ⟨_, rfl, _, rfl, rfl, rfl, t1, t, _, _, x, y, z, u, rfl, SqT.of (A6 _ _ g1), SqT.of (A6 _ _ gt), P1, PO, fun M7 r5 a7 _ c5 => ?_⟩
      have A7 := A6.trans a7
      refine ⟨_, rfl, _, rfl, rfl, rfl, t, t1, _, _, z, u, x, y, rfl, SqT.of (A7 _ _ gt), SqT.of (A7 _ _ g1), PO, P1, fun M8 r6 a8 _ c6 => ?_⟩
      have A8 := A7.trans a8
      refine ⟨(by show 3 ≤ sizeLine; decide), fun l2 nl2 => ?_⟩
      have a9 := same_upd (o := .lst [.ref r4, .ref r5, .ref r6]) nl2
      have A9 := A8.trans a9
      have ec : lowF (nTimes x y z u) (y * u) = lowF (nTimes z u x y) (u * y) := by
        unfold nTimes
        rw [Int.mul_comm x z, Int.mul_comm y u]
      refine ⟨_, rfl, _, _, rfl, lk_list (SqL.of upd_same) (SqL.of (A9 _ _ hd)) (.cons (lk_low (a9 _ _ (a8 _ _ (a7 _ _ c4))) (A9 _ _ e1') rfl) (.cons (lk_low (a9 _ _ (a8 _ _ c5)) (A9 _ _ e2') rfl) (.cons (lk_low (a9 _ _ c6) (A9 _ _ e3') ec) .nil))) (by show 3 ≤ 1000; decide), fun MA aA => ⟨_, rfl, iF rfl ?_⟩⟩
      have AA := A9.trans aA
      -- below
      refine ⟨_, rfl, _, rfl, t1, t, _, _, x, y, z, u, rfl, SqT.of (AA _ _ g1), SqT.of (AA _ _ gt), P1, PO, fun MB aB => ?_⟩
      have AB := AA.trans aB
      refine ⟨_, rfl, _, rfl, t, t1, _, _, z, u, x, y, rfl, SqT.of (AB _ _ gt), SqT.of (AB _ _ g1), PO, P1, fun MC aC => ?_⟩
      have AC := AB.trans aC
      refine ⟨(by show 2 ≤ sizeLine; decide), fun l3 nl3 => ?_⟩
      have aD := same_upd (o := .lst [.bl (decide ((nLess x y z u).fdiv (sgn (nLess x y z u) (y * u)) < 0)), .bl (decide ((nLess z u x y).fdiv (sgn (nLess z u x y) (u * y)) < 0))]) nl3
      have AD := AC.trans aD
      refine ⟨_, rfl, due, _, 1, _, rfl, rfl, SqL.of (AD _ _ hd), atI_nat (j := 1) rfl, q2, _, 0, _, rfl, rfl, SqT.of (AD _ _ e2'), atI_nat (j := 0) rfl, _, _, rfl, rfl, ?_⟩
      refine ⟨_, rfl, due, _, 1, _, rfl, rfl, SqL.of (AD _ _ hd), atI_nat (j := 1) rfl, q2, _, 0, _, rfl, rfl, SqT.of (AD _ _ e2'), atI_nat (j := 0) rfl, _, _, rfl, rfl, ?_⟩
      refine ⟨(by show 2 ≤ sizeLine; decide), fun l4 nl4 => ?_⟩
      have yu0 : 0 < y * u := Int.mul_pos P1.y0 u0
      have eb : decide ((nLess z u x y).fdiv (sgn (nLess z u x y) (u * y)) < 0) = decide (0 < (nLess x y z u).fdiv (sgn (nLess x y z u) (y * u))) := by
        rw [e_turn, Int.mul_comm u y, low_neg yu0]
        exact decide_eq_decide.mpr (by omega)
      refine ⟨_, _, rfl, lk_list (n := 1) (SqL.of (by rw [upd_ne (ne_of_fresh upd_same nl4).symm]; exact upd_same)) (SqL.of upd_same) (.cons (.bl _) (.cons (by rw [eb]; exact .bl _) .nil)) (by show 2 ≤ 1000; decide), fun ME aE => ⟨_, rfl, iF rfl ?_⟩⟩
      exact ⟨_, _, _, _, _, rfl, dl8.same ((AD.trans (same_upd nl4)).trans aE)⟩
    · rintro σ H2 ⟨v2, v3, v4, v5, v6, rfl, dl2⟩
      refine ⟨(by show 2 ≤ sizeLine; decide), fun ta na => ⟨(by show 2 ≤ sizeLine; decide), fun tb nb => ?_⟩⟩
      refine ⟨rfl, rfl, tb, ta, _, _, 1, 3, 1, 2, rfl, SqT.of upd_same, SqT.of (by rw [upd_ne (ne_of_fresh upd_same nb).symm]; exact upd_same), ⟨rfl, by decide, by decide, by decide⟩, ⟨rfl, by decide, by decide, by decide⟩, fun H3 s3 => ?_⟩
      refine ⟨_, _, rfl, rfl, ?_⟩
      rw [show decide ((nLess 1 3 1 2).fdiv (sgn (nLess 1 3 1 2) (3 * 2)) < 0) = true by decide]
      exact q _
end
end Hl

set_option Elab.async false
set_option linter.all false
set_option maxRecDepth 100000
set_option maxHeartbeats 4000000
namespace Hl
open PySem PySem.Spec PyProof.Rows L2
theorem kb_of {K : PySem.W.Frag} {x : Str} {st : Stmt} {f : Addr} {fd : FuncData} (F : Fun K x x st f fd)
    (h : ∀ (kV doc pm : Value) (an : Option Addr) (cdv ct a b : Value), bindArgs (PySem.W.fnOf x x (defArgs st) (defBody st) (defScope st) .none kV doc pm an cdv ct) ⟨[], [(("other" : Str), a), (("one" : Str), b)]⟩ = pure [(("one" : Str), b), (("other" : Str), a)]) :
    KBn K fd ["one", "other"] 0 ["other", "one"] turn turn := by
  obtain ⟨oc, od, kV, doc, pm, an, cdv, ct, osl, rfl, lk, hcd⟩ := F.ex
  refine ⟨fun s us ws X l1 l2 => ?_, turn_rel⟩
  match us, ws, l1, l2 with
  | [], [a, b], _, _ => exact .of_eq (h kV doc pm an cdv ct a b)
theorem all_mk {l : PySem.W.OpenLaw} {w : World} {K : PySem.W.Frag} {h : Heap} {mg : Str → Option Value} {fa : Addr} (X : K.In h) (G : h.Ns mainGlobals mg) (hfa : mg "law" = some (.ref fa))
    {f1 : Addr} {od1 an1 : Option Addr} {sl1 : Array (Option Value)} {oc1 kV1 dc1 pm1 cd1 ct1 : Value}
    {f2 : Addr} {od2 an2 : Option Addr} {sl2 : Array (Option Value)} {oc2 kV2 dc2 pm2 cd2 ct2 : Value}
    {T2 : Addr} {ocT2 : Value} {odT2 : Option Addr} {nT2 : Nat} {slT2 : Array (Option Value)}
    {tk2 : Tok}
    {f3 : Addr} {od3 an3 : Option Addr} {sl3 : Array (Option Value)} {oc3 kV3 dc3 pm3 cd3 ct3 : Value}
    {f4 : Addr} {od4 an4 : Option Addr} {sl4 : Array (Option Value)} {oc4 kV4 dc4 pm4 cd4 ct4 : Value}
    {f5 : Addr} {od5 an5 : Option Addr} {sl5 : Array (Option Value)} {oc5 kV5 dc5 pm5 cd5 ct5 : Value}
    {f6 : Addr} {od6 an6 : Option Addr} {sl6 : Array (Option Value)} {oc6 kV6 dc6 pm6 cd6 ct6 : Value}
    {f7 : Addr} {od7 an7 : Option Addr} {sl7 : Array (Option Value)} {oc7 kV7 dc7 pm7 cd7 ct7 : Value}
    {f8 : Addr} {od8 an8 : Option Addr} {sl8 : Array (Option Value)} {oc8 kV8 dc8 pm8 cd8 ct8 : Value}
    {f9 : Addr} {od9 an9 : Option Addr} {sl9 : Array (Option Value)} {oc9 kV9 dc9 pm9 cd9 ct9 : Value}
    {f10 : Addr} {od10 an10 : Option Addr} {sl10 : Array (Option Value)} {oc10 kV10 dc10 pm10 cd10 ct10 : Value}
    {f11 : Addr} {od11 an11 : Option Addr} {sl11 : Array (Option Value)} {oc11 kV11 dc11 pm11 cd11 ct11 : Value}
    {f12 : Addr} {od12 an12 : Option Addr} {sl12 : Array (Option Value)} {oc12 kV12 dc12 pm12 cd12 ct12 : Value}
    {f13 : Addr} {od13 an13 : Option Addr} {sl13 : Array (Option Value)} {oc13 kV13 dc13 pm13 cd13 ct13 : Value}
    {f14 : Addr} {od14 an14 : Option Addr} {sl14 : Array (Option Value)} {oc14 kV14 dc14 pm14 cd14 ct14 : Value}
    {f15 : Addr} {od15 an15 : Option Addr} {sl15 : Array (Option Value)} {oc15 kV15 dc15 pm15 cd15 ct15 : Value}
    {f16 : Addr} {od16 an16 : Option Addr} {sl16 : Array (Option Value)} {oc16 kV16 dc16 pm16 cd16 ct16 : Value}
    (a1 : PySem.W.nsIn K mainGlobals "greatest_common" = some (some (.ref f1)))
    (l1 : K.lookup f1 = some ⟨oc1, od1, .func (PySem.W.fnOf "greatest_common" "greatest_common" (defArgs sGcd) (defBody sGcd) (defScope sGcd) (.none) kV1 dc1 pm1 an1 cd1 ct1), sl1⟩)
    (c1 : PySem.W.codeIn K cd1 "greatest_common" = true)
    (k1 : PySem.W.keepIn K (.ref f1) = true)
    (a2 : PySem.W.nsIn K mainGlobals "part" = some (some (.ref f2)))
    (l2 : K.lookup f2 = some ⟨oc2, od2, .func (PySem.W.fnOf "part" "part" (defArgs sPart) (defBody sPart) (defScope sPart) (.ref T2) kV2 dc2 pm2 an2 cd2 ct2), sl2⟩)
    (c2 : PySem.W.codeIn K cd2 "part" = true)
    (k2 : PySem.W.keepIn K (.ref f2) = true)
    (t2 : K.lookup T2 = some ⟨ocT2, odT2, .seq #[.int 1 tk2] nT2, slT2⟩)
    (a3 : PySem.W.nsIn K mainGlobals "plus" = some (some (.ref f3)))
    (l3 : K.lookup f3 = some ⟨oc3, od3, .func (PySem.W.fnOf "plus" "plus" (defArgs sPlus) (defBody sPlus) (defScope sPlus) (.none) kV3 dc3 pm3 an3 cd3 ct3), sl3⟩)
    (c3 : PySem.W.codeIn K cd3 "plus" = true)
    (k3 : PySem.W.keepIn K (.ref f3) = true)
    (a4 : PySem.W.nsIn K mainGlobals "less" = some (some (.ref f4)))
    (l4 : K.lookup f4 = some ⟨oc4, od4, .func (PySem.W.fnOf "less" "less" (defArgs sLess) (defBody sLess) (defScope sLess) (.none) kV4 dc4 pm4 an4 cd4 ct4), sl4⟩)
    (c4 : PySem.W.codeIn K cd4 "less" = true)
    (k4 : PySem.W.keepIn K (.ref f4) = true)
    (a5 : PySem.W.nsIn K mainGlobals "times" = some (some (.ref f5)))
    (l5 : K.lookup f5 = some ⟨oc5, od5, .func (PySem.W.fnOf "times" "times" (defArgs sTimes) (defBody sTimes) (defScope sTimes) (.none) kV5 dc5 pm5 an5 cd5 ct5), sl5⟩)
    (c5 : PySem.W.codeIn K cd5 "times" = true)
    (k5 : PySem.W.keepIn K (.ref f5) = true)
    (a6 : PySem.W.nsIn K mainGlobals "below" = some (some (.ref f6)))
    (l6 : K.lookup f6 = some ⟨oc6, od6, .func (PySem.W.fnOf "below" "below" (defArgs sBelow) (defBody sBelow) (defScope sBelow) (.none) kV6 dc6 pm6 an6 cd6 ct6), sl6⟩)
    (c6 : PySem.W.codeIn K cd6 "below" = true)
    (k6 : PySem.W.keepIn K (.ref f6) = true)
    (a7 : PySem.W.nsIn K mainGlobals "_law_deal" = some (some (.ref f7)))
    (l7 : K.lookup f7 = some ⟨oc7, od7, .func (PySem.W.fnOf "_law_deal" "_law_deal" (defArgs sDeal) (defBody sDeal) (defScope sDeal) (.none) kV7 dc7 pm7 an7 cd7 ct7), sl7⟩)
    (c7 : PySem.W.codeIn K cd7 "_law_deal" = true)
    (k7 : PySem.W.keepIn K (.ref f7) = true)
    (a8 : PySem.W.nsIn K mainGlobals "_law_pick" = some (some (.ref f8)))
    (l8 : K.lookup f8 = some ⟨oc8, od8, .func (PySem.W.fnOf "_law_pick" "_law_pick" (defArgs sPick) (defBody sPick) (defScope sPick) (.none) kV8 dc8 pm8 an8 cd8 ct8), sl8⟩)
    (c8 : PySem.W.codeIn K cd8 "_law_pick" = true)
    (k8 : PySem.W.keepIn K (.ref f8) = true)
    (a9 : PySem.W.nsIn K mainGlobals "_law_of" = some (some (.ref f9)))
    (l9 : K.lookup f9 = some ⟨oc9, od9, .func (PySem.W.fnOf "_law_of" "_law_of" (defArgs sOf) (defBody sOf) (defScope sOf) (.none) kV9 dc9 pm9 an9 cd9 ct9), sl9⟩)
    (c9 : PySem.W.codeIn K cd9 "_law_of" = true)
    (k9 : PySem.W.keepIn K (.ref f9) = true)
    (a10 : PySem.W.nsIn K mainGlobals "_law_like" = some (some (.ref f10)))
    (l10 : K.lookup f10 = some ⟨oc10, od10, .func (PySem.W.fnOf "_law_like" "_law_like" (defArgs sLike) (defBody sLike) (defScope sLike) (.none) kV10 dc10 pm10 an10 cd10 ct10), sl10⟩)
    (c10 : PySem.W.codeIn K cd10 "_law_like" = true)
    (k10 : PySem.W.keepIn K (.ref f10) = true)
    (a11 : PySem.W.nsIn K mainGlobals "_law_low" = some (some (.ref f11)))
    (l11 : K.lookup f11 = some ⟨oc11, od11, .func (PySem.W.fnOf "_law_low" "_law_low" (defArgs sLow) (defBody sLow) (defScope sLow) (.none) kV11 dc11 pm11 an11 cd11 ct11), sl11⟩)
    (c11 : PySem.W.codeIn K cd11 "_law_low" = true)
    (k11 : PySem.W.keepIn K (.ref f11) = true)
    (a12 : PySem.W.nsIn K mainGlobals "_law_sum" = some (some (.ref f12)))
    (l12 : K.lookup f12 = some ⟨oc12, od12, .func (PySem.W.fnOf "_law_sum" "_law_sum" (defArgs sSum) (defBody sSum) (defScope sSum) (.none) kV12 dc12 pm12 an12 cd12 ct12), sl12⟩)
    (c12 : PySem.W.codeIn K cd12 "_law_sum" = true)
    (k12 : PySem.W.keepIn K (.ref f12) = true)
    (a13 : PySem.W.nsIn K mainGlobals "_law_product" = some (some (.ref f13)))
    (l13 : K.lookup f13 = some ⟨oc13, od13, .func (PySem.W.fnOf "_law_product" "_law_product" (defArgs sProd) (defBody sProd) (defScope sProd) (.none) kV13 dc13 pm13 an13 cd13 ct13), sl13⟩)
    (c13 : PySem.W.codeIn K cd13 "_law_product" = true)
    (k13 : PySem.W.keepIn K (.ref f13) = true)
    (a14 : PySem.W.nsIn K mainGlobals "_law_over" = some (some (.ref f14)))
    (l14 : K.lookup f14 = some ⟨oc14, od14, .func (PySem.W.fnOf "_law_over" "_law_over" (defArgs sOver) (defBody sOver) (defScope sOver) (.none) kV14 dc14 pm14 an14 cd14 ct14), sl14⟩)
    (c14 : PySem.W.codeIn K cd14 "_law_over" = true)
    (k14 : PySem.W.keepIn K (.ref f14) = true)
    (a15 : PySem.W.nsIn K mainGlobals "_law_a_part" = some (some (.ref f15)))
    (l15 : K.lookup f15 = some ⟨oc15, od15, .func (PySem.W.fnOf "_law_a_part" "_law_a_part" (defArgs sAp) (defBody sAp) (defScope sAp) (.none) kV15 dc15 pm15 an15 cd15 ct15), sl15⟩)
    (c15 : PySem.W.codeIn K cd15 "_law_a_part" = true)
    (k15 : PySem.W.keepIn K (.ref f15) = true)
    (a16 : PySem.W.nsIn K mainGlobals "law" = some (some (.ref f16)))
    (l16 : K.lookup f16 = some ⟨oc16, od16, .func (PySem.W.fnOf "law" "law" (defArgs sLaw) (defBody sLaw) (defScope sLaw) (.none) kV16 dc16 pm16 an16 cd16 ct16), sl16⟩)
    (c16 : PySem.W.codeIn K cd16 "law" = true)
    (k16 : PySem.W.keepIn K (.ref f16) = true)
    (z1 : PySem.W.nsIn K mainGlobals "isinstance" = some none)
    (z2 : PySem.W.nsIn K mainGlobals "list" = some none)
    (z3 : PySem.W.nsIn K mainGlobals "tuple" = some none)
    (z4 : PySem.W.nsIn K mainGlobals "len" = some none)
    (z5 : PySem.W.nsIn K mainGlobals "all" = some none)
    (z6 : PySem.W.nsIn K mainGlobals "range" = some none)
    (z7 : PySem.W.nsIn K mainGlobals "bool" = some none)
    (z8 : PySem.W.nsIn K mainGlobals "int" = some none)
    (z9 : PySem.W.nsIn K mainGlobals "str" = some none)
    (z10 : PySem.W.nsIn K mainGlobals "abs" = some none) :
    ∃ fd : FuncData, (∀ (s : Shared) (v : Value), BindsTo s fd ⟨[v], []⟩ [("_law_script", v)]) ∧ ∀ base : Heap, K.In base → base.Ns mainGlobals mg → FnOk l.prog w K mg base CX0 5 fa fd ["_law_script"] (spLaw K) := by
  have e := hfa.symm.trans (PySem.W.mg_of X G a16)
  cases e
  have B : Bi mg := ⟨PySem.W.mg_none_of X G z1, PySem.W.mg_none_of X G z2, PySem.W.mg_none_of X G z3, PySem.W.mg_none_of X G z4, PySem.W.mg_none_of X G z5, PySem.W.mg_none_of X G z6, PySem.W.mg_none_of X G z7, PySem.W.mg_none_of X G z8, PySem.W.mg_none_of X G z9, PySem.W.mg_none_of X G z10⟩

  have F1 := fun_mk (st := sGcd) l1 c1 k1
  have F2 : FunD K "part" "part" (defArgs sPart) (defBody sPart) (defScope sPart) [.int 1] [] f2 _ := ⟨⟨_, _, _, _, _, _, _, _, _, _, rfl, l2, c2, .inr ⟨by simp, _, _, [.int 1 tk2], _, rfl, t2, rfl, .cons ⟨_, rfl⟩ .nil⟩, .inl rfl⟩, k2⟩
  have F3 := fun_mk (st := sPlus) l3 c3 k3
  have F4 := fun_mk (st := sLess) l4 c4 k4
  have F5 := fun_mk (st := sTimes) l5 c5 k5
  have F6 := fun_mk (st := sBelow) l6 c6 k6
  have F7 := fun_mk (st := sDeal) l7 c7 k7
  have F8 := fun_mk (st := sPick) l8 c8 k8
  have F9 := fun_mk (st := sOf) l9 c9 k9
  have F10 := fun_mk (st := sLike) l10 c10 k10
  have F11 := fun_mk (st := sLow) l11 c11 k11
  have F12 := fun_mk (st := sSum) l12 c12 k12
  have F13 := fun_mk (st := sProd) l13 c13 k13
  have F14 := fun_mk (st := sOver) l14 c14 k14
  have F15 := fun_mk (st := sAp) l15 c15 k15
  have F16 := fun_mk (st := sLaw) l16 c16 k16
  have b1 := F1.binds (ps := ["one", "other"]) fun _ _ _ _ _ _ us hl => match us, hl with | [_, _], _ => rfl
  have b3 := F3.binds (ps := ["one", "other"]) fun _ _ _ _ _ _ us hl => match us, hl with | [_, _], _ => rfl
  have b4 := F4.binds (ps := ["one", "other"]) fun _ _ _ _ _ _ us hl => match us, hl with | [_, _], _ => rfl
  have b5 := F5.binds (ps := ["one", "other"]) fun _ _ _ _ _ _ us hl => match us, hl with | [_, _], _ => rfl
  have b6 := F6.binds (ps := ["one", "other"]) fun _ _ _ _ _ _ us hl => match us, hl with | [_, _], _ => rfl
  have b7 := F7.binds (ps := ["_law_script"]) fun _ _ _ _ _ _ us hl => match us, hl with | [_], _ => rfl
  have b8 := F8.binds (ps := ["_law_deal_here", "_law_many"]) fun _ _ _ _ _ _ us hl => match us, hl with | [_, _], _ => rfl
  have b9 := F9.binds (ps := ["_law_deal_here", "_law_some"]) fun _ _ _ _ _ _ us hl => match us, hl with | [_, _], _ => rfl
  have b10 := F10.binds (ps := ["_law_found", "_law_due"]) fun _ _ _ _ _ _ us hl => match us, hl with | [_, _], _ => rfl
  have b11 := F11.binds (ps := ["_law_over_here", "_law_under"]) fun _ _ _ _ _ _ us hl => match us, hl with | [_, _], _ => rfl
  have b12 := F12.binds (ps := ["_law_one_z", "_law_other_z"]) fun _ _ _ _ _ _ us hl => match us, hl with | [_, _], _ => rfl
  have b13 := F13.binds (ps := ["_law_one_z", "_law_other_z"]) fun _ _ _ _ _ _ us hl => match us, hl with | [_, _], _ => rfl
  have b14 := F14.binds (ps := ["_law_deal_here"]) fun _ _ _ _ _ _ us hl => match us, hl with | [_], _ => rfl
  have b15 := F15.binds (ps := ["_law_deal_here"]) fun _ _ _ _ _ _ us hl => match us, hl with | [_], _ => rfl
  have b2 : Binds K (PySem.W.fnOf "part" "part" (defArgs sPart) (defBody sPart) (defScope sPart) (.ref T2) kV2 dc2 pm2 an2 cd2 ct2) ["over", "under"] [] := by
    obtain ⟨ds, r, b⟩ := F2.binds1 (ps := ["over", "under"]) 2 1 (by simp) rfl (fun T kV doc pm an cdv ct us its hu hi => match us, its, hu, hi with | [_, _], [_], _, _ => ⟨_, rfl, rfl⟩)
    cases r
    exact b
  have g1 := PySem.W.mg_of X G a1
  have g2 := PySem.W.mg_of X G a2
  have g3 := PySem.W.mg_of X G a3
  have g4 := PySem.W.mg_of X G a4
  have g5 := PySem.W.mg_of X G a5
  have g6 := PySem.W.mg_of X G a6
  have g7 := PySem.W.mg_of X G a7
  have g8 := PySem.W.mg_of X G a8
  have g9 := PySem.W.mg_of X G a9
  have g10 := PySem.W.mg_of X G a10
  have g11 := PySem.W.mg_of X G a11
  have g12 := PySem.W.mg_of X G a12
  have g13 := PySem.W.mg_of X G a13
  have g14 := PySem.W.mg_of X G a14
  have g15 := PySem.W.mg_of X G a15
  refine ⟨PySem.W.fnOf "law" "law" (defArgs sLaw) (defBody sLaw) (defScope sLaw) .none kV16 dc16 pm16 an16 cd16 ct16, fun s v => .of_eq rfl, fun base _ _ => ?_⟩
  have P2' : FnOk l.prog w K mg base CX0 2 f2 _ ["over", "under"] spPart := ok_part (k := 0) F2 F1 b1 g1 B.abs
  have P3' : FnOk l.prog w K mg base CX0 3 f2 _ ["over", "under"] spPart := ok_part (k := 1) F2 F1 b1 g1 B.abs
  have L2' : FnOk l.prog w K mg base CX0 3 f4 _ ["one", "other"] (spBin K nLess) := ok_less F4 P2' k2 b2 g2
  have W3 : FnOk l.prog w K mg base CX0 3 f11 _ ["_law_over_here", "_law_under"] spLow := ok_low (k := 2) F11 B
  have K3 : FnOk l.prog w K mg base CX0 3 f8 _ ["_law_deal_here", "_law_many"] spPick := ok_pick (k := 2) F8 B.len
  have O3 : FnOk l.prog w K mg base CX0 3 f9 _ ["_law_deal_here", "_law_some"] (spOf K) := ok_of (k := 1) F9 F8 b8 g8 B
  have V3 : FnOk l.prog w K mg base CX0 3 f14 _ ["_law_deal_here"] spOver := ok_over (k := 0) F14 F8 b8 g8 F9 b9 g9 B
  exact ok_law (k := 4) F16 B (by decide) ⟨ok_deal (k := 3) F7 B.lst, k7, b7, g7⟩ ⟨ok_of (k := 2) F9 F8 b8 g8 B, k9, b9, g9⟩ ⟨ok_like F10 b10 g10 B 3, k10, b10, g10⟩ ⟨ok_sum F12 W3 k11 b11 g11, k12, b12, g12⟩ ⟨ok_prod F13 W3 k11 b11 g11, k13, b13, g13⟩
    ⟨ok_ap F15 K3 k8 b8 g8 O3 k9 b9 g9 V3 k14 b14 g14 W3 k11 b11 g11, k15, b15, g15⟩ ⟨ok_plus F3 P3' k2 b2 g2, k3, b3, g3⟩ ⟨ok_less F4 P3' k2 b2 g2, k4, b4, g4⟩ ⟨ok_times F5 P3' k2 b2 g2, k5, b5, g5⟩ ⟨ok_below F6 L2' k4 b4 g4, k6, b6, g6⟩
    (kb_of F3 fun _ _ _ _ _ _ _ _ => rfl) (kb_of F4 fun _ _ _ _ _ _ _ _ => rfl) (kb_of F5 fun _ _ _ _ _ _ _ _ => rfl) (kb_of F6 fun _ _ _ _ _ _ _ _ => rfl)
end Hl

set_option Elab.async false
set_option linter.all false
set_option maxRecDepth 100000
open PySem PySem.W PyProof.Rows
set_option maxHeartbeats 0 in
theorem PySem.Challenge.cw_heedless_k02_parts_reckoned_holds : PySem.Challenge.rw_heedless_k02_parts_reckoned.Holds := by
  w_on; o_law; k_head; (case hw => w_witness2)
  k_fill
  refine L2.walk_of (l := PySem.Challenge.rw_heedless_k02_parts_reckoned) (n := 63) (k := 5) (x := "_law_script") (CX := fun _ => L2.CX0) (sp := fun w => Hl.spLaw _) rfl (by decide) rfl ⟨rfl, by decide, by decide⟩ (fun w h Y => PySem.W.kIn_of Y) ?F (fun _ _ a ns hl _ hS => ⟨a, ns, rfl, hS, hl, fun _ => rfl⟩) (fun _ _ _ _ _ h => h)
  case F =>
    intro w mg fa h KX G hmg
    refine' Hl.all_mk KX G hmg ?a1 ?l1 ?c1 ?k1 ?a2 ?l2 ?c2 ?k2 ?t2 ?a3 ?l3 ?c3 ?k3 ?a4 ?l4 ?c4 ?k4 ?a5 ?l5 ?c5 ?k5 ?a6 ?l6 ?c6 ?k6 ?a7 ?l7 ?c7 ?k7 ?a8 ?l8 ?c8 ?k8 ?a9 ?l9 ?c9 ?k9 ?a10 ?l10 ?c10 ?k10 ?a11 ?l11 ?c11 ?k11 ?a12 ?l12 ?c12 ?k12 ?a13 ?l13 ?c13 ?k13 ?a14 ?l14 ?c14 ?k14 ?a15 ?l15 ?c15 ?k15 ?a16 ?l16 ?c16 ?k16 ?z1 ?z2 ?z3 ?z4 ?z5 ?z6 ?z7 ?z8 ?z9 ?z10
    (case a1 => k_is); (case l1 => k_is); (case c1 => k_is); (case k1 => k_is); (case a2 => k_is); (case l2 => k_is); (case c2 => k_is); (case k2 => k_is); (case t2 => k_is); (case a3 => k_is); (case l3 => k_is); (case c3 => k_is); (case k3 => k_is); (case a4 => k_is); (case l4 => k_is); (case c4 => k_is); (case k4 => k_is); (case a5 => k_is); (case l5 => k_is); (case c5 => k_is); (case k5 => k_is); (case a6 => k_is); (case l6 => k_is); (case c6 => k_is); (case k6 => k_is); (case a7 => k_is); (case l7 => k_is); (case c7 => k_is); (case k7 => k_is); (case a8 => k_is); (case l8 => k_is); (case c8 => k_is); (case k8 => k_is); (case a9 => k_is); (case l9 => k_is); (case c9 => k_is); (case k9 => k_is); (case a10 => k_is); (case l10 => k_is); (case c10 => k_is); (case k10 => k_is); (case a11 => k_is); (case l11 => k_is); (case c11 => k_is); (case k11 => k_is); (case a12 => k_is); (case l12 => k_is); (case c12 => k_is); (case k12 => k_is); (case a13 => k_is); (case l13 => k_is); (case c13 => k_is); (case k13 => k_is); (case a14 => k_is); (case l14 => k_is); (case c14 => k_is); (case k14 => k_is); (case a15 => k_is); (case l15 => k_is); (case c15 => k_is); (case k15 => k_is); (case a16 => k_is); (case l16 => k_is); (case c16 => k_is); (case k16 => k_is); (case z1 => k_is); (case z2 => k_is); (case z3 => k_is); (case z4 => k_is); (case z5 => k_is); (case z6 => k_is); (case z7 => k_is); (case z8 => k_is); (case z9 => k_is); (case z10 => k_is)

