import PyProof.Rows.All
import Wide.All
import OpenK.AllK
import Wide.FinOn
import HandS.ForMost
import HandS.Wide
import HandS.Style
import HandS.IsInst
import HandS.WideBits
import HandS.Walk
import HandS.Exc
import HandS.ExcInit
import HandS.Nested
import HandS.FStr
import KE.KExcSuper
import PyProof.ReprRoads
import PyProof.ReprLen
import HandS.ExcValue
import HandS.ExcField
import HandS.ExcIs
import KE.KExcIs
import HandS.Lambda
import HandS.WordsExc
import HandS.Defaults
import HandS.OwnEq
import PyProof.InstNe
import HandS.EndTab
import HandS.TupAny
import KE.OsRunLaw
import PySem.Challenge.RW_onebasis_k03_whole_rules_joined_and_clos
set_option Elab.async false
section
set_option linter.all false
namespace K
open PySem PySem.Spec PyProof.Rows L2
def top (i : Nat) : Stmt := PySem.Challenge.pw_onebasis_k03_whole_rules_joined_and_clos.main.body.getD i (.Pass ⟨0, 0, 0, 0⟩)
abbrev sIsNumber : Stmt := top 2
abbrev sIsFrom : Stmt := top 3
abbrev sIsList : Stmt := top 4
abbrev sIsPrime : Stmt := top 5
abbrev sIsFieldNumber : Stmt := top 6
abbrev sAreFieldNumbers : Stmt := top 7
abbrev sIsTable : Stmt := top 8
abbrev sBadNumber_init : Stmt := inClass (top 11) 0
abbrev sBadRule_init : Stmt := inClass (top 12) 0
abbrev sTooMany_init : Stmt := inClass (top 13) 0
abbrev sLegMask : Stmt := top 15
abbrev sSumsOf : Stmt := top 16
abbrev sLegSums : Stmt := top 17
abbrev sBehind : Stmt := top 18
abbrev sRule_init : Stmt := inClass (top 20) 0
abbrev sRule_eq : Stmt := inClass (top 20) 1
abbrev sWantRule : Stmt := top 21
abbrev sWantLeg : Stmt := top 22
abbrev sWantTwoLegs : Stmt := top 23
abbrev sRegrouped : Stmt := top 24
abbrev sTurned : Stmt := top 25
abbrev sBeside : Stmt := top 26
abbrev sClosed : Stmt := top 27
abbrev sJoined : Stmt := top 28
abbrev sRowsByBit : Stmt := top 29
abbrev sLBegun : Stmt := top 31
abbrev sLMixed : Stmt := top 32
abbrev sLTake : Stmt := top 33
abbrev sLPick : Stmt := top 34
abbrev sLCaught : Stmt := top 35
abbrev sLPrime : Stmt := top 36
abbrev sLNumbers : Stmt := top 37
abbrev sLBits : Stmt := top 38
abbrev sLNumber : Stmt := top 39
abbrev sLIsRule : Stmt := top 40
abbrev sLIsBad : Stmt := top 41
abbrev sLRefused : Stmt := top 42
abbrev sLaw : Stmt := top 43
end K
end
section
set_option linter.all false
set_option maxRecDepth 100000
set_option maxHeartbeats 4000000
namespace K
open PySem PySem.Spec PyProof.Rows L2
/-- the draws: what is left of a large number, the great ones, all numbers -/
structure DrawAt (H : Hp) (d l c : Addr) : Prop where
  ex : ∃ (rest turn : Int), 0 ≤ rest ∧ H d = some (.dK [(Sum.inr "large", .ref l), (Sum.inr "rest", .int rest), (Sum.inr "cells", .ref c), (Sum.inr "turn", .int turn)])
  large : ∃ ns : List Int, (∀ n ∈ ns, 0 ≤ n) ∧ ns.length ≤ 63 ∧ H l = some (.lst (ns.map V.int))
  cells : ∃ ns : List Int, (∀ n ∈ ns, 0 ≤ n) ∧ ns.length ≤ 63 ∧ H c = some (.lst (ns.map V.int))
  ne : l ≠ c
def spBegun (K : PySem.W.Frag) : Sp := fun vs H Q _ => ∃ (a : Addr) (ns : List Int), vs = [.ref a] ∧ SqL K H a (ns.map V.int) ∧ ns.length ≤ 63 ∧
  ∀ (d l c : Addr) (H' : Hp), Same H H' → DrawAt H' d l c → Q (.ref d) H'
section
variable {P : Program} {w : World} {K : PySem.W.Frag} {mg : Str → Option Value} {base : Heap}
theorem scB : FnScope ["script", "large", "grain"] ["script"] (defScope sLBegun) := ⟨rfl, rfl, rfl, by decide +kernel, rfl, by decide +kernel, by decide +kernel⟩
theorem int_at {ns : List Int} {i : Nat} {x : V} (h : (ns.map V.int)[i]? = some x) : ∃ z, x = V.int z ∧ z ∈ ns := by
  rw [List.getElem?_map] at h
  cases e : ns[i]? with
  | none =>
    rw [e] at h
    cases h
  | some z =>
    rw [e] at h
    exact ⟨z, (Option.some.inj h).symm, List.mem_of_getElem? e⟩
theorem ok_begun {f : Addr} {fd : FuncData} (F : Fun K "_law_begun" "_law_begun" sLBegun f fd) (hab : mg "abs" = none) : FnOk P w K mg base CX0 1 f fd ["script"] (spBegun K) := by
  refine F.ok scB (fun vs H Q E h => ?_) (fun cdv A outer s H vs Q E hr h => ?_)
  · obtain ⟨a, ns, rfl, _⟩ := h
    rfl
  · obtain ⟨a, ns, rfl, hS, hlen, k⟩ := h
    refine ⟨_, pss_cons (ps_setLc (i := 1) (own := [("grain", 2)]) (g := gName 2) rfl scB.nd rfl rfl (sw_true rfl rfl rfl (by decide +kernel)) (pi_list (pv 0)) (blkOk_by (N := ["script", "large", "grain"]) (sc := defScope sLBegun) (by decide +kernel)) (fun _ _ _ _ _ => pg_name (i := 2) scB.nd rfl (Or.inl rfl))
        (fun _ _ _ _ _ => pts_one (pt_cmpR op_ge (pe_callB call_abs (by rfl) hab (by decide +kernel) (pa_cons (pv 2) pa_nil)) (pe_op op_pow pe_int pe_int) (nomark _)))
        (fun _ _ _ _ _ => pe_op op_sub (pe_callB call_abs (by rfl) hab (by decide +kernel) (pa_cons (pv 2) pa_nil)) (pe_op op_pow pe_int pe_int)))
      (pss_one (ps_ret (pe_disp (pps_cons pe_str (pv 1) (pps_cons pe_str pe_int (pps_cons pe_str
        (pe_lc (own := [("grain", 2)]) (g := gName 2) (tt := tYes) rfl scB.nd (pi_list (pv 0)) (blkOk_by (N := ["script", "large", "grain"]) (sc := defScope sLBegun) (by decide +kernel)) (fun _ _ _ _ _ => pg_name (i := 2) scB.nd rfl (Or.inl rfl)) (fun _ _ _ _ _ => pts_nil)
          (fun _ _ _ _ _ => pe_callB call_abs (by rfl) hab (by decide +kernel) (pa_cons (pv 2) pa_nil))) (pps_cons pe_str pe_int pps_nil)))) rfl rfl (by simp) (by decide)))), ?_⟩
    -- large
    refine ⟨_, rfl, a, rfl, ⟨_, hS⟩, fun D hD => lc_list (K := K) (a := a) (xs := ns.map V.int) (fun i H2 => ∃ ms : List Int, (∀ m ∈ ms, 0 ≤ m) ∧ ms.length ≤ i ∧ H2 = upd H D (.lst (ms.map V.int)))
      ⟨[], by simp, Nat.le_refl _, rfl⟩ ?_ ?_ ?_⟩
    · rintro i H2 hi ⟨ms, _, _, rfl⟩
      exact Same.seq (fun b o e => by rw [upd_ne (ne_of_none e hD)]; exact e) hS
    · rintro i x H2 hx ⟨ms, hm, hl, rfl⟩
      obtain ⟨z, rfl, hz⟩ := int_at hx
      have hi := (List.getElem?_eq_some_iff.mp hx).1
      rw [List.length_map] at hi
      refine ⟨rfl, ?_⟩
      refine ⟨_, rfl, z, rfl, _, _, rfl, rfl, ⟨by decide, by decide, by decide⟩, _, _, rfl, rfl, _, rfl, ?_⟩
      refine ite2 (fun hb => ?_) (fun hb => ?_)
      · refine ⟨_, rfl, z, rfl, _, _, rfl, rfl, ⟨by decide, by decide, by decide⟩, _, _, rfl, rfl, ms.map V.int, upd_same, ?_, ms ++ [(if z < 0 then -z else z) - 10 ^ 18], ?_, ?_, ?_⟩
        · rw [List.length_map, sizeLine_eq]
          omega
        · intro m hm2
          rcases List.mem_append.mp hm2 with q | q
          · exact hm m q
          · rw [List.mem_singleton.mp q]
            have hb : (10 : Int) ^ (18 : Int).toNat ≤ (if z < 0 then -z else z) := of_decide_eq_true hb
            have e : (10 : Int) ^ (18 : Int).toNat = 10 ^ 18 := rfl
            omega
        · rw [List.length_append]
          simp only [List.length_singleton]
          omega
        · rw [upd_upd, List.map_append]
          rfl
      · exact ⟨ms, hm, Nat.le_succ_of_le hl, rfl⟩
    · rintro H2 ⟨ms, hm, hl, rfl⟩
      rw [List.length_map] at hl
      -- the dict
      refine fun d hd => ?_
      have hdD : d ≠ D := fun z => by
        rw [z, upd_same] at hd
        cases hd
      have hd0 : H d = none := by
        rw [upd_ne hdD] at hd
        exact hd
      let H1 : Hp := upd (upd H D (.lst (ms.map V.int))) d (.dK [])
      have s1 : Same H H1 := fun b o e => by
        show upd _ _ _ _ = _
        rw [upd_ne (ne_of_none e hd0), upd_ne (ne_of_none e hD)]
        exact e
      refine ⟨_, rfl, _, rfl, a, rfl, ⟨_, s1.seq hS⟩, fun c hc => lc_list (K := K) (a := a) (xs := ns.map V.int) (fun i H2 => ∃ ms : List Int, (∀ m ∈ ms, 0 ≤ m) ∧ ms.length ≤ i ∧ H2 = upd H1 c (.lst (ms.map V.int)))
        ⟨[], by simp, Nat.le_refl _, rfl⟩ ?_ ?_ ?_⟩
      · rintro i H2 hi ⟨ms, _, _, rfl⟩
        exact Same.seq (fun b o e => by rw [upd_ne (ne_of_none (s1 b o e) hc)]; exact s1 b o e) hS
      · rintro i x H2 hx ⟨ms2, hm2, hl2, rfl⟩
        obtain ⟨z, rfl, hz⟩ := int_at hx
        have hi := (List.getElem?_eq_some_iff.mp hx).1
        rw [List.length_map] at hi
        refine ⟨rfl, ?_⟩
        unfold tYes
        dsimp only
        rw [if_pos rfl]
        refine ⟨_, rfl, z, rfl, ms2.map V.int, upd_same, ?_, ms2 ++ [if z < 0 then -z else z], ?_, ?_, ?_⟩
        · rw [List.length_map, sizeLine_eq]
          omega
        · intro m hq
          rcases List.mem_append.mp hq with q | q
          · exact hm2 m q
          · rw [List.mem_singleton.mp q]
            split <;> omega
        · rw [List.length_append]
          simp only [List.length_singleton]
          omega
        · rw [upd_upd, List.map_append]
          rfl
      · rintro H2 ⟨ms2, hm2, hl2, rfl⟩
        rw [List.length_map] at hl2
        have hcd : c ≠ d := fun z => by
          have hc : H1 c = none := hc
          rw [z] at hc
          have : H1 d = some (.dK []) := upd_same
          rw [this] at hc
          cases hc
        have hcD : c ≠ D := fun z => by
          have hc : H1 c = none := hc
          rw [z] at hc
          have : H1 D = some (.lst (ms.map V.int)) := by
            show upd _ _ _ _ = _
            rw [upd_ne (Ne.symm hdD), upd_same]
          rw [this] at hc
          cases hc
        have hd2 : upd H1 c (.lst (ms2.map V.int)) d = some (.dK []) := by
          rw [upd_ne (Ne.symm hcd)]
          exact upd_same
        refine ⟨hd2, [(Sum.inr "large", .ref D), (Sum.inr "rest", .int 0), (Sum.inr "cells", .ref c), (Sum.inr "turn", .int 0)], rfl, (by show 4 ≤ 15; decide), ?_⟩
        refine k d D c _ (fun b o e => ?_) ⟨⟨0, 0, by decide, ?_⟩, ⟨ms, hm, by omega, ?_⟩, ⟨ms2, hm2, by omega, ?_⟩, Ne.symm hcD⟩
        · rw [upd_ne (ne_of_none e hd0), upd_ne (ne_of_none (s1 b o e) hc)]
          exact s1 b o e
        · rw [upd_same]
          congr 1
        · rw [upd_ne (Ne.symm hdD), upd_ne (Ne.symm hcD)]
          show upd _ _ _ _ = _
          rw [upd_ne (Ne.symm hdD), upd_same]
        · rw [upd_ne hcd, upd_same]
end
end K
end
section
set_option linter.all false
set_option maxRecDepth 100000
set_option maxHeartbeats 4000000
namespace K
open PySem PySem.Spec PyProof.Rows L2
/-- the dict of the draws -/
def dkv (l c : Addr) (rest turn : Int) : List (Key × V) := [(Sum.inr "large", .ref l), (Sum.inr "rest", .int rest), (Sum.inr "cells", .ref c), (Sum.inr "turn", .int turn)]
theorem dk_large (l c : Addr) (r t : Int) : valV (dkv l c r t) (Sum.inr "large") = some (.ref l) := rfl
theorem dk_rest (l c : Addr) (r t : Int) : valV (dkv l c r t) (Sum.inr "rest") = some (.int r) := rfl
theorem dk_cells (l c : Addr) (r t : Int) : valV (dkv l c r t) (Sum.inr "cells") = some (.ref c) := rfl
theorem dk_turn (l c : Addr) (r t : Int) : valV (dkv l c r t) (Sum.inr "turn") = some (.int t) := rfl
theorem dk_put_turn (l c : Addr) (r t z : Int) : putK (dkv l c r t) (Sum.inr "turn") (.int z) = dkv l c r z := rfl
theorem dk_put_rest (l c : Addr) (r t z : Int) : putK (dkv l c r t) (Sum.inr "rest") (.int z) = dkv l c z t := rfl
def spMixed : Sp := fun vs H Q _ => ∃ (d l c : Addr), vs = [.ref d] ∧ DrawAt H d l c ∧
  ∀ (r : Int) (H' : Hp), 0 ≤ r → DrawAt H' d l c → (∀ b o, H b = some o → b ≠ d → H' b = some o) → Q (.int r) H'
section
variable {P : Program} {w : World} {K : PySem.W.Frag} {mg : Str → Option Value} {base : Heap}
theorem scM : FnScope ["draw", "turn", "found", "great", "blend", "grain"] ["draw"] (defScope sLMixed) := ⟨rfl, rfl, rfl, by decide +kernel, rfl, by decide +kernel, by decide +kernel⟩
theorem ok_mixed {f : Addr} {fd : FuncData} (F : Fun K "_law_mixed" "_law_mixed" sLMixed f fd) (hint : mg "int" = none) : FnOk P w K mg base CX0 1 f fd ["draw"] spMixed := by
  refine F.ok scM (fun vs H Q E h => ?_) (fun cdv A outer s H vs Q E hr h => ?_)
  · obtain ⟨d, l, c, rfl, _⟩ := h
    rfl
  · obtain ⟨d, l, c, rfl, D, k⟩ := h
    have hu := hu_of hr
    refine ⟨_, pss_cons (ps_dput hu (pv 0) pe_str (pe_op op_add (pe_dget hu (pv 0) pe_str (fun _ _ => rfl)) pe_int) rfl)
      (pss_cons (ps_par (i := 1) (j := 2) rfl scM.nd rfl rfl (by decide) rfl rfl (pa_cons (pe_callTy call_int1 (by rfl) hint (by decide +kernel) (pa_cons (pe_dget hu (pv 0) pe_str (fun _ _ => rfl)) pa_nil)) (pa_cons pe_int pa_nil)) (by rfl))
      (pss_cons (ps_for PassesOwn.never rfl (pi_list (pe_lst (pa_cons pe_int (pa_cons pe_int (pa_cons pe_int pa_nil))))) (pg_name (i := 3) scM.nd rfl (Or.inl rfl))
        (pss_cons (ps_set (i := 4) scM.nd rfl (Or.inl rfl) (pe_op op_mod (pe_op op_add (pe_op op_mul (pv 1) pe_int) (pe_op op_fdiv (pv 3) pe_int)) (pv 3)))
        (pss_cons (ps_for PassesOwn.never rfl (pi_list (pe_dget hu (pv 0) pe_str (fun _ _ => rfl))) (pg_name (i := 5) scM.nd rfl (Or.inl rfl))
          (pss_one (ps_set (i := 4) scM.nd rfl (Or.inl rfl) (pe_op op_mod (pe_op op_add (pe_op op_mul (pv 4) pe_int) (pe_callTy call_int1 (by rfl) hint (by decide +kernel) (pa_cons (pv 5) pa_nil))) (pv 3)))))
        (pss_one (ps_set (i := 2) scM.nd rfl (Or.inl rfl) (pe_op op_add (pe_op op_mul (pv 2) pe_int) (pe_op op_mod (pe_op op_pow (pv 4) pe_int) (pv 3))))))))
      (pss_one (ps_ret (pv 2))))), ?_⟩
    obtain ⟨⟨rest, turn, h0, hd⟩, hl, ⟨cs, hcs, hcl, hcc⟩, ne⟩ := id D
    have hd : H d = some (.dK (dkv l c rest turn)) := hd
    have hz : (dkv l c rest turn).length < sizeLine := by show 4 < sizeLine; decide
    have ncd : c ≠ d := ne_of hcc hd (by intro z; cases z)
    let H1 : Hp := upd H d (.dK (dkv l c rest (turn + 1)))
    have hd1 : H1 d = some (.dK (dkv l c rest (turn + 1))) := upd_same
    refine ⟨_, rfl, d, _, rfl, DGet.k (k := Sum.inr "turn") hd, _, _, rfl, rfl, _, rfl, d, H1, rfl, DPut.k (k := Sum.inr "turn") hd hz, ?_⟩
    refine ⟨_, rfl, d, _, rfl, DGet.k (k := Sum.inr "turn") hd1, .inl ⟨_, rfl, _, _, rfl, ?_⟩⟩
    refine ⟨by show 3 ≤ sizeLine; decide, fun p hp => ?_⟩
    let H3 : Hp := upd H1 p (.lst [.int 2147483629, .int 2147483587, .int 2147483579])
    have npd : d ≠ p := ne_of_none hd1 hp
    have hd3 : H3 d = some (.dK (dkv l c rest (turn + 1))) := (upd_ne npd).trans hd1
    have hc1 : H1 c = some (.lst (cs.map V.int)) := (upd_ne ncd).trans hcc
    have hc3 : H3 c = some (.lst (cs.map V.int)) := (upd_ne (ne_of_none hc1 hp)).trans hc1
    have hp3 : H3 p = some (.lst [.int 2147483629, .int 2147483587, .int 2147483579]) := upd_same
    refine ⟨p, rfl, ⟨_, SqL.of hp3⟩, for_list (K := K) (a := p) (xs := [.int 2147483629, .int 2147483587, .int 2147483579]) (fun i σ H2 => ∃ (fo : Int) (v3 v4 v5 : Option V), σ = [some (.ref d), some (.int (turn + 1)), some (.int fo), v3, v4, v5] ∧ 0 ≤ fo ∧ H2 = H3)
      ⟨0, none, none, none, rfl, by decide, rfl⟩ ?_ ?_ ?_⟩
    · rintro i σ H2 _ ⟨_, _, _, _, _, _, rfl⟩
      exact SqL.of hp3
    · rintro i x σ H2 hx ⟨fo, v3, v4, v5, rfl, hfo, rfl⟩
      obtain ⟨g, rfl, hg0, hg1⟩ : ∃ g : Int, x = V.int g ∧ 0 < g ∧ g < 2147483648 := by
        rcases i with _ | _ | _ | i
        · exact ⟨_, (Option.some.inj hx).symm, by decide, by decide⟩
        · exact ⟨_, (Option.some.inj hx).symm, by decide, by decide⟩
        · exact ⟨_, (Option.some.inj hx).symm, by decide, by decide⟩
        · cases hx
      refine ⟨_, rfl, _, _, rfl, rfl, .inr ⟨by decide, by decide⟩, _, rfl, _, _, rfl, rfl, ⟨by decide, by decide⟩, _, _, rfl, rfl, _, rfl, _, _, rfl, rfl, hg0, ?_⟩
      refine ⟨_, rfl, d, _, rfl, DGet.k (k := Sum.inr "cells") hd3, c, rfl, ⟨_, SqL.of hc3⟩, for_list (K := K) (a := c) (xs := cs.map V.int) (fun i σ H2 => ∃ (bl : Int) (v5 : Option V), σ = [some (.ref d), some (.int (turn + 1)), some (.int fo), some (.int g), some (.int bl), v5] ∧ 0 ≤ bl ∧ bl < g ∧ H2 = H3)
        ⟨_, v5, rfl, Int.emod_nonneg _ (by omega), Int.emod_lt_of_pos _ hg0, rfl⟩ ?_ ?_ ?_⟩
      · rintro i σ H2 _ ⟨_, _, _, _, _, rfl⟩
        exact SqL.of hc3
      · rintro j y σ H2 hy ⟨bl, v5, rfl, hb0, hb1, rfl⟩
        obtain ⟨z, rfl, hzc⟩ := int_at hy
        refine ⟨_, rfl, _, _, rfl, rfl, .inr ⟨by decide, by decide⟩, _, rfl, .inl ⟨_, rfl, _, _, rfl, rfl, _, rfl, _, _, rfl, rfl, hg0, ?_⟩⟩
        exact ⟨_, _, rfl, Int.emod_nonneg _ (by omega), Int.emod_lt_of_pos _ hg0, rfl⟩
      · rintro σ H2 ⟨bl, v5, rfl, hb0, hb1, rfl⟩
        refine ⟨_, rfl, _, _, rfl, rfl, .inr ⟨by decide, by decide⟩, _, rfl, _, _, rfl, rfl, ⟨by decide, by decide, by omega⟩, _, rfl, _, _, rfl, rfl, hg0, _, _, rfl, rfl, ?_⟩
        refine ⟨_, _, _, _, rfl, ?_, rfl⟩
        have h1 : 0 ≤ bl ^ (5 : Int).toNat % g := Int.emod_nonneg _ (by omega)
        omega
    · rintro σ H2 ⟨fo, v3, v4, v5, rfl, hfo, rfl⟩
      refine ⟨_, rfl, k fo H3 hfo ⟨⟨rest, turn + 1, h0, hd3⟩, ?_, ⟨cs, hcs, hcl, hc3⟩, ne⟩ fun b o e hb => ?_⟩
      · obtain ⟨ns, a1, a2, a3⟩ := hl
        have nld : l ≠ d := ne_of a3 hd (by intro z; cases z)
        have hl1 : H1 l = some (.lst (ns.map V.int)) := (upd_ne nld).trans a3
        exact ⟨ns, a1, a2, (upd_ne (ne_of_none hl1 hp)).trans hl1⟩
      · have e1 : H1 b = some o := (upd_ne hb).trans e
        exact (upd_ne (ne_of_none e1 hp)).trans e1
end
end K
end
section
set_option linter.all false
set_option maxRecDepth 100000
set_option maxHeartbeats 4000000
namespace K
open PySem PySem.Spec PyProof.Rows L2
def spTake : Sp := fun vs H Q _ => ∃ (d l c : Addr) (n : Int), vs = [.ref d, .int n] ∧ DrawAt H d l c ∧ 0 < n ∧ n < 1073741824 ∧
  ∀ (r : Int) (H' : Hp), 0 ≤ r → r < n → DrawAt H' d l c → (∀ b o, H b = some o → b ≠ d → b ≠ l → H' b = some o) → Q (.int r) H'
theorem dp_ints {K : PySem.W.Frag} {H : Hp} : ∀ ns : List Int, DpAll K H (ns.map V.int) (ns.map PyData.int)
  | [] => .nil
  | n :: ns => .cons (.int n) (dp_ints ns)
theorem ints_lay : ∀ ns : List Int, PyData.canLay0 (.list (ns.map PyData.int)) = true ∧ (PyData.list (ns.map PyData.int)).depth ≤ 1
  | [] => ⟨by simp [PyData.canLay0, PyData.canLayAll0], by simp [PyData.depth, PyData.depthAll]⟩
  | n :: ns => by
    obtain ⟨h1, h2⟩ := ints_lay ns
    simp only [List.map_cons, PyData.canLay0, PyData.canLayAll0, PyData.depth, PyData.depthAll] at h1 h2 ⊢
    refine ⟨by simp [h1], by omega⟩
theorem ints_shaped (ns : List Int) : SeqAt.shaped (.list (ns.map PyData.int)) = true := by
  unfold SeqAt.shaped
  rw [(ints_lay ns).1, Bool.true_and]
  exact decide_eq_true (Nat.le_trans (ints_lay ns).2 (by decide))
section
variable {P : Program} {w : World} {K : PySem.W.Frag} {mg : Str → Option Value} {base : Heap}
theorem scT : FnScope ["draw", "amount", "found"] ["draw", "amount"] (defScope sLTake) := ⟨rfl, rfl, rfl, by decide +kernel, rfl, by decide +kernel, by decide +kernel⟩
theorem ok_take {f fM : Addr} {fd fdM : FuncData} (F : Fun K "_law_take" "_law_take" sLTake f fd) (FM : Fun K "_law_mixed" "_law_mixed" sLMixed fM fdM) (bM : Binds K fdM ["draw"] []) (gM : mg "_law_mixed" = some (.ref fM)) (hint : mg "int" = none) :
    FnOk P w K mg base CX0 2 f fd ["draw", "amount"] spTake := by
  have GM : FnOk P w K mg base CX0 1 fM fdM ["draw"] spMixed := ok_mixed FM hint
  refine F.ok scT (fun vs H Q E h => ?_) (fun cdv A outer s H vs Q E hr h => ?_)
  · obtain ⟨d, l, c, n, rfl, _⟩ := h
    rfl
  · obtain ⟨d, l, c, n, rfl, D, hn0, hn1, k⟩ := h
    have hu := hu_of hr
    have hu64 : (A.deeper (envOfC "_law_take" (defScope sLTake) s.heap.objs.size f cdv)).units + 64 < cLine := hr.units
    refine ⟨_, pss_cons (ps_if (pt_cmpR op_eq (pe_dget hu (pv 0) pe_str (fun _ _ => rfl)) pe_int (nomark _))
        (pss_one (ps_dput hu (pv 0) pe_str (pe_ifExp (pt_cmpR (op_neD hu64) (pe_dget hu (pv 0) pe_str (fun _ _ => rfl)) (pe_lst pa_nil) (nomark _))
          (pe_bm PySem.F.plainAttrs_list PySem.F.slot_list_pop PySem.F.type_list_pop mt_popAt (pe_dget hu (pv 0) pe_str (fun _ _ => rfl)) (pa_cons pe_int pa_nil))
          (pe_call GM hr rfl gM FM.kp bM .nil pass0 (pa_cons (pv 0) pa_nil))) rfl)) pss_nil)
      (pss_cons (ps_set (i := 2) scT.nd rfl (Or.inl rfl) (pe_op op_mod (pe_callTy call_int1 (by rfl) hint (by decide +kernel) (pa_cons (pe_dget hu (pv 0) pe_str (fun _ _ => rfl)) pa_nil)) (pv 1)))
      (pss_cons (ps_dput hu (pv 0) pe_str (pe_op op_fdiv (pe_callTy call_int1 (by rfl) hint (by decide +kernel) (pa_cons (pe_dget hu (pv 0) pe_str (fun _ _ => rfl)) pa_nil)) (pv 1)) rfl)
      (pss_one (ps_ret (pv 2))))), ?_⟩
    -- the second half, from a state with a rest
    have half : ∀ (H2 : Hp), DrawAt H2 d l c → (∀ b o, H b = some o → b ≠ d → b ≠ l → H2 b = some o) →
        tSeq (tAsg (tOp (rI (fun x j => 0 < j) fun i j => V.int (i % j)) (tCB (fun xs H Q => (∃ i, xs = [V.int i] ∧ Q (V.int i) H) ∨ ∃ k, xs = [V.bl k] ∧ Q (V.int (if k = true then 1 else 0)) H) (tCons (tDGet (tVar 0) (tC (V.str "rest"))) tNil)) (tVar 1)) (gName 2))
          (tSeq (sDPut (tVar 0) (tC (V.str "rest")) (tOp (rI CDiv fun i j => V.int (i / j)) (tCB (fun xs H Q => (∃ i, xs = [V.int i] ∧ Q (V.int i) H) ∨ ∃ k, xs = [V.bl k] ∧ Q (V.int (if k = true then 1 else 0)) H) (tCons (tDGet (tVar 0) (tC (V.str "rest"))) tNil)) (tVar 1)))
            (tRet (tVar 2))) { nx := fun _ H' => Q .non H', rt := Q } [some (.ref d), some (.int n), none] H2 := by
      intro H2 D2 kp
      obtain ⟨⟨rest, turn, h0, hd⟩, hl, hc, ne⟩ := id D2
      have hd : H2 d = some (.dK (dkv l c rest turn)) := hd
      have hz : (dkv l c rest turn).length < sizeLine := by show 4 < sizeLine; decide
      refine ⟨_, rfl, d, _, rfl, DGet.k (k := Sum.inr "rest") hd, .inl ⟨_, rfl, _, rfl, _, _, rfl, rfl, hn0, ?_⟩⟩
      refine ⟨_, rfl, d, _, rfl, DGet.k (k := Sum.inr "rest") hd, .inl ⟨_, rfl, _, rfl, _, _, rfl, rfl, ⟨hn0, hn1⟩, _, rfl, d, upd H2 d (.dK (dkv l c (rest / n) turn)), rfl, DPut.k (k := Sum.inr "rest") hd hz, ?_⟩⟩
      refine ⟨_, rfl, k (rest % n) _ (Int.emod_nonneg _ (by omega)) (Int.emod_lt_of_pos _ hn0) ⟨⟨rest / n, turn, Int.ediv_nonneg h0 (by omega), upd_same⟩, ?_, ?_, ne⟩ fun b o e h1 h2 => ?_⟩
      · obtain ⟨ns, a1, a2, a3⟩ := hl
        exact ⟨ns, a1, a2, (upd_ne (ne_of a3 hd (by intro z; cases z))).trans a3⟩
      · obtain ⟨ns, a1, a2, a3⟩ := hc
        exact ⟨ns, a1, a2, (upd_ne (ne_of a3 hd (by intro z; cases z))).trans a3⟩
      · exact (upd_ne h1).trans (kp b o e h1 h2)
    obtain ⟨⟨rest, turn, h0, hd⟩, ⟨ns, n1, n2, hl⟩, hc, ne⟩ := id D
    have hd : H d = some (.dK (dkv l c rest turn)) := hd
    have hz : (dkv l c rest turn).length < sizeLine := by show 4 < sizeLine; decide
    refine ⟨_, rfl, d, _, rfl, DGet.k (k := Sum.inr "rest") hd, rfl, _, rfl, ?_⟩
    refine ite2 (fun hb => ?_) (fun hb => ?_)
    · refine ⟨_, rfl, d, _, rfl, DGet.k (k := Sum.inr "large") hd, by show 0 ≤ sizeLine; decide, fun p hp => ?_⟩
      have npl : l ≠ p := ne_of_none hl hp
      have npd : d ≠ p := ne_of_none hd hp
      obtain ⟨cs, c1, c2, hcc⟩ := id hc
      have npc : c ≠ p := ne_of_none hcc hp
      let H1 : Hp := upd H p (.lst [])
      have hl1 : H1 l = some (.lst (ns.map V.int)) := (upd_ne npl).trans hl
      have hd1 : H1 d = some (.dK (dkv l c rest turn)) := (upd_ne npd).trans hd
      have hc1 : H1 c = some (.lst (cs.map V.int)) := (upd_ne npc).trans hcc
      have k1 : ∀ b o, H b = some o → H1 b = some o := fun b o e => (upd_ne (ne_of_none e hp)).trans e
      have D1 : DrawAt H1 d l c := ⟨⟨rest, turn, h0, hd1⟩, ⟨ns, n1, n2, hl1⟩, ⟨cs, c1, c2, hc1⟩, ne⟩
      have nld : l ≠ d := ne_of hl hd (by intro z; cases z)
      have ncd : c ≠ d := ne_of hcc hd (by intro z; cases z)
      cases ns with
      | nil =>
        refine ⟨.list [], .list [], .lst (SqL.of hl1) .nil, .lst (SqL.of upd_same) .nil, by decide +kernel, by decide +kernel, _, rfl, ?_⟩
        show (if (false : Bool) = true then _ else _)
        refine iteF ?_
        refine ⟨_, rfl, d, l, c, rfl, D1, fun r H2 hr0 D2 kp => ?_⟩
        obtain ⟨⟨rest2, turn2, _, hd2⟩, ⟨ns2, m1, m2, hl2⟩, ⟨cs2, e1, e2, hc2⟩, _⟩ := id D2
        have hd2 : H2 d = some (.dK (dkv l c rest2 turn2)) := hd2
        refine ⟨_, rfl, d, _, rfl, DPut.k (k := Sum.inr "rest") hd2 hz, half _ ⟨⟨r, turn2, hr0, upd_same⟩, ⟨ns2, m1, m2, (upd_ne nld).trans hl2⟩, ⟨cs2, e1, e2, (upd_ne ncd).trans hc2⟩, ne⟩ fun b o e h1 h2 => ?_⟩
        exact (upd_ne h1).trans (kp b o (k1 b o e) h1)
      | cons m ns =>
        refine ⟨.list ((m :: ns).map PyData.int), .list [], .lst (SqL.of hl1) (dp_ints _), .lst (SqL.of upd_same) .nil, ints_shaped _, by decide +kernel, _, rfl, ?_⟩
        have e : (!PyData.eqv (.list ((m :: ns).map PyData.int)) (.list [])) = true := by simp [PyData.eqv, PyData.eqvAll]
        rw [e]
        refine iteT ?_
        refine ⟨_, rfl, d, _, rfl, DGet.k (k := Sum.inr "large") hd1, .inl ⟨rfl, _, .inl (.inl hl1)⟩, l, _, 0, 0, .int m, rfl, rfl, hl1, by decide, by decide, by simp [seqIndex?], rfl, ?_⟩
        have hd2 : upd H1 l (.lst (((m :: ns).map V.int).eraseIdx 0)) d = some (.dK (dkv l c rest turn)) := (upd_ne (Ne.symm nld)).trans hd1
        refine ⟨_, rfl, d, _, rfl, DPut.k (k := Sum.inr "rest") hd2 hz, half _ ⟨⟨m, turn, n1 m (by simp), upd_same⟩, ⟨ns, fun q hq => n1 q (by simp [hq]), by simp only [List.length_cons] at n2; omega, ?_⟩, ⟨cs, c1, c2, ?_⟩, ne⟩ fun b o e h1 h2 => ?_⟩
        · rw [upd_ne nld, upd_same]
          rfl
        · rw [upd_ne ncd, upd_ne (Ne.symm ne)]
          exact hc1
        · rw [upd_ne h1, upd_ne h2]
          exact k1 b o e
    · exact half H D fun b o e _ _ => e
end
end K
end
section
set_option linter.all false
set_option maxRecDepth 100000
set_option maxHeartbeats 4000000
namespace K
open PySem PySem.Spec PyProof.Rows L2
/-- the frame of a draw: all but the draws' own two objects stands -/
def Kept (H H' : Hp) (d l : Addr) : Prop := ∀ b o, H b = some o → b ≠ d → b ≠ l → H' b = some o
def spPick : Sp := fun vs H Q _ => ∃ (d l c q : Addr) (xs : List V), vs = [.ref d, .ref q] ∧ DrawAt H d l c ∧ H q = some (.lst xs) ∧ q ≠ l ∧ 0 < xs.length ∧ xs.length < 1000 ∧
  ∀ (i : Nat) (v : V) (H' : Hp), xs[i]? = some v → DrawAt H' d l c → Kept H H' d l → Q v H'
section
variable {P : Program} {w : World} {K : PySem.W.Frag} {mg : Str → Option Value} {base : Heap}
theorem scP : FnScope ["draw", "some"] ["draw", "some"] (defScope sLPick) := ⟨rfl, rfl, rfl, by decide +kernel, rfl, by decide +kernel, by decide +kernel⟩
theorem ok_pick {f fT : Addr} {fd fdT : FuncData} (F : Fun K "_law_pick" "_law_pick" sLPick f fd) (FT : Fun K "_law_take" "_law_take" sLTake fT fdT) (GT : FnOk P w K mg base CX0 2 fT fdT ["draw", "amount"] spTake) (bT : Binds K fdT ["draw", "amount"] []) (gT : mg "_law_take" = some (.ref fT)) (hlen : mg "len" = none) :
    FnOk P w K mg base CX0 3 f fd ["draw", "some"] spPick := by
  refine F.ok scP (fun vs H Q E h => ?_) (fun cdv A outer s H vs Q E hr h => ?_)
  · obtain ⟨d, l, c, q, xs, rfl, _⟩ := h
    rfl
  · obtain ⟨d, l, c, q, xs, rfl, D, hq, nql, hx0, hx1, k⟩ := h
    refine ⟨_, pss_one (ps_ret (pe_ix ix_list (pv 1) (pe_call GT hr rfl gT FT.kp bT .nil pass0 (pa_cons (pv 0) (pa_cons (pe_callB call_len_seq (by rfl) hlen PySem.boot_len (pa_cons (pv 1) pa_nil)) pa_nil))) (fun _ _ => rfl))), ?_⟩
    obtain ⟨⟨rest, turn, h0, hd⟩, hl, hc, ne⟩ := id D
    have nqd : q ≠ d := ne_of hq hd (by intro z; cases z)
    refine ⟨_, rfl, _, rfl, _, rfl, q, _, rfl, .inl (SqL.of hq), d, l, c, _, rfl, D, by omega, by omega, fun r H' h1 h2 D' kp => ?_⟩
    obtain ⟨i, rfl⟩ : ∃ i : Nat, r = i := ⟨r.toNat, by omega⟩
    have hi : i < xs.length := by omega
    refine ⟨q, _, _, xs[i], rfl, rfl, SqL.of (kp q _ hq nqd nql), atI_nat (by simp [hi]), ?_⟩
    exact k i _ H' (by simp [hi]) D' kp
end
end K
end
section
set_option linter.all false
set_option maxRecDepth 100000
set_option maxHeartbeats 4000000
/-! all(xs), xs a list of whole numbers -/
namespace Ob
open PySem PySem.Spec PyProof.Rows L2
theorem truth_nums {P : Program} {w : World} {A : Around} {ns : List Int} {its : List Value} (rv : Vals (ns.map V.int) its) : TruthOf P w A (fun i v => its.toArray[i]? = some v) (fun i => ns.getD i 0 != 0) := fun i v s Q E hv hq => by
  have hv : its[i]? = some v := by simpa using hv
  have hi : i < ns.length := by
    have := (List.getElem?_eq_some_iff.mp hv).1
    rw [← rv.length, List.length_map] at this
    exact this
  obtain ⟨u, e1, e2⟩ := rv.get (i := i) (x := .int ns[i]) (by rw [List.getElem?_map, List.getElem?_eq_getElem hi] <;> rfl)
  rw [hv] at e1
  obtain rfl := Option.some.inj e1
  obtain ⟨t, rfl⟩ := e2
  have hg : ns.getD i 0 = ns[i] := by rw [List.getD_eq_getElem?_getD, List.getElem?_eq_getElem hi] <;> rfl
  have hq : Q (ns.getD i 0 != 0) s := hq
  rw [hg] at hq
  exact PySem.P.truthy_int hq
theorem all_nums : ∀ ns : List Int, (List.range ns.length).all (fun i => ns.getD i 0 != 0) = ns.all (· != 0)
  | [] => rfl
  | n :: ns => by
    have ih := all_nums ns
    rw [List.length_cons, List.range_succ_eq_map, List.all_cons, List.all_map, List.all_cons, ← ih]
    rfl
def rAllI (K : PySem.W.Frag) : List V → Hp → VK → Prop := fun vs H Q => ∃ (a : Addr) (ns : List Int), vs = [V.ref a] ∧ SqL K H a (ns.map V.int) ∧ Q (.bl (ns.all (· != 0))) H
theorem cr_allI {X : Cx} (hc : X.calm = true) : CallR X (.builtin "all") (rAllI X.K) := by
  intro pins s σ H vs us Q I r h
  obtain ⟨a, ns, rfl, hs, q⟩ := h
  obtain ⟨its, rv, hl, _⟩ := I.list hs
  rw [Vals.ref1 r]
  refine call_all_walk (iter_any hl.isList fun s₂ e2 st hne => ?_)
  subst e2
  refine ⟨_, _, _, _, _, _, _, rfl, Walks.list (A := X.A.in1) (I.ok.hd hc) _ a hne its.toArray, st, truth_nums rv, fun h' tk hk => ⟨.bl (ns.all (· != 0)), H, I.kept fun b o eo => hk b o (fun m => ?_) (Heap.get?_push_of_some _ eo), ?_, q⟩⟩
  · have e1 : b = s.heap.objs.size := by simpa using m
    exact Nat.lt_irrefl _ (e1 ▸ Heap.lt_size eo)
  · have hsz : its.toArray.size = ns.length := by rw [List.size_toArray, ← rv.length, List.length_map]
    show Value.bool _ = Value.bool _
    rw [hsz, all_nums]
end Ob
end
section
set_option linter.all false
set_option maxRecDepth 100000
set_option maxHeartbeats 4000000
/-! values that a check may get: a whole number, or something else -/
namespace Ob
open PySem PySem.Spec PyProof.Rows L2
def oddKinds : List String := ["bool", "str", "NoneType", "list", "tuple", "dict"]
inductive Thing (K : PySem.W.Frag) (H : Hp) : V → Option Int → Prop
  | num (i : Int) : Thing K H (.int i) (some i)
  | odd {x : V} {t : String} (h : TyX K H x (.type t)) (k : t ∈ oddKinds) : Thing K H x none
section
variable {K : PySem.W.Frag} {H H' : Hp}
theorem tyof_same (s : ∀ b o, H b = some o → H' b = some o) {x : V} {t : Value} (h : TyOf K H x t) : TyOf K H' x t := by
  cases h with
  | non => exact .non
  | bl b => exact .bl b
  | int i => exact .int i
  | str x => exact .str x
  | flt x => exact .flt x
  | lst e => exact .lst (s _ _ e)
  | frz e => exact .frz (s _ _ e)
  | tup e => exact .tup (s _ _ e)
  | dK e => exact .dK (s _ _ e)
  | dT e => exact .dT (s _ _ e)
  | ins e a b c d f => exact .ins (s _ _ e) a b c d f
theorem tyx_same (s : ∀ b o, H b = some o → H' b = some o) {x : V} {t : Value} (h : TyX K H x t) : TyX K H' x t := by
  cases h with
  | base b => exact .base (tyof_same s b)
  | byt b => exact .byt b
  | set e => exact .set (s _ _ e)
  | kList e c => exact .kList e c
  | kTuple e c => exact .kTuple e c
  | kDict e c => exact .kDict e c
  | fTuple e => exact .fTuple (s _ _ e)
  | fDict e => exact .fDict (s _ _ e)
theorem thing_same (s : ∀ b o, H b = some o → H' b = some o) {x : V} {r : Option Int} (h : Thing K H x r) : Thing K H' x r := by
  cases h with
  | num i => exact .num i
  | odd h k => exact .odd (tyx_same s h) k
theorem thing_non : Thing K H .non none := .odd (.base .non) (by decide)
theorem thing_bl {b : Bool} : Thing K H (.bl b) none := .odd (.base (.bl b)) (by decide)
theorem thing_str {x : Str} : Thing K H (.str x) none := .odd (.base (.str x)) (by decide)
theorem kit_odd : ∀ t ∈ oddKinds, ∃ a b, kitB t "int" = some a ∧ kitB t "bool" = some b ∧ (a && !b) = false := by
  have e : oddKinds.all (fun t => match kitB t "int", kitB t "bool" with | some a, some b => (a && !b) == false | _, _ => false) = true := by decide +kernel
  intro t ht
  have q := List.all_eq_true.mp e t ht
  revert q
  cases h1 : kitB t "int" with
  | none =>
    intro q
    cases kitB t "bool" <;> cases q
  | some a =>
    cases h2 : kitB t "bool" with
    | none =>
      intro q
      cases q
    | some b =>
      intro q
      exact ⟨a, b, rfl, rfl, beq_iff_eq.mp q⟩
theorem new_same {H : Hp} {p : Addr} {o : HO} (h : H p = none) : ∀ b u, H b = some u → upd H p o b = some u := fun b u e => by
  rw [upd_ne (ne_of_none e h)]
  exact e
def within (r : Option Int) (lo hi : Int) : Bool := r.any fun i => decide (lo ≤ i) && decide (i ≤ hi)
theorem kit_list : ∀ t ∈ "int" :: oddKinds, ∃ a b, kitB t "list" = some a ∧ kitB t "tuple" = some b ∧ (a || b) = (t == "list" || t == "tuple") := by
  have e : ("int" :: oddKinds).all (fun t => match kitB t "list", kitB t "tuple" with | some a, some b => (a || b) == (t == "list" || t == "tuple") | _, _ => false) = true := by decide +kernel
  intro t ht
  have q := List.all_eq_true.mp e t ht
  revert q
  cases h1 : kitB t "list" with
  | none =>
    intro q
    cases kitB t "tuple" <;> cases q
  | some a =>
    cases h2 : kitB t "tuple" with
    | none =>
      intro q
      cases q
    | some b =>
      intro q
      exact ⟨a, b, rfl, rfl, beq_iff_eq.mp q⟩
theorem kitAny2 {t : String} {a b : Bool} (h1 : kitB t "list" = some a) (h2 : kitB t "tuple" = some b) : PySem.W.kitAny K (.type t) [.type "list", .type "tuple"] = some (a || b) := by
  refine kitAny_cons (kit_ty h1) (fun z => ?_) fun z => by rw [z]; rfl
  refine kitAny_cons (kit_ty h2) (fun y => ?_) fun y => by rw [y, z]; rfl
  rw [z, y]
  rfl
/-- the rests of a number by 2 to 9 where these are less -/
def rests (i : Int) (n : Nat) : List Int := (((List.range n).map fun (k : Nat) => (2 : Int) + (k : Int)).filter fun k => decide (k < i)).map fun k => i.fmod k
def primeB (i : Int) : Bool := within (some i) 3 97 && (rests i 8).all (· != 0)
theorem rests_len (i : Int) (n : Nat) : (rests i n).length ≤ n := by
  unfold rests
  rw [List.length_map]
  exact Nat.le_trans (List.length_filter_le _ _) (by simp)
theorem rests_yes {i : Int} {n : Nat} (h : (2 : Int) + n < i) : rests i (n + 1) = rests i n ++ [i.fmod (2 + n)] := by
  unfold rests
  rw [List.range_succ, List.map_append, List.filter_append, List.map_append]
  simp [h]
theorem rests_no {i : Int} {n : Nat} (h : ¬(2 : Int) + n < i) : rests i (n + 1) = rests i n := by
  unfold rests
  rw [List.range_succ, List.map_append, List.filter_append, List.map_append]
  simp [h]
/-- item by item -/
def Things (K : PySem.W.Frag) (H : Hp) (xs : List V) (rs : List (Option Int)) : Prop := xs.length = rs.length ∧ ∀ (i : Nat) (x : V) (r : Option Int), xs[i]? = some x → rs[i]? = some r → Thing K H x r
theorem things_same (s : ∀ b o, H b = some o → H' b = some o) {xs : List V} {rs : List (Option Int)} (h : Things K H xs rs) : Things K H' xs rs := ⟨h.1, fun i x r a b => thing_same s (h.2 i x r a b)⟩
theorem things_ints (ns : List Int) : Things K H (ns.map V.int) (ns.map some) := ⟨by simp, fun i x r a b => by
  rw [List.getElem?_map] at a b
  cases e : ns[i]? with
  | none =>
    rw [e] at a
    cases a
  | some n =>
    rw [e] at a b
    cases a
    cases b
    exact .num n⟩
theorem take_more {α : Type} {xs : List α} {i : Nat} {x : α} (h : xs[i]? = some x) : xs.take (i + 1) = xs.take i ++ [x] := by
  rw [List.take_succ, h]
  rfl
/-- what all built-ins that are named are still -/
structure Bts (mg : Str → Option Value) : Prop where
  isi : mg "isinstance" = none
  int : mg "int" = none
  bool : mg "bool" = none
  list : mg "list" = none
  tuple : mg "tuple" = none
  all : mg "all" = none
  len : mg "len" = none
  range : mg "range" = none
end
end Ob
end
section
set_option linter.all false
set_option maxRecDepth 100000
set_option maxHeartbeats 4000000
namespace K
open PySem PySem.Spec PyProof.Rows L2 Ob
section
variable {P : Program} {w : World} {K : PySem.W.Frag} {mg : Str → Option Value} {base : Heap}
def spIsNumber (K : PySem.W.Frag) : Sp := fun vs H Q _ => ∃ x r, vs = [x] ∧ Thing K H x r ∧ Q (.bl r.isSome) H
theorem scIsNumber : FnScope ["thing"] ["thing"] (defScope sIsNumber) := ⟨rfl, rfl, rfl, by decide +kernel, rfl, by decide +kernel, by decide +kernel⟩
theorem ok_is_number {f : Addr} {fd : FuncData} (F : Fun K "is_number" "is_number" sIsNumber f fd) (B : Bts mg) : FnOk P w K mg base CX0 1 f fd ["thing"] (spIsNumber K) := by
  refine F.ok scIsNumber (fun vs H Q E h => ?_) (fun cdv A outer s H vs Q E hr h => ?_)
  · obtain ⟨x, r, rfl, _⟩ := h
    rfl
  · obtain ⟨x, r, rfl, ht, q⟩ := h
    refine ⟨_, pss_one (ps_ret (pe_and (pe_callB call_isi (by rfl) B.isi (by decide +kernel) (pa_cons (pv 0) (pa_cons (pe_bltn (v := .ty "int") (by rfl) B.int (by decide +kernel) rfl) pa_nil)))
      (pe_one (pe_not (pe_callB call_isi (by rfl) B.isi (by decide +kernel) (pa_cons (pv 0) (pa_cons (pe_bltn (v := .ty "bool") (by rfl) B.bool (by decide +kernel) rfl) pa_nil))))))), ?_⟩
    cases ht with
    | num i =>
      refine ⟨_, rfl, _, _, _, _, true, rfl, .ty "int", .base (.int i), kit_ty (by decide +kernel), true, rfl, ?_⟩
      exact ⟨_, rfl, _, _, _, _, false, rfl, .ty "bool", .base (.int i), kit_ty (by decide +kernel), false, rfl, q⟩
    | odd h k =>
      obtain ⟨a, b, e1, e2, e3⟩ := kit_odd _ k
      refine ⟨_, rfl, _, _, _, _, a, rfl, .ty "int", h, kit_ty e1, a, rfl, ?_⟩
      cases a with
      | false => exact q
      | true =>
        obtain rfl : b = true := by simpa using e3
        exact ⟨_, rfl, _, _, _, _, true, rfl, .ty "bool", h, kit_ty e2, true, rfl, q⟩
def spIsFrom (K : PySem.W.Frag) : Sp := fun vs H Q _ => ∃ x r lo hi, vs = [x, .int lo, .int hi] ∧ Thing K H x r ∧ Q (.bl (within r lo hi)) H
theorem scIsFrom : FnScope ["thing", "least", "most"] ["thing", "least", "most"] (defScope sIsFrom) := ⟨rfl, rfl, rfl, by decide +kernel, rfl, by decide +kernel, by decide +kernel⟩
theorem ok_is_from {f fN : Addr} {fd fdN : FuncData} (F : Fun K "is_from" "is_from" sIsFrom f fd) (FN : Fun K "is_number" "is_number" sIsNumber fN fdN) (bN : Binds K fdN ["thing"] []) (gN : mg "is_number" = some (.ref fN)) (B : Bts mg) :
    FnOk P w K mg base CX0 2 f fd ["thing", "least", "most"] (spIsFrom K) := by
  have GN : FnOk P w K mg base CX0 1 fN fdN ["thing"] (spIsNumber K) := ok_is_number FN B
  refine F.ok scIsFrom (fun vs H Q E h => ?_) (fun cdv A outer s H vs Q E hr h => ?_)
  · obtain ⟨x, r, lo, hi, rfl, _⟩ := h
    rfl
  · obtain ⟨x, r, lo, hi, rfl, ht, q⟩ := h
    refine ⟨_, pss_one (ps_ret (pe_and (pe_call GN hr rfl gN FN.kp bN .nil pass0 (pa_cons (pv 0) pa_nil)) (pe_one (pe_chain op_le op_le (pv 1) (pv 0) (pv 2))))), ?_⟩
    refine ⟨_, rfl, x, r, rfl, ht, r.isSome, rfl, ?_⟩
    cases ht with
    | odd h k => exact q
    | num i =>
      refine ⟨_, rfl, _, rfl, lo, i, rfl, rfl, _, rfl, ?_⟩
      by_cases h1 : lo ≤ i
      · rw [decide_eq_true h1]
        refine ⟨_, rfl, i, hi, rfl, rfl, ?_⟩
        have e : within (some i) lo hi = decide (i ≤ hi) := by simp [within, h1]
        rw [e] at q
        exact q
      · rw [decide_eq_false h1]
        have e : within (some i) lo hi = false := by simp [within, h1]
        rw [e] at q
        exact q
def spIsList (K : PySem.W.Frag) : Sp := fun vs H Q _ => ∃ x t, vs = [x] ∧ TyX K H x (.type t) ∧ t ∈ "int" :: oddKinds ∧ ∀ H', Same H H' → Q (.bl (t == "list" || t == "tuple")) H'
theorem scIsList : FnScope ["thing"] ["thing"] (defScope sIsList) := ⟨rfl, rfl, rfl, by decide +kernel, rfl, by decide +kernel, by decide +kernel⟩
theorem ok_is_list {f : Addr} {fd : FuncData} (F : Fun K "is_list" "is_list" sIsList f fd) (B : Bts mg) : FnOk P w K mg base CX0 1 f fd ["thing"] (spIsList K) := by
  refine F.ok scIsList (fun vs H Q E h => ?_) (fun cdv A outer s H vs Q E hr h => ?_)
  · obtain ⟨x, r, rfl, _⟩ := h
    rfl
  · obtain ⟨x, t, rfl, ht, hk, q⟩ := h
    refine ⟨_, pss_one (ps_ret (pe_callB call_isiT (by rfl) B.isi (by decide +kernel) (pa_cons (pv 0) (pa_cons (pe_tup (pa_cons (pe_bltn (v := .ty "list") (by rfl) B.list (by decide +kernel) rfl) (pa_cons (pe_bltn (v := .ty "tuple") (by rfl) B.tuple (by decide +kernel) rfl) pa_nil))) pa_nil)))), ?_⟩
    obtain ⟨a, b, e1, e2, e3⟩ := kit_list t hk
    refine ⟨_, rfl, (by rw [sizeLine_eq]; decide), fun tp hp => ?_⟩
    have sm := new_same (o := .tup [.ty "list", .ty "tuple"]) hp
    refine ⟨x, tp, _, .type t, [.type "list", .type "tuple"], a || b, rfl, upd_same, .cons (.ty "list") (.cons (.ty "tuple") .nil), tyx_same sm ht, kitAny2 e1 e2, ?_⟩
    rw [e3]
    exact q _ sm
def spIsPrime (K : PySem.W.Frag) : Sp := fun vs H Q _ => ∃ x r, vs = [x] ∧ Thing K H x r ∧ ∀ H', Same H H' → Q (.bl (r.any primeB)) H'
theorem scIsPrime : FnScope ["thing", "k"] ["thing"] (defScope sIsPrime) := ⟨rfl, rfl, rfl, by decide +kernel, rfl, by decide +kernel, by decide +kernel⟩
theorem ok_is_prime {f fR : Addr} {fd fdR : FuncData} (F : Fun K "is_prime" "is_prime" sIsPrime f fd) (FR : Fun K "is_from" "is_from" sIsFrom fR fdR) (GR : FnOk P w K mg base CX0 2 fR fdR ["thing", "least", "most"] (spIsFrom K)) (bR : Binds K fdR ["thing", "least", "most"] [])
    (gR : mg "is_from" = some (.ref fR)) (B : Bts mg) : FnOk P w K mg base CX0 3 f fd ["thing"] (spIsPrime K) := by
  refine F.ok scIsPrime (fun vs H Q E h => ?_) (fun cdv A outer s H vs Q E hr h => ?_)
  · obtain ⟨x, r, rfl, _⟩ := h
    rfl
  · obtain ⟨x, r, rfl, ht, q⟩ := h
    refine ⟨_, PSs.nox (pss_cons (ps_if (pt_not (pt_val (pe_call GR hr rfl gR FR.kp bR .nil pass0 (pa_cons (pv 0) (pa_cons pe_int (pa_cons pe_int pa_nil)))))) (pss_one (ps_ret pe_bl)) pss_nil)
      (pss_one (ps_ret (pe_callB (cr_allI rfl) (by rfl) B.all (by decide +kernel) (pa_cons (pe_lc (own := [("k", 1)]) (g := gName 1) rfl scIsPrime.nd (pi_range2 (by rfl) B.range (pa_cons pe_int (pa_cons pe_int pa_nil))) (blkOk_by (N := ["thing", "k"]) (sc := defScope sIsPrime) (by decide +kernel))
        (fun _ _ _ _ _ => pg_name (i := 1) scIsPrime.nd rfl (Or.inl rfl)) (fun _ _ _ _ _ => pts_one (pt_cmpR op_lt (pv 1) (pv 0) (nomark _))) (fun _ _ _ _ _ => pe_op op_modN (pv 0) (pv 1))) pa_nil))))), ?_⟩
    refine ⟨_, rfl, x, r, 3, 97, rfl, ht, within r 3 97, rfl, ?_⟩
    cases ht with
    | odd h k =>
      show (if (true : Bool) = true then _ else _)
      refine iteT ?_
      exact q H (fun _ _ z => z)
    | num i =>
      cases hw : within (some i) 3 97 with
      | false =>
        refine iteT ?_
        have e : (some i).any primeB = false := by
          show primeB i = false
          unfold primeB
          rw [hw]
          rfl
        rw [e] at q
        exact q H (fun _ _ z => z)
      | true =>
        refine iteF ?_
        refine ⟨2, 10, rfl, ⟨by decide, by decide, by decide, by decide⟩, fun D hD => lc_it walk_range (fun n H' => H' = upd H D (.lst ((rests i n).map V.int))) rfl (fun _ _ _ _ => trivial) ?_ ?_⟩
        · rintro n y H' H'' hn rfl ⟨rfl, rfl⟩
          refine ⟨rfl, ?_⟩
          refine ⟨_, rfl, _, rfl, _, _, rfl, rfl, _, rfl, ?_⟩
          by_cases h : (2 : Int) + n < i
          · rw [decide_eq_true h]
            refine iteT ?_
            refine ⟨_, rfl, _, rfl, i, 2 + n, rfl, rfl, by omega, _, upd_same, ?_, ?_⟩
            · rw [List.length_map, sizeLine_eq]
              have := rests_len i n
              have : n < 8 := hn
              omega
            · rw [upd_upd, rests_yes h, List.map_append]
              rfl
          · rw [decide_eq_false h]
            refine iteF ?_
            rw [rests_no h]
        · rintro H'' rfl
          refine ⟨D, rests i 8, rfl, SqL.of upd_same, ?_⟩
          have e : (some i).any primeB = (rests i 8).all (· != 0) := by
            show primeB i = _
            unfold primeB
            rw [hw]
            rfl
          rw [e] at q
          exact q _ (new_same hD)
def fieldB (p : Int) (r : Option Int) : Bool := within r 0 (p - 1)
def spIsField (K : PySem.W.Frag) : Sp := fun vs H Q _ => ∃ p x r, vs = [.int p, x] ∧ Thing K H x r ∧ Q (.bl (fieldB p r)) H
theorem scIsField : FnScope ["prime", "thing"] ["prime", "thing"] (defScope sIsFieldNumber) := ⟨rfl, rfl, rfl, by decide +kernel, rfl, by decide +kernel, by decide +kernel⟩
theorem ok_is_field {f fR : Addr} {fd fdR : FuncData} (F : Fun K "is_field_number" "is_field_number" sIsFieldNumber f fd) (FR : Fun K "is_from" "is_from" sIsFrom fR fdR) (GR : FnOk P w K mg base CX0 2 fR fdR ["thing", "least", "most"] (spIsFrom K)) (bR : Binds K fdR ["thing", "least", "most"] [])
    (gR : mg "is_from" = some (.ref fR)) : FnOk P w K mg base CX0 3 f fd ["prime", "thing"] (spIsField K) := by
  refine F.ok scIsField (fun vs H Q E h => ?_) (fun cdv A outer s H vs Q E hr h => ?_)
  · obtain ⟨p, x, r, rfl, _⟩ := h
    rfl
  · obtain ⟨p, x, r, rfl, ht, q⟩ := h
    exact ⟨_, pss_one (ps_ret (pe_call GR hr rfl gR FR.kp bR .nil pass0 (pa_cons (pv 1) (pa_cons pe_int (pa_cons (pe_op op_sub (pv 0) pe_int) pa_nil))))), _, rfl, _, rfl, p, 1, rfl, rfl, x, r, 0, p - 1, rfl, ht, q⟩
end
end K
end
section
set_option linter.all false
set_option maxRecDepth 100000
set_option maxHeartbeats 4000000
namespace K
open PySem PySem.Spec PyProof.Rows L2 Ob
section
variable {P : Program} {w : World} {K : PySem.W.Frag} {mg : Str → Option Value} {base : Heap}
/-- a list of things -/
structure ListOf (K : PySem.W.Frag) (H : Hp) (a : Addr) (xs : List V) (rs : List (Option Int)) : Prop where
  seq : SqL K H a xs
  kind : TyX K H (.ref a) (.type "list")
  each : Things K H xs rs
theorem ListOf.same {H H' : Hp} {a : Addr} {xs : List V} {rs : List (Option Int)} (s : ∀ b o, H b = some o → H' b = some o) (h : ListOf K H a xs rs) : ListOf K H' a xs rs := ⟨Same.seq s h.seq, tyx_same s h.kind, things_same s h.each⟩
def spAreField (K : PySem.W.Frag) : Sp := fun vs H Q _ => ∃ p a xs rs, vs = [.int p, .ref a] ∧ ListOf K H a xs rs ∧ xs.length ≤ 1000 ∧ ∀ H', Same H H' → Q (.bl (rs.all (fieldB p))) H'
theorem scAreField : FnScope ["prime", "things", "x"] ["prime", "things"] (defScope sAreFieldNumbers) := ⟨rfl, rfl, rfl, by decide +kernel, rfl, by decide +kernel, by decide +kernel⟩
theorem ok_are_field {f fL fI : Addr} {fd fdL fdI : FuncData} (F : Fun K "are_field_numbers" "are_field_numbers" sAreFieldNumbers f fd) (FL : Fun K "is_list" "is_list" sIsList fL fdL) (bL : Binds K fdL ["thing"] []) (gL : mg "is_list" = some (.ref fL))
    (FI : Fun K "is_field_number" "is_field_number" sIsFieldNumber fI fdI) (GI : FnOk P w K mg base CX0 3 fI fdI ["prime", "thing"] (spIsField K)) (bI : Binds K fdI ["prime", "thing"] []) (gI : mg "is_field_number" = some (.ref fI)) (B : Bts mg) :
    FnOk P w K mg base CX0 4 f fd ["prime", "things"] (spAreField K) := by
  have GL : FnOk P w K mg base CX0 1 fL fdL ["thing"] (spIsList K) := ok_is_list FL B
  refine F.ok scAreField (fun vs H Q E h => ?_) (fun cdv A outer s H vs Q E hr h => ?_)
  · obtain ⟨p, a, xs, rs, rfl, _⟩ := h
    rfl
  · obtain ⟨p, a, xs, rs, rfl, hl, hz, q⟩ := h
    refine ⟨_, PSs.nox (pss_one (ps_ret (pe_and (pe_call GL (hr.mono (by decide)) rfl gL FL.kp bL .nil pass0 (pa_cons (pv 1) pa_nil)) (pe_one (pe_callB (cr_all rfl) (by rfl) B.all (by decide +kernel) (pa_cons
      (pe_lc (own := [("x", 2)]) (g := gName 2) (tt := tYes) rfl scAreField.nd (pi_list (pv 1)) (blkOk_by (N := ["prime", "things", "x"]) (sc := defScope sAreFieldNumbers) (by decide +kernel)) (fun _ _ _ _ _ => pg_name (i := 2) scAreField.nd rfl (Or.inl rfl)) (fun _ _ _ _ _ => pts_nil)
        (fun _ _ _ _ _ => pe_call GI (hr.mono (by decide)) rfl gI FI.kp bI .nil pass0 (pa_cons (pv 0) (pa_cons (pv 2) pa_nil)))) pa_nil)))))), ?_⟩
    refine ⟨_, rfl, .ref a, "list", rfl, hl.kind, by decide, fun H1 s1 => ⟨_, rfl, ?_⟩⟩
    refine ⟨_, rfl, a, rfl, ⟨_, (hl.same s1).seq⟩, fun D hD => lc_list (K := K) (a := a) (xs := xs) (fun i H' => H' = upd H1 D (.lst (((rs.take i).map (fieldB p)).map V.bl))) rfl ?_ ?_ ?_⟩
    · rintro i H' _ rfl
      exact Same.seq (new_same hD) (hl.same s1).seq
    · rintro i x H' hx rfl
      have hi := (List.getElem?_eq_some_iff.mp hx).1
      have hr' : rs[i]? = some (rs[i]'(by rw [← hl.each.1]; exact hi)) := List.getElem?_eq_getElem _
      have ht := thing_same (new_same (o := .lst (((rs.take i).map (fieldB p)).map V.bl)) hD) ((hl.same s1).each.2 i x _ hx hr')
      refine ⟨rfl, ?_⟩
      unfold tYes
      dsimp only
      rw [if_pos rfl]
      refine ⟨_, rfl, _, rfl, p, x, _, rfl, ht, _, upd_same, ?_, ?_⟩
      · rw [List.length_map, List.length_map, List.length_take, sizeLine_eq]
        omega
      · rw [upd_upd, take_more hr', List.map_append, List.map_append]
        rfl
    · rintro H' rfl
      refine ⟨D, rs.map (fieldB p), rfl, SqL.of (upd_same.trans ?_), ?_⟩
      · rw [hl.each.1, List.take_length]
      · have e : (rs.map (fieldB p)).all id = rs.all (fieldB p) := by rw [List.all_map]; rfl
        rw [e]
        exact q _ fun b o z => new_same hD b o (s1 b o z)
def pows : List V := (List.range 9).map fun n => V.int (1 * 2 ^ ((0 : Int) + (n : Nat)).toNat)
def tableB (p : Int) (n : Nat) (rs : List (Option Int)) : Bool := inV (.int n) pows && rs.all (fieldB p)
def spIsTable (K : PySem.W.Frag) : Sp := fun vs H Q _ => ∃ p a xs rs, vs = [.int p, .ref a] ∧ ListOf K H a xs rs ∧ xs.length ≤ 1000 ∧ ∀ H', Same H H' → Q (.bl (tableB p xs.length rs)) H'
theorem scIsTable : FnScope ["prime", "things", "n"] ["prime", "things"] (defScope sIsTable) := ⟨rfl, rfl, rfl, by decide +kernel, rfl, by decide +kernel, by decide +kernel⟩
theorem ok_is_table {f fL fA : Addr} {fd fdL fdA : FuncData} {tM : Tok} (F : Fun K "is_table" "is_table" sIsTable f fd) (FL : Fun K "is_list" "is_list" sIsList fL fdL) (bL : Binds K fdL ["thing"] []) (gL : mg "is_list" = some (.ref fL))
    (FA : Fun K "are_field_numbers" "are_field_numbers" sAreFieldNumbers fA fdA) (GA : FnOk P w K mg base CX0 4 fA fdA ["prime", "things"] (spAreField K)) (bA : Binds K fdA ["prime", "things"] []) (gA : mg "are_field_numbers" = some (.ref fA)) (gM : mg "MOST_LEGS" = some (.int 8 tM)) (B : Bts mg) :
    FnOk P w K mg base CX0 5 f fd ["prime", "things"] (spIsTable K) := by
  have GL : FnOk P w K mg base CX0 1 fL fdL ["thing"] (spIsList K) := ok_is_list FL B
  refine F.ok scIsTable (fun vs H Q E h => ?_) (fun cdv A outer s H vs Q E hr h => ?_)
  · obtain ⟨p, a, xs, rs, rfl, _⟩ := h
    rfl
  · obtain ⟨p, a, xs, rs, rfl, hl, hz, q⟩ := h
    refine ⟨_, PSs.nox (pss_cons (ps_if (pw_or (pt_not (pt_val (pe_call GL (hr.mono (by decide)) (by rfl) gL FL.kp bL .nil pass0 (pa_cons (pv 1) pa_nil))))
        (pw_or1 (pt_cmpR op_notIn_seq (pe_callB call_len_seq (by rfl) B.len PySem.boot_len (pa_cons (pv 1) pa_nil))
          (pe_lc (own := [("n", 2)]) (g := gName 2) (tt := tYes) rfl scIsTable.nd (pi_range1 (by rfl) B.range (pa_cons (pe_op op_add (pe_glob (v := .int 8) (by rfl) gM ⟨_, rfl⟩) pe_int) pa_nil)) (blkOk_by (N := ["prime", "things", "n"]) (sc := defScope sIsTable) (by decide +kernel)) (fun _ _ _ _ _ => pg_name (i := 2) scIsTable.nd rfl (Or.inl rfl)) (fun _ _ _ _ _ => pts_nil)
            (fun _ _ _ _ _ => pe_op op_shl pe_int (pv 2))) (by rfl)))).pt (pss_one (ps_ret pe_bl)) pss_nil)
      (pss_one (ps_ret (pe_call GA (hr.mono (by decide)) rfl gA FA.kp bA .nil pass0 (pa_cons (pv 0) (pa_cons (pv 1) pa_nil)))))), ?_⟩
    refine ⟨_, rfl, .ref a, "list", rfl, hl.kind, by decide, fun H1 s1 => ⟨_, rfl, iteF ?_⟩⟩
    have hl1 := hl.same s1
    refine ⟨_, rfl, a, xs, rfl, .inl hl1.seq, ?_⟩
    refine ⟨8, 1, rfl, rfl, 9, rfl, by decide, by decide, fun D hD => lc_it walk_range (fun i H' => H' = upd H1 D (.lst ((List.range i).map fun n => V.int (1 * 2 ^ ((0 : Int) + (n : Nat)).toNat)))) rfl (fun _ _ _ _ => trivial) ?_ ?_⟩
    · rintro i x H' H'' hi rfl ⟨rfl, rfl⟩
      have hi9 : i < 9 := hi
      refine ⟨rfl, ?_⟩
      unfold tYes
      dsimp only
      rw [if_pos rfl]
      refine ⟨_, rfl, 1, 0 + (i : Nat), rfl, rfl, ⟨by omega, by omega, by decide⟩, _, upd_same, ?_, ?_⟩
      · rw [List.length_map, List.length_range, sizeLine_eq]
        omega
      · rw [upd_upd, List.range_succ, List.map_append]
        rfl
    · rintro H'' rfl
      refine ⟨D, pows, rfl, .inl (SqL.of upd_same), rfl, by decide +kernel, _, rfl, ?_⟩
      have s2 : Same H (upd H1 D (.lst pows)) := fun b o z => new_same hD b o (s1 b o z)
      cases e : inV (V.int (xs.length : Nat)) pows with
      | false =>
        refine iteT ?_
        have e2 : tableB p xs.length rs = false := by
          unfold tableB
          rw [e]
          rfl
        rw [e2] at q
        exact q _ s2
      | true =>
        refine iteF ?_
        refine ⟨_, rfl, _, rfl, p, a, xs, rs, rfl, hl.same s2, hz, fun H3 s3 => ?_⟩
        have e2 : tableB p xs.length rs = rs.all (fieldB p) := by
          unfold tableB
          rw [e]
          rfl
        rw [e2] at q
        exact q _ fun b o z => s3 b o (s2 b o z)
end
end K
end
section
set_option linter.all false
set_option maxRecDepth 100000
set_option maxHeartbeats 4000000
/-! tuples and lists of whole numbers, compared -/
namespace Ob
open PySem PySem.Spec PyProof.Rows L2
theorem ints_lay : ∀ ns : List Int, PyData.canLayAll0 (ns.map PyData.int) = true ∧ PyData.depthAll (ns.map PyData.int) = 0
  | [] => ⟨rfl, rfl⟩
  | n :: ns => by
    obtain ⟨h1, h2⟩ := ints_lay ns
    refine ⟨?_, ?_⟩
    · simp only [List.map_cons, PyData.canLayAll0, PyData.canLay0, h1]
      rfl
    · simp only [List.map_cons, PyData.depthAll, PyData.depth, h2]
      rfl
theorem ints_eqv : ∀ ns ms : List Int, PyData.eqvAll (ns.map PyData.int) (ms.map PyData.int) = decide (ns = ms)
  | [], [] => by simp [PyData.eqvAll]
  | [], m :: ms => by simp [PyData.eqvAll]
  | n :: ns, [] => by simp [PyData.eqvAll]
  | n :: ns, m :: ms => by
    simp only [List.map_cons, PyData.eqvAll, PyData.eqv, ints_eqv ns ms]
    by_cases h : n = m <;> by_cases h2 : ns = ms <;> simp [h, h2]
theorem tup_shaped (ns : List Int) : SeqAt.shaped (.tuple (ns.map PyData.int)) = true := by
  obtain ⟨h1, h2⟩ := ints_lay ns
  unfold SeqAt.shaped
  simp only [PyData.canLay0, PyData.depth, h1, h2, Bool.true_and]
  decide
theorem lst_shaped (ns : List Int) : SeqAt.shaped (.list (ns.map PyData.int)) = true := by
  obtain ⟨h1, h2⟩ := ints_lay ns
  unfold SeqAt.shaped
  simp only [PyData.canLay0, PyData.depth, h1, h2, Bool.true_and]
  decide
theorem dp_ints {K : PySem.W.Frag} {H : Hp} : ∀ ns : List Int, DpAll K H (ns.map V.int) (ns.map PyData.int)
  | [] => .nil
  | n :: ns => .cons (.int n) (dp_ints ns)
theorem tup_eqv (ns ms : List Int) : PyData.eqv (.tuple (ns.map PyData.int)) (.tuple (ms.map PyData.int)) = decide (ns = ms) := by
  simp only [PyData.eqv, ints_eqv]
theorem lst_eqv (ns ms : List Int) : PyData.eqv (.list (ns.map PyData.int)) (.list (ms.map PyData.int)) = decide (ns = ms) := by
  simp only [PyData.eqv, ints_eqv]
end Ob
end
section
set_option linter.all false
set_option maxRecDepth 100000
set_option maxHeartbeats 4000000
namespace K
open PySem PySem.Spec PyProof.Rows L2 Ob
/-- a rule stands at r -/
structure RuleAt (C : Addr) (H : Hp) (r : Addr) (p : Int) (n : Nat) (ns : List Int) : Prop where
  ex : ∃ dx t, H r = some (.ins C dx [("prime", .int p), ("legs", .int n), ("table", .ref t)]) ∧ H t = some (.tup (ns.map V.int))
theorem RuleAt.same {C : Addr} {H H' : Hp} {r : Addr} {p : Int} {n : Nat} {ns : List Int} (s : ∀ b o, H b = some o → H' b = some o) (h : RuleAt C H r p n ns) : RuleAt C H' r p n ns := by
  obtain ⟨dx, t, h1, h2⟩ := h.ex
  exact ⟨dx, t, s _ _ h1, s _ _ h2⟩
/-- what the text tells of the class -/
structure RuleC (K : PySem.W.Frag) (mg : Str → Option Value) (C : Addr) : Prop where
  cl : Cls K C
  nP : NoAttr K C "prime"
  nL : NoAttr K C "legs"
  nT : NoAttr K C "table"
  g : mg "Rule" = some (.ref C)
  ha : PySem.W.findIn K (.ref C) "__class__" = some (some (.builtin "object.__class__"))
  hn : PySem.W.specialIn K (.builtin "object.__class__") "__get__" = some (some (.builtin "getset_descriptor.__get__"))
  ht : PySem.W.takesIn K (.builtin "object.__class__") = some true
  hm : PySem.W.mroIn K C (.type "object") = some true
theorem kit_self {K : PySem.W.Frag} {C : Addr} : PySem.W.kitOne K (.ref C) (.ref C) = some true := by
  unfold PySem.W.kitOne
  rw [if_pos (by simp)]
theorem RuleC.ty {K : PySem.W.Frag} {mg : Str → Option Value} {C : Addr} (T : RuleC K mg C) {H : Hp} {r : Addr} {p : Int} {n : Nat} {ns : List Int} (h : RuleAt C H r p n ns) : TyX K H (.ref r) (.ref C) := by
  obtain ⟨dx, t, h1, h2⟩ := h.ex
  exact .base (.ins h1 T.cl T.ha T.hn T.ht T.hm)
theorem bits_pow : ∀ n : Nat, n ≤ 8 → Builtin.Int.intBits (((2 ^ n : Nat)) : Int) = n + 1 := by decide +kernel
section
variable {P : Program} {w : World} {K : PySem.W.Frag} {mg : Str → Option Value} {base : Heap} {C : Addr}
def spRInit (K : PySem.W.Frag) (C : Addr) : Sp := fun vs H Q _ => ∃ r dx p a ns n, vs = [.ref r, .int p, .ref a] ∧ H r = some (.ins C dx []) ∧ ListOf K H a (ns.map V.int) (ns.map some) ∧ a ≠ r ∧ primeB p = true ∧ tableB p ns.length (ns.map some) = true ∧ ns.length = 2 ^ n ∧ n ≤ 8 ∧
  ∀ H', (∀ b o, H b = some o → b ≠ r → H' b = some o) → RuleAt C H' r p n ns → Q .non H'
theorem scRInit : FnScope ["self", "prime", "table"] ["self", "prime", "table"] (defScope sRule_init) := ⟨rfl, rfl, rfl, by decide +kernel, rfl, by decide +kernel, by decide +kernel⟩
theorem ok_rinit {f fP fT : Addr} {fd fdP fdT : FuncData} (F : Fun K "__init__" "Rule.__init__" sRule_init f fd) (T : RuleC K mg C) (FP : Fun K "is_prime" "is_prime" sIsPrime fP fdP) (GP : FnOk P w K mg base CX0 3 fP fdP ["thing"] (spIsPrime K)) (bP : Binds K fdP ["thing"] []) (gP : mg "is_prime" = some (.ref fP))
    (FT : Fun K "is_table" "is_table" sIsTable fT fdT) (GT : FnOk P w K mg base CX0 5 fT fdT ["prime", "things"] (spIsTable K)) (bT : Binds K fdT ["prime", "things"] []) (gT : mg "is_table" = some (.ref fT)) (B : Bts mg) :
    FnOk P w K mg base CX0 6 f fd ["self", "prime", "table"] (spRInit K C) := by
  refine F.ok scRInit (fun vs H Q E h => ?_) (fun cdv A outer s H vs Q E hr h => ?_)
  · obtain ⟨r, dx, p, a, ns, n, rfl, _⟩ := h
    rfl
  · obtain ⟨r, dx, p, a, ns, n, rfl, hr0, hl, hne, hp, ht, hn, h8, k⟩ := h
    refine ⟨_, PSs.nox (pss_cons (ps_if (pt_not (pt_val (pe_call GP (hr.mono (by decide)) rfl gP FP.kp bP .nil pass0 (pa_cons (pv 1) pa_nil)))) (pss_one ps_never) pss_nil)
      (pss_cons (ps_if (pt_not (pt_val (pe_call GT (hr.mono (by decide)) rfl gT FT.kp bT .nil pass0 (pa_cons (pv 1) (pa_cons (pv 2) pa_nil))))) (pss_one ps_never) pss_nil)
      (pss_cons (ps_fld (pv 0) (pv 1) rfl)
      (pss_cons (ps_fld (pv 0) (pe_op op_sub (pe_bits (pe_callB call_len_seq (by rfl) B.len PySem.boot_len (pa_cons (pv 2) pa_nil))) pe_int) rfl)
      (pss_one (ps_fld (pv 0) (pe_callTy call_tuple_of (by rfl) B.tuple (by decide +kernel) (pa_cons (pv 2) pa_nil)) rfl)))))), ?_⟩
    refine ⟨_, rfl, _, some p, rfl, .num p, fun H1 s1 => ⟨_, rfl, ?_⟩⟩
    have e1 : (some p).any primeB = true := hp
    rw [e1]
    refine iteF ?_
    have hz : (ns.map V.int).length ≤ 1000 := by
      rw [List.length_map, hn]
      exact Nat.le_trans (Nat.pow_le_pow_right (by decide) h8) (by decide)
    refine ⟨_, rfl, _, rfl, p, a, _, _, rfl, hl.same s1, hz, fun H2 s2 => ⟨_, rfl, ?_⟩⟩
    rw [List.length_map, ht]
    refine iteF ?_
    have s02 : ∀ b o, H b = some o → H2 b = some o := fun b o z => s2 b o (s1 b o z)
    have r2 := s02 _ _ hr0
    refine ⟨_, rfl, _, rfl, r, C, dx, [], rfl, r2, T.cl, T.nP, (by decide), ?_⟩
    have l2 := (hl.same s02).seq
    have kp : ∀ (o : HO) (H : Hp), ∀ b u, H b = some u → b ≠ r → upd H r o b = some u := fun o H b u e hb => by
      rw [upd_ne hb]
      exact e
    have seqKeep : ∀ {H H' : Hp}, (∀ b u, H b = some u → b ≠ r → H' b = some u) → SqL K H a (ns.map V.int) → SqL K H' a (ns.map V.int) := fun {H H'} kk z =>
      z.elim (fun z => .inl (z.elim (fun z => .inl (kk _ _ z hne)) fun ⟨o, z⟩ => .inr ⟨o, kk _ _ z hne⟩)) .inr
    have l3 := seqKeep (kp (.ins C dx (putF "prime" (.int p) [])) H2) l2
    refine ⟨_, rfl, a, _, rfl, .inl l3, _, rfl, _, _, rfl, rfl, _, rfl, r, C, dx, _, rfl, upd_same, T.cl, T.nL, (by show 1 < 1000; decide), ?_⟩
    have eL : (fun i j : Int => V.int (i - j)) ((Builtin.Int.intBits (((ns.map V.int).length : Nat) : Int) : Nat) : Int) 1 = V.int (n : Int) := by
      show V.int (((Builtin.Int.intBits (((ns.map V.int).length : Nat) : Int) : Nat) : Int) - 1) = V.int (n : Int)
      rw [List.length_map, hn, bits_pow n h8]
      exact congrArg V.int (by omega)
    rw [eL, upd_upd]
    have l4 := seqKeep (kp (.ins C dx (putF "legs" (.int n) (putF "prime" (.int p) []))) H2) l2
    refine ⟨_, rfl, a, _, rfl, .inl ⟨l4, fun t ht => ?_⟩⟩
    have nrt : r ≠ t := fun z => by
      rw [← z, upd_same] at ht
      cases ht
    refine ⟨_, rfl, r, C, dx, _, rfl, (upd_ne nrt).trans upd_same, T.cl, T.nT, (by show 2 < 1000; decide), ?_⟩
    refine k _ (fun b o e hb => ?_) ⟨dx, t, upd_same, (upd_ne nrt.symm).trans upd_same⟩
    have e2 := s02 _ _ e
    have e3 : upd H2 r (.ins C dx (putF "legs" (.int n) (putF "prime" (.int p) []))) b = some o := (upd_ne hb).trans e2
    rw [upd_ne hb, upd_ne (ne_of_none e3 ht)]
    exact e3
def spREq (C : Addr) : Sp := fun vs H Q _ => ∃ a b p q n m ns ms, vs = [.ref a, .ref b] ∧ RuleAt C H a p n ns ∧ RuleAt C H b q m ms ∧ Q (.bl (decide (p = q) && decide (ns = ms))) H
theorem scREq : FnScope ["self", "other"] ["self", "other"] (defScope sRule_eq) := ⟨rfl, rfl, rfl, by decide +kernel, rfl, by decide +kernel, by decide +kernel⟩
theorem ok_req {f : Addr} {fd : FuncData} (F : Fun K "__eq__" "Rule.__eq__" sRule_eq f fd) (T : RuleC K mg C) (B : Bts mg) : FnOk P w K mg base CX0 1 f fd ["self", "other"] (spREq C) := by
  refine F.ok scREq (fun vs H Q E h => ?_) (fun cdv A outer s H vs Q E hr h => ?_)
  · obtain ⟨a, b, p, q, n, m, ns, ms, rfl, _⟩ := h
    rfl
  · obtain ⟨a, b, p, q, n, m, ns, ms, rfl, ra, rb, k⟩ := h
    obtain ⟨dx, t, ha, hta⟩ := id ra.ex
    obtain ⟨dy, u, hb, htb⟩ := id rb.ex
    refine ⟨_, pss_one (ps_ret (pe_and (pe_callB call_isi (by rfl) B.isi (by decide +kernel) (pa_cons (pv 1) (pa_cons (pe_glob (v := .ref C) (by rfl) T.g rfl) pa_nil)))
      (pe_and (pe_cmpR op_eq (pe_fld (pv 0) rfl) (pe_fld (pv 1) rfl) (nomark _)) (pe_one (pe_cmpR (op_eqD hr.units) (pe_fld (pv 0) rfl) (pe_fld (pv 1) rfl) (nomark _)))))), ?_⟩
    refine ⟨_, rfl, .ref b, .ref C, .ref C, .ref C, true, rfl, .own C, T.ty rb, kit_self, true, rfl, ?_⟩
    refine ⟨_, rfl, a, C, dx, _, _, rfl, ha, T.cl, T.nP, rfl, _, rfl, b, C, dy, _, _, rfl, hb, T.cl, T.nP, rfl, rfl, _, rfl, ?_⟩
    have eq0 : decide (V.int p = V.int q) = decide (p = q) := by
      by_cases h : p = q
      · subst h
        simp
      · rw [decide_eq_false h]
        exact decide_eq_false fun z => h (by injection z)
    rw [eq0]
    by_cases h : p = q
    · rw [decide_eq_true h] at k ⊢
      refine ⟨_, rfl, a, C, dx, _, _, rfl, ha, T.cl, T.nT, rfl, _, rfl, b, C, dy, _, _, rfl, hb, T.cl, T.nT, rfl, ?_⟩
      refine ⟨_, _, .tup (SqT.of hta) (dp_ints ns), .tup (SqT.of htb) (dp_ints ms), tup_shaped _, tup_shaped _, ?_⟩
      rw [tup_eqv]
      exact k
    · rw [decide_eq_false h] at k ⊢
      exact k
end
end K
end
section
set_option linter.all false
set_option maxRecDepth 100000
set_option maxHeartbeats 8000000
namespace K
open PySem PySem.Spec PyProof.Rows L2 Ob
/-- a prime, at most eight legs, numbers of the field -/
structure RuleOk (p : Int) (n : Nat) (ns : List Int) : Prop where
  prime : primeB p = true
  eight : n ≤ 8
  len : ns.length = 2 ^ n
  field : ∀ x ∈ ns, 0 ≤ x ∧ x < p
theorem RuleOk.least {p : Int} {n : Nat} {ns : List Int} (h : RuleOk p n ns) : 3 ≤ p ∧ p ≤ 97 := by
  have := h.prime
  unfold primeB within at this
  simp only [Bool.and_eq_true, decide_eq_true_eq, Option.any_some] at this
  exact ⟨this.1.1, this.1.2⟩
theorem pows_in : ∀ n : Nat, n ≤ 8 → inV (V.int ((2 ^ n : Nat) : Int)) pows = true := by decide +kernel
theorem RuleOk.table {p : Int} {n : Nat} {ns : List Int} (h : RuleOk p n ns) : tableB p ns.length (ns.map some) = true := by
  unfold tableB
  rw [h.len, pows_in n h.eight, Bool.true_and, List.all_map]
  refine List.all_eq_true.mpr fun x hx => ?_
  obtain ⟨h1, h2⟩ := h.field x hx
  show within (some x) 0 (p - 1) = true
  unfold within
  simp only [Option.any_some, Bool.and_eq_true, decide_eq_true_eq]
  omega
theorem made {K : PySem.W.Frag} {C : Addr} {H1 : Hp} {D : Addr} {p : Int} {n : Nat} {ns : List Int} {Q : Addr → Hp → Prop} {E : XK} (ok : RuleOk p n ns) (hl : H1 D = some (.lst (ns.map V.int))) (k : ∀ H' q, Same H1 H' → RuleAt C H' q p n ns → Q q H') :
    ∀ x dx, H1 x = none → H1 dx = none → dx ≠ x → spRInit K C (.ref x :: ([.int p, .ref D] ++ [])) (upd (upd H1 dx (.own x)) x (.ins C dx [])) (fun v H2 => v = .non ∧ Q x H2) E := fun x dx hx hdx ne => by
  have nD1 : D ≠ dx := ne_of_none hl hdx
  have nD2 : D ≠ x := ne_of_none hl hx
  have at_ : upd (upd H1 dx (.own x)) x (.ins C dx []) D = some (.lst (ns.map V.int)) := by
    rw [upd_ne nD2, upd_ne nD1]
    exact hl
  refine ⟨x, dx, p, D, ns, n, rfl, upd_same, ⟨SqL.of at_, .base (.lst at_), things_ints ns⟩, nD2, ok.prime, ok.table, ok.len, Nat.le_trans ok.eight (by decide), fun H' kp r => ⟨rfl, k H' x (fun b o e => ?_) r⟩⟩
  have b1 : b ≠ x := ne_of_none e hx
  refine kp b o ?_ b1
  rw [upd_ne b1, upd_ne (ne_of_none e hdx)]
  exact e
section
variable {P : Program} {w : World} {K : PySem.W.Frag} {mg : Str → Option Value} {base : Heap} {C CN CR fI : Addr} {fdI : FuncData}
/-- the class can be made, its __init__ holds -/
structure MkRule (P : Program) (w : World) (K : PySem.W.Frag) (mg : Str → Option Value) (base : Heap) (C : Addr) (fI : Addr) (fdI : FuncData) : Prop where
  T : RuleC K mg C
  M : Mk K C fI
  G : FnOk P w K mg base CX0 6 fI fdI ["self", "prime", "table"] (spRInit K C)
  b : Binds K fdI ["self", "prime", "table"] []
end
end K
end
section
set_option linter.all false
set_option maxRecDepth 100000
set_option maxHeartbeats 8000000
namespace K
open PySem PySem.Spec PyProof.Rows L2 Ob
def pickF (ns : List Int) (i : Int) : Int := ns.getD i.toNat 0
theorem at_pick {ns : List Int} {i : Int} (h0 : 0 ≤ i) (h1 : i < (ns.length : Int)) : atI (ns.map V.int) i = some (.int (pickF ns i)) := by
  obtain ⟨n, rfl⟩ := Int.eq_ofNat_of_zero_le h0
  have hn : n < ns.length := by omega
  refine atI_nat (v := V.int (pickF ns n)) ?_
  unfold pickF
  rw [List.getElem?_map, Int.toNat_natCast, List.getD_eq_getElem?_getD, List.getElem?_eq_getElem hn]
  rfl
theorem pick_mem {ns : List Int} {i : Int} (h0 : 0 ≤ i) (h1 : i < (ns.length : Int)) : pickF ns i ∈ ns := by
  obtain ⟨n, rfl⟩ := Int.eq_ofNat_of_zero_le h0
  have hn : n < ns.length := by omega
  unfold pickF
  rw [Int.toNat_natCast, List.getD_eq_getElem?_getD, List.getElem?_eq_getElem hn]
  exact List.getElem_mem hn
/-- what is picked by such places is a rule's table again -/
theorem pick_ok {p : Int} {n : Nat} {ns idx : List Int} (ok : RuleOk p n ns) (hl : idx.length = 2 ^ n) (hi : ∀ i ∈ idx, 0 ≤ i ∧ i < ((2 ^ n : Nat) : Int)) : RuleOk p n (idx.map (pickF ns)) := by
  refine ⟨ok.prime, ok.eight, by rw [List.length_map]; exact hl, fun x hx => ?_⟩
  obtain ⟨i, hm, rfl⟩ := List.mem_map.mp hx
  obtain ⟨h0, h1⟩ := hi i hm
  exact ok.field _ (pick_mem h0 (by rw [ok.len]; exact h1))
end K
end
section
set_option linter.all false
set_option maxRecDepth 100000
set_option maxHeartbeats 4000000
/-! a walk of any kind, its turn told by a shape -/
namespace Ob
open PySem PySem.Spec PyProof.Rows L2
theorem go_walk {J : It} {n : Nat} {G : Hp → Prop} {Y : Nat → Hp → V → Hp → Prop} (w : Walk J n G Y) {S : (Hp → Prop) → V → Hp → Prop} {H1 : Hp} {Qd : Hp → Prop} (Pv : Nat → Hp → Prop) (h0 : Pv 0 H1) (hG : ∀ i H, i ≤ n → Pv i H → G H)
    (hs : ∀ i x H H', i < n → Pv i H → Y i H x H' → S (Pv (i + 1)) x H') (hd : ∀ H, Pv n H → Qd H) :
    ∃ W : Nat → Nat → Hp → Prop, (∃ m, W 0 m H1) ∧ ∀ i m H, W i m H → (J.stop i H ∧ Qd H) ∨ (J.go i H ∧ ∃ Nx : Hp → Prop, (∀ H', Nx H' → ∃ m', m' < m ∧ W (i + 1) m' H') ∧ ∀ x H', J.yld i H x H' → S Nx x H') := by
  refine ⟨fun i m H => m + i = n ∧ Pv i H, ⟨n, rfl, h0⟩, fun i m H ⟨hi, p⟩ => ?_⟩
  have g := hG i H (by omega) p
  cases m with
  | zero =>
    have e : i = n := by omega
    subst e
    exact .inl ⟨w.stops H g, hd H p⟩
  | succ m => exact .inr ⟨w.goes i H (by omega) g, Pv (i + 1), fun H' p' => ⟨m, by omega, by omega, p'⟩, fun x H' y => hs i x H H' (by omega) p (w.yields i H x H' (by omega) g y)⟩
theorem at_ints {ns : List Int} {i : Nat} {x : V} (h : (ns.map V.int)[i]? = some x) : ∃ z, x = V.int z ∧ ns[i]? = some z := by
  rw [List.getElem?_map] at h
  cases e : ns[i]? with
  | none =>
    rw [e] at h
    cases h
  | some z =>
    rw [e] at h
    exact ⟨z, (Option.some.inj h).symm, rfl⟩
/-- len's reading, by a written part -/
def rLenS (K : PySem.W.Frag) : List V → Hp → VK → Prop := fun xs H Q => ∃ p ys, xs = [V.ref p] ∧ (SqL K H p ys ∨ SqT K H p ys) ∧ Q (V.int (ys.length : Nat)) H
/-- either of two kinds of walked things -/
theorem pi_or {X : Cx} {tg l : Expr} {w1 w2 : TI} (h1 : PI X tg l w1) (h2 : PI X tg l w2) : PI X tg l (fun σ H R => w1 σ H R ∨ w2 σ H R) :=
  ⟨fun pins s σ H R I h => h.elim (h1.run pins s σ H R I) (h2.run pins s σ H R I)⟩
/-- either of two readings -/
theorem pe_either {X : Cx} {e : Expr} {t1 t2 : TE} (h1 : PE X e t1) (h2 : PE X e t2) : PE X e (fun σ H Q => t1 σ H Q ∨ t2 σ H Q) :=
  ⟨fun pins s σ H Q I h => h.elim (h1.run pins s σ H Q I) (h2.run pins s σ H Q I)⟩
end Ob
end
section
set_option linter.all false
set_option maxRecDepth 100000
set_option maxHeartbeats 4000000
/-! an error class of the program: def __init__(self, part): super().__init__(f'..{part}'); self.part = part -/
namespace Ob
open PySem PySem.Spec PyProof.Rows L2 NdefX

/-- v in an f-string gives some text of bounded length, and keeps all objects -/
def Fmt (P : Program) (w : World) (A : Around) (H : Hp) (y : V) : Prop :=
  ∀ (E : Value → Shared → Prop) (s : Shared) (u : Value) (Q : Value → Shared → Prop), HOk P w H s.heap → RelV y u →
    (∀ (m : Str) (t tk : Tok) (h' : Heap), m.length ≤ 100000 → (∀ b o, s.heap.get? b = some o → h'.get? b = some o) → Q (.str m t) { s with heap := h', toks := tk }) →
    wpAny (model P w) A (formatField u Str.empty) Q E s
theorem fmt_str {P : Program} {w : World} {A : Around} {H : Hp} {y : Str} (h : y.length ≤ 100000) : Fmt P w A H (.str y) := fun E s u Q _ r q => by
  obtain ⟨t, rfl⟩ := r
  have e : ∀ t tk, Q (.str y t) { s with toks := tk } := fun t tk => q y t tk s.heap h fun _ _ z => z
  exact wpAny_formatField_str (e t s.toks) (e _ _) (by rw [sizeLine_eq]; omega)
theorem fmt_none {P : Program} {w : World} {A : Around} {H : Hp} : Fmt P w A H .non := fun E s u Q _ r q => by
  cases r
  exact wpAny_formatField_none (q _ _ _ s.heap (by decide +kernel) fun _ _ z => z)
/-- {x} -/
def tFmtA (X : Cx) (te : TE) : TE := fun σ H Q => te σ H fun x H1 => Fmt X.prog X.w X.A H1 x ∧ ∀ y : Str, y.length ≤ 100000 → Q (.str y) H1
theorem pe_fmtA {X : Cx} {e : Expr} {te : TE} {pos : Pos} (he : PE X e te) : PE X (.FormattedValue e (-1) none pos) (tFmtA X te) := by
  refine ⟨fun pins s σ H Q I h => ?_⟩
  refine wpAny_FormattedValue_plain (thn (he.run pins s σ H _ I h) fun v s1 hv => ?_)
  obtain ⟨x, H1, I1, r1, f, q⟩ := hv
  exact f _ _ _ _ I1.hok r1 fun m t tk h' hm k => ⟨.str m, H1, I1.kept k, ⟨_, rfl⟩, q m hm⟩

/-! ### the wrapper of the built-in __init__, called -/
section
open PySem.W
variable {prog : Program} {w : World} {A : Around} {E : Value → Shared → Prop} {h : Heap} {g : Array GenState} {d : Drawn} {tk : Nat} {os : OsState}
variable {nm q : Str} {C N : Addr} {bs bm bmB : List Value} {hdct : Bool} {sn : List Str} {sub : List Value} {ab : Bool} {col : Option Bool} {dd : Option Addr} {k0 k1 k2 k3 k5 : Option Value} {B newId i : String}
theorem call_mw (FB : ExcBaseFacts B newId i bmB) {u x t : Addr} {rest : List Value} {Q : Value → Shared → Prop}
    (hC : h.get? C = some (excClassObj nm q C N bs bm hdct sn sub ab col dd k0 k1 k2 k3 k5 newId)) (hu : h.get? u = some (kxs_mw i x)) (he : h.get? x = some (excObj C t none .none)) (hz : rest.length ≤ sizeLine)
    (fin : ∀ h', (∀ b o, b ≠ x → h.get? b = some o → h'.get? b = some o) → h'.get? x = some (excObj C h.objs.size none .none) → Q .none ⟨h', g, d, tk, os⟩) :
    wpAny (model prog w) A (call (.ref u) rest) Q E ⟨h, g, d, tk, os⟩ := by
  refine wpAny_call (codeAny_of_tree ?_)
  show wpAny _ A.in1 (callAny (.ref u) ⟨rest, []⟩) _ _ _
  simp only [callAny]
  refine wpAny_bind (wpAny_load hu ?_)
  simp only [kxs_mw, show (Value.type "method-wrapper" == Value.type "method" || Value.type "method-wrapper" == Value.type "builtin_function_or_method" || Value.type "method-wrapper" == Value.type "method-wrapper") = true by decide, if_true]
  refine W.KFB.if_so (by decide) ?_
  refine wpAny_bind (check_bound_init FB.toExcCallFacts hC he rfl ?_)
  refine wpAny_bind (wpAny_pure (wpAny_pure ?_))
  refine ⟨plainId_quiet FB.init.plain _, codeAny_builtin FB.initEntry ?_⟩
  exact exc_init_tree (cls := .ref C) (t0 := t) (dv := none) (c2 := .none) (c3 := .none) (b4 := .bool false) he hz fun h' k e' _ => fin h' k e'
end
theorem eval_mcall {o : Expr} {name : Str} {q2 q7 : Pos} {vals : List Expr} {q6 : Pos} (env : Env) (hpos : (q2.endLine == q7.line) = true) :
    eval (.Call (.Attribute o name q2) [.JoinedStr vals q6] [] q7) env = (do
      let ov ← attributeBase o name env (eval o env)
      standAt q2.atName
      let (f, first) ← holding [ov] (getMethod ov name (do return (← importBound o env).getD true))
      callWith q7 f first (backTo q7 (starEach [.JoinedStr vals q6] env)) []) := by
  show (do
    let ov ← attributeBase o name env (eval o env)
    standAt q2.atName
    methodCall o name q2 q7 env ov 1 (backTo q7 (starEach [.JoinedStr vals q6] env)) []) = _
  have hf : methodCallForm 1 (backTo q7 (starEach [.JoinedStr vals q6] env)) [] = true := by rfl
  unfold methodCall methodCallPos calleeOf
  simp only [hf, hpos, Bool.not_true, Bool.false_or, if_true, pure_bind]
/-! ### the body, as it stands in the text -/
def initBody (pre part attr : Str) (j : Nat) (q0 q1 q2 q3 q4 q5 q6 q7 q8 q9 q10 q11 q12 : Pos) : List Stmt :=
  [.Expr (.Call (.Attribute (.Call (.Name "super" q0) [] [] q1) "__init__" q2) [.JoinedStr [.Constant (.str pre) j q3, .FormattedValue (.Name part q4) (-1) none q5] q6] [] q7) q8,
   .Assign [.Attribute (.Name "self" q9) attr q10] (.Name part q11) q12]
abbrev initScope (nms : List (Str × NameKind)) : Scope := { kind := .function, names := nms, isGenerator := false, isCoroutine := false, more := [] }
/-- what is known of such an __init__, written -/
structure InitK (P : Program) (K : PySem.W.Frag) (mg : Str → Option Value) (C fI : Addr) (part attr : Str) (fd : FuncData) : Prop where
  ex : ∃ (oc ccl cl0 dV kV doc pm ct : Value) (od cdd cld : Option Addr) (an : Option Addr) (osl ccs csl : Array (Option Value)) (cc cda : Addr) (qual pre file : Str) (tf : Tok) (params : Arguments) (nms : List (Str × NameKind)) (vs : Array Value) (j : Nat) (q0 q1 q2 q3 q4 q5 q6 q7 q8 q9 q10 q11 q12 : Pos),
    fd = PySem.W.ksFn "__init__" qual params (initBody pre part attr j q0 q1 q2 q3 q4 q5 q6 q7 q8 q9 q10 q11 q12) (initScope nms) dV kV doc pm an (.ref cda) ct cc ∧
    K.lookup fI = some ⟨oc, od, .func fd, osl⟩ ∧ PySem.W.codeIn K (.ref cda) qual = true ∧
    K.lookup cda = some ⟨ccl, cdd, .fields vs, ccs⟩ ∧ vs[2]? = some (.str file tf) ∧ ((P.main.file : Str) == file) = true ∧
    K.lookup cc = some ⟨cl0, cld, .cell (some (.ref C)), csl⟩ ∧
    NScope ["self", part, "__class__"] ["self", part] ["__class__"] (initScope nms) ∧ nms.lookup ("super" : Str) = some .globalImplicit ∧
    (q2.endLine == q7.line) = true ∧ (∃ ar : Arg, (params.posonlyargs ++ params.args).head? = some ar ∧ ar.arg = ("self" : Str)) ∧ pre.length ≤ 1000
  sup : mg "super" = none
  top : (P.main.scope.names.lookup ("super" : Str)).isSome = false
  cls : OexC K C
  along : ∃ cd, PySem.W.clsIn K C = some cd ∧ PySem.W.alongIn K "__init__" ((cd.mro.dropWhile (· != .ref C)).drop 1) = some (some (.builtin "ValueError.__init__"))
  ve : PySem.W.subIn K (.ref C) (.type "ValueError") = some true
  third : PySem.W.nsIn K cStatics "thirdparty.any" = some none
  no : PySem.W.findIn K (.ref C) attr = some none
  self : PySem.W.mroIn K C (.ref C) = some true
  dbg : (part == ("__debug__" : Str)) = false
  cdc : (part == ("__classdict__" : Str)) = false
section
variable {P : Program} {w : World} {K : PySem.W.Frag} {mg : Str → Option Value} {base : Heap} {CX : CXT} {C fI : Addr} {part attr : Str} {fd : FuncData}
theorem init_run (IK : InitK P K mg C fI part attr fd) (A : Around) (outer : List Env) (s : Shared) (H : Hp) (args : Args) (us : List Value) (a : Addr) (y : V) (Q : VK) (E : XK) (hr : Room 1 A) (e0 : Env0 P w K mg base A outer s H)
    (hb : BindsTo s fd args ((["self", part] : List Str).zip us)) (hv : Vals [.ref a, y] us) (ha : H a = some (exo a C none)) (hf : ∀ env : Env, Fmt P w (A.deeper env) H y)
    (hq : ∀ d, H d = none → d ≠ a → Q .non (upd (upd H d (exd d [(attr, y)])) a (exo a C (some d)))) :
    codeAny (model P w) A (.call (.ref fI) args) (CR CX outer P w H s Q E) s := by
  obtain ⟨oc, ccl, cl0, dV, kV, doc, pm, ct, od, cdd, cld, an, osl, ccs, csl, cc, cda, qual, pre, file, tf, params, nms, vs, j, q0, q1, q2, q3, q4, q5, q6, q7, q8, q9, q10, q11, q12, rfl, lk, hcd, hcode, hvs, hfile, hcell, S, hks, hpos, ⟨ar, har, har2⟩, hpre⟩ := IK.ex
  obtain ⟨cd, hcls, hal⟩ := IK.along
  have KX : K.In s.heap := e0.mod.kin.keeps fun b o e => (e0.bs b o e).1
  have lim : s.heap.NoLimit := e0.mod.nolimit.keeps fun b o e => (e0.bs b o e).1
  have hkc : nms.lookup ("__class__" : Str) = some .free := S.frk _ (by simp)
  refine PySem.ks_codeAny_call_defAt (binds := (["self", part] : List Str).zip us) hr.depth (KX _ _ lk) rfl lim (PySem.W.codeRec_of KX hcd) rfl hb S.nocell (fun ⟨n, _⟩ hy => S.par n (List.of_mem_zip hy).1) (fun h₁ hns kp => ?_) S.co S.gen S.kind
  let F : NF := ⟨"__init__", qual, params, initBody pre part attr j q0 q1 q2 q3 q4 q5 q6 q7 q8 q9 q10 q11 q12, initScope nms, [("__class__", cc)], cda⟩
  let X : Cx := ncx CX P w K mg base ["self", part, "__class__"] F fI A outer s H E
  have C0 : CellsAt F.cl ["__class__"] [none] s.heap H := by
    have hn : ∀ y c, List.lookup y F.cl = some c → y = "__class__" ∧ c = cc := fun y c e => by
      have e : List.lookup y [(("__class__" : Str), cc)] = some c := e
      simp only [List.lookup] at e
      split at e
      · rename_i z
        cases e
        exact ⟨by simpa using z, rfl⟩
      · cases e
    have hbase : base.get? cc = some ⟨cl0, cld, .cell (some (.ref C)), csl⟩ := e0.mod.kin _ _ hcell
    refine ⟨rfl, fun y c e => ?_, fun x y c e1 e2 => ?_, fun i y e => ?_⟩
    · obtain ⟨rfl, rfl⟩ := hn y c e
      exact ⟨(e0.bs _ _ hbase).2, _, _, (e0.bs _ _ hbase).1, rfl⟩
    · rw [(hn x c e1).1, (hn y c e2).1]
    · refine ⟨cc, ?_, fun v hv => ?_⟩
      · cases i with
        | zero =>
          cases e
          simp [F, List.lookup]
        | succ i => simp at e
      · cases i <;> simp at hv
  have I : Inv X [] (startF ["self", part, "__class__"] [.ref a, y] [none]) H { s with heap := h₁, toks := s.toks + ((["self", part] : List Str).zip us).length } := inv_startN S hr.hd e0 rfl hv C0 hns kp
  obtain ⟨nm, qn, N0, bs, bm, sn, sub, ab, col, dd0, k0, k1, k2, k3, k5, hC, hbm⟩ := IK.cls.cls
  -- super().__init__(f'..')
  refine PySem.ks_wpAt_execs_cons (PySem.ks_wpAt_Expr_any (PySem.ks_wpAt_MethodCall ?_ (eval_mcall _ hpos)))
  refine PySem.ks_wpAt_super_base (ar := ar) hks hkc (by decide +kernel) rfl (I.kIn _ _ lk) rfl har rfl (I.kIn _ _ hcode) rfl hvs hfile IK.top ?_
  obtain ⟨mb, hb1, hb2⟩ := I.mod.blt
  refine PySem.W.ks_loadName_global S.kind hks (Calls.loadGlobal_builtin (I.mod.glob.keeps I.bk) IK.sup (hb1.keeps I.bk) ((hb2 _ (by decide)).trans (by decide +kernel : bootBuiltins "super" = some (.type "super"))) ⟨rfl, ?_⟩)
  refine wpAny_loadName_free S.kind hkc (show (List.lookup ("__class__" : Str) [(("__class__" : Str), cc)]) = some cc by simp [List.lookup]) ⟨_, I.kIn _ _ hcell, rfl⟩ ?_
  rw [har2]
  obtain ⟨m, hn, hl⟩ := id I.loc
  obtain ⟨u0, ru, lu⟩ := hl 0 ("self" : Str) (.ref a) rfl rfl (.inl (S.par _ (by simp)))
  obtain rfl : u0 = Value.ref a := ru
  have hsl : nms.lookup ("self" : Str) = some .local := S.par _ (by simp)
  have hself : m ("self" : Str) = some (.ref a) := by
    rcases lu with ⟨_, z⟩ | ⟨z, _⟩
    · exact z
    · have z : nms.lookup ("self" : Str) = some .cell ∨ nms.lookup ("self" : Str) = some .free := z
      rw [hsl] at z
      rcases z with z | z <;> cases z
  refine wpAny_loadName_local S.kind hsl hn hself ?_
  obtain ⟨oD, hD1, hD2⟩ : ∃ oD, h₁.get? C = some oD ∧ oD.data = .cls cd := by
    unfold PySem.W.clsIn at hcls
    split at hcls
    · rename_i c d cd' sl ho
      cases hcls
      exact ⟨_, I.kIn _ _ ho, rfl⟩
    · cases hcls
  obtain ⟨t1, hx⟩ := exo_at I.hok ha
  have naC : a ≠ C := fun z => by
    have hb0 : base.get? C = _ := e0.mod.kin _ _ hC
    have := (e0.bs _ _ hb0).2
    rw [← z, ha] at this
    cases this
  refine PySem.ks_wpAny_isType_cls hD1 hD2 ⟨rfl, ?_⟩
  refine PySem.ks_wpAny_call_super hD1 hD2 hx rfl (fun c => by intro z; cases z) (PySem.W.looks_mroIn I.kIn IK.self) (fun h' e k => ?_)
  have I2 : Inv X [] (startF ["self", part, "__class__"] [.ref a, y] [none]) H { s with heap := h', toks := s.toks + ((["self", part] : List Str).zip us).length } := I.kept k
  obtain ⟨t2, hx2⟩ := exo_at I2.hok ha
  have IA : PySem.W.InstAt h' a (PySem.W.excObj C t2 none .none) C none := ⟨hx2, rfl, rfl, trivial⟩
  refine PySem.W.kxs_getMethod PySem.W.kxs_ValueError e (PySem.W.looks_opaque I2.kIn IK.third) (fun A Q E s k q => wpAny_bind ((PySem.W.looks_clsIn I2.kIn hcls) A _ E s k (wpAny_pure q))) rfl I2.kIn hal (IA.type.andThen (PySem.W.looks_subIn I2.kIn IK.ve)) naC (by decide +kernel) ?_
  have kp3 : ∀ b o, h'.get? b = some o → (h'.push (PySem.W.kxs_mw "ValueError.__init__" a)).get? b = some o := fun b o e => Heap.get?_push_of_some _ e
  have I3 : Inv X [(h'.objs.size, PySem.W.kxs_mw "ValueError.__init__" a)] (startF ["self", part, "__class__"] [.ref a, y] [none]) H { s with heap := h'.push (PySem.W.kxs_mw "ValueError.__init__" a), toks := s.toks + ((["self", part] : List Str).zip us).length + 1 } :=
    (I2.kept (t' := s.toks + ((["self", part] : List Str).zip us).length + 1) kp3).pins_of fun p hp => by
      obtain rfl := List.mem_singleton.mp hp
      have hnew : h'.objs.size ≤ h'.objs.size := Nat.le_refl _
      refine ⟨Heap.get?_push_size _ rfl, I2.hok.fresh hnew, fun z => ?_, I2.nofs hnew, fun v z => by cases z⟩
      have := I2.lt
      rw [← z] at this
      exact absurd this (Nat.lt_irrefl _)
  refine PySem.W.kxs_callWith (i := "ValueError.__init__") (x := a) rfl ?_
  refine Calls.evalArgs_plain ?_
  have hpj : PA X [.JoinedStr [.Constant (.str pre) j q3, .FormattedValue (.Name part q4) (-1) none q5] q6] _ :=
    pa_cons (pe_joined (PJ.cons pe_str (PJ.cons (pe_fmtA (pe_var (i := 1) rfl (.inl (S.par _ (by simp))) IK.dbg IK.cdc)) PJ.nil))) pa_nil
  refine wpAny_mono (hpj.run q7 _ _ _ H (fun vs1 H1 => H1 = H ∧ vs1.length = 1) I3 ?_) (fun us1 s4 h4 => ?_) fun er s' h' => h'
  · -- the text
    refine ⟨_, rfl, by rw [strLen_append]; rw [sizeLine_eq]; show 0 + pre.length ≤ _; omega, _, rfl, hf _, fun z hz => ⟨z, rfl, ?_, rfl, rfl⟩⟩
    rw [strLen_append, strLen_append, sizeLine_eq]
    show 0 + pre.length + z.length ≤ _
    omega
  obtain ⟨vs1, H1, I4, r4, rfl, hl4⟩ := h4
  have hu4 := (I4.pin (h'.objs.size, PySem.W.kxs_mw "ValueError.__init__" a) (by simp)).1
  obtain ⟨t4, hx4⟩ := exo_at I4.hok ha
  have hC4 := I4.kIn _ _ hC
  have hlen : us1.length ≤ sizeLine := by
    rw [← Paired.length r4, hl4, sizeLine_eq]
    omega
  obtain ⟨h4, g4, d4, tk4, os4⟩ := s4
  refine ⟨hu4, call_mw PySem.F.excBase_ValueError hC4 hu4 hx4 hlen fun h5 k5 e5 => ?_⟩
  have J := I4.write (t' := tk4) (x := a) (e := a) (o := exo a C none) (by rw [ha]; exact True.intro) (.inl rfl) k5 ⟨_, e5⟩ (exo_ok e5)
  have eu : upd H1 a (exo a C none) = H1 := by
    funext b
    by_cases hb : b = a
    · rw [hb, upd_same, ha]
    · rw [upd_ne hb]
  rw [eu] at J
  have I5 : Inv X [] (startF ["self", part, "__class__"] [.ref a, y] [none]) H1 ⟨h5, g4, d4, tk4, os4⟩ := J.pins_of fun p hp => by cases hp
  -- self.part = part
  refine wpAt_of_wpAny ?_
  have hps : PSs X [.Assign [.Attribute (.Name "self" q9) attr q10] (.Name part q11) q12] _ :=
    pss_one (ps_ost (pe_var (i := 0) rfl (.inl hsl)) (pe_var (i := 1) rfl (.inl (S.par _ (by simp))) IK.dbg IK.cdc))
  refine wpAny_mono (hps.run [] _ _ H1 { nx := fun _ H' => Q .non H', rt := Q } I5 ⟨y, rfl, .ref a, rfl, a, C, rfl, IK.cls, IK.no, .inl ⟨ha, fun dx n ne => hq dx n ne⟩⟩) (fun fl s' hs => ?_) fun e s' hs => hs
  cases fl with
  | ret u =>
    obtain ⟨v, σ', H', J, rv, q⟩ := hs
    exact ⟨v, H', J.os, J.bare, J.base, J.hok, rv, q⟩
  | next =>
    obtain ⟨σ', H', J, q⟩ := hs
    exact ⟨.non, H', J.os, J.bare, J.base, J.hok, rfl, q⟩
  | brk =>
    obtain ⟨_, _, _, q⟩ := hs
    exact False.elim q
  | cont =>
    obtain ⟨_, _, _, q⟩ := hs
    exact False.elim q
end
end Ob
end
section
set_option linter.all false
set_option maxRecDepth 100000
set_option maxHeartbeats 4000000
/-! plain data at tracked addresses: in an f-string, by repr -/
namespace Ob
open PySem PySem.Spec PyProof.Rows L2
mutual
/-- v is this data: a list of lists, tuples, numbers, texts; a dict of tuples, numbers, texts -/
def DataAt (H : Hp) : PyData → V → Prop
  | .none, v => v = .non
  | .bool b, v => v = .bl b
  | .int i, v => v = .int i
  | .str x, v => v = .str x
  | .list ds, v => ∃ a xs, v = .ref a ∧ H a = some (.lst xs) ∧ DataAll H ds xs
  | .tuple ds, v => ∃ a xs, v = .ref a ∧ H a = some (.tup xs) ∧ DataAll H ds xs
  | .dict kvs, v => ∃ a es, v = .ref a ∧ H a = some (.dK es) ∧ DataKvs H kvs es
def DataAll (H : Hp) : List PyData → List V → Prop
  | [], vs => vs = []
  | d :: ds, vs => ∃ x xs, vs = x :: xs ∧ DataAt H d x ∧ DataAll H ds xs
def DataKvs (H : Hp) : List (PyData × PyData) → List (Key × V) → Prop
  | [], es => es = []
  | (k, d) :: kvs, es => ∃ (x : Str) (v : V) (es' : List (Key × V)), es = (Sum.inr x, v) :: es' ∧ k = .str x ∧ DataAt H d v ∧ DataKvs H kvs es'
end
mutual
/-- no list within -/
def noList : PyData → Bool
  | .none | .bool _ | .int _ | .str _ => true
  | .list _ => false
  | .tuple ds => noListAll ds
  | .dict kvs => noListKv kvs
def noListAll : List PyData → Bool
  | [] => true
  | d :: ds => noList d && noListAll ds
def noListKv : List (PyData × PyData) → Bool
  | [] => true
  | (_, d) :: r => noList d && noListKv r
end
section
variable {P : Program} {w : World} {H : Hp} {h : Heap}
theorem kvs_reads {es : List DictEntry} {xs : List (Key × Value)} (p : Pairs (mixKind P w) es xs) : True := trivial
mutual
theorem reads_of (ok : HOk P w H h) : ∀ (d : PyData) (v : V) (u : Value), DataAt H d v → RelV v u → ∃ as, Reads h u d as ∧ (noList d = true ∨ H sysModules = none → sysModules ∉ as)
  | .none, _, u, e, r => by
    have e : _ = V.non := e
    subst e
    cases r
    exact ⟨_, .none, fun _ z => by cases z⟩
  | .bool b, _, u, e, r => by
    have e : _ = V.bl b := e
    subst e
    cases r
    exact ⟨_, .bool b, fun _ z => by cases z⟩
  | .int i, _, u, e, r => by
    have e : _ = V.int i := e
    subst e
    obtain ⟨t, rfl⟩ := r
    exact ⟨_, .int i t, fun _ z => by cases z⟩
  | .str x, _, u, e, r => by
    have e : _ = V.str x := e
    subst e
    obtain ⟨t, rfl⟩ := r
    exact ⟨_, .str x t, fun _ z => by cases z⟩
  | .list ds, v, u, e, r => by
    obtain ⟨a, xs, rfl, ha, hd⟩ : ∃ a xs, v = V.ref a ∧ H a = some (.lst xs) ∧ DataAll H ds xs := by simpa only [DataAt] using e
    cases r
    obtain ⟨_, its, n, rv, ho⟩ := ok a _ ha
    obtain ⟨as, hr, hn⟩ := readsAll_of ok ds xs its hd rv
    refine ⟨_, .list ho rfl rfl (by simpa using hr), fun z hm => ?_⟩
    rcases z with z | z
    · simp [noList] at z
    · rcases List.mem_cons.mp hm with e | hm
      · rw [e, ha] at z
        cases z
      · exact hn (.inr z) hm
  | .tuple ds, v, u, e, r => by
    obtain ⟨a, xs, rfl, ha, hd⟩ : ∃ a xs, v = V.ref a ∧ H a = some (.tup xs) ∧ DataAll H ds xs := by simpa only [DataAt] using e
    cases r
    obtain ⟨_, its, rv, o, ho, hc, n, hdt⟩ := ok a _ ha
    obtain ⟨as, hr, hn⟩ := readsAll_of ok ds xs its hd rv
    exact ⟨_, .tuple ho hc hdt (by simpa using hr), fun z => hn (z.imp (fun z => by simpa only [noList] using z) id)⟩
  | .dict kvs, v, u, e, r => by
    obtain ⟨a, es, rfl, ha, hd⟩ : ∃ a es, v = V.ref a ∧ H a = some (.dK es) ∧ DataKvs H kvs es := by simpa only [DataAt] using e
    cases r
    obtain ⟨_, hs, vs, rv, o, es', ep, ho, hx, hdt, hk, hp, _⟩ := ok a _ ha
    obtain ⟨as, bs, h1, h2, hn⟩ := readsKv_of ok kvs es vs es'.toList hd rv hp
    refine ⟨_, .dict (o := o) (es := es') (n := ep) ho hx.1 hdt h1 h2, fun z hm => ?_⟩
    rcases List.mem_append.mp hm with hm | hm
    · rcases List.mem_cons.mp hm with hm | hm
      · rw [← hm] at hs
        simp at hs
      · exact (hn (z.imp (fun z => by simpa only [noList] using z) id)).1 hm
    · exact (hn (z.imp (fun z => by simpa only [noList] using z) id)).2 hm
theorem readsAll_of (ok : HOk P w H h) : ∀ (ds : List PyData) (xs : List V) (us : List Value), DataAll H ds xs → Vals xs us → ∃ as, ReadsAll h us ds as ∧ (noListAll ds = true ∨ H sysModules = none → sysModules ∉ as)
  | [], xs, us, e, r => by
    have e : xs = [] := by simpa only [DataAll] using e
    subst e
    cases r
    exact ⟨_, .nil, fun _ z => by cases z⟩
  | d :: ds, xs, us, e, r => by
    obtain ⟨x, xs', rfl, hd, hds⟩ : ∃ x xs', xs = x :: xs' ∧ DataAt H d x ∧ DataAll H ds xs' := by simpa only [DataAll] using e
    cases r with
    | cons r1 r2 =>
      obtain ⟨as, h1, n1⟩ := reads_of ok d _ _ hd r1
      obtain ⟨bs, h2, n2⟩ := readsAll_of ok ds _ _ hds r2
      refine ⟨_, .cons h1 h2, fun z hm => ?_⟩
      have z : (noList d = true ∧ noListAll ds = true) ∨ H sysModules = none := z.imp (fun z => by simpa only [noListAll, Bool.and_eq_true] using z) id
      rcases List.mem_append.mp hm with hm | hm
      · exact n1 (z.imp And.left id) hm
      · exact n2 (z.imp And.right id) hm
theorem readsKv_of (ok : HOk P w H h) : ∀ (kvs : List (PyData × PyData)) (es : List (Key × V)) (vs : List (Key × Value)) (ds : List DictEntry), DataKvs H kvs es → KV es vs → Pairs (mixKind P w) ds vs →
    ∃ as bs, ReadsAll h (ds.map (·.key)) (kvs.map (·.1)) as ∧ ReadsAll h (ds.map (·.val)) (kvs.map (·.2)) bs ∧ (noListKv kvs = true ∨ H sysModules = none → sysModules ∉ as ∧ sysModules ∉ bs)
  | [], es, vs, ds, e, r, p => by
    have e : es = [] := by simpa only [DataKvs] using e
    subst e
    cases r
    cases p
    exact ⟨[], [], .nil, .nil, fun _ => ⟨fun z => (nomatch z), fun z => (nomatch z)⟩⟩
  | (k, d) :: kvs, es, vs, ds, e, r, p => by
    obtain ⟨x, v, es', rfl, rfl, hd, hds⟩ : ∃ (x : Str) (v : V) (es' : List (Key × V)), es = (Sum.inr x, v) :: es' ∧ k = .str x ∧ DataAt H d v ∧ DataKvs H kvs es' := by simpa only [DataKvs] using e
    cases r with
    | @cons _ q _ vs2 r1 r2 =>
      cases p with
      | @cons e _ es2 _ p1 p2 p3 =>
        obtain ⟨q1, q2⟩ := q
        obtain ⟨e1, e2⟩ := r1
        dsimp only at e1 e2 p1 p2
        subst e1
        obtain ⟨as, h1, n1⟩ := reads_of ok d _ _ hd e2
        obtain ⟨cs, bs, h2, h3, n2⟩ := readsKv_of ok kvs _ _ _ hds r2 p3
        obtain ⟨t, hk⟩ : ∃ t, e.key = Value.str x t := Value.isStrOf_shape p1
        refine ⟨_, _, .cons (by show Reads h e.key (PyData.str x) _; rw [hk]; exact .str x t) h2, .cons (by show Reads h e.val d _; rw [p2]; exact h1) h3, fun z => ?_⟩
        have z : (noList d = true ∧ noListKv kvs = true) ∨ H sysModules = none := z.imp (fun z => by simpa only [noListKv, Bool.and_eq_true] using z) id
        refine ⟨fun hm => (n2 (z.imp And.right id)).1 (by simpa using hm), fun hm => ?_⟩
        rcases List.mem_append.mp hm with hm | hm
        · exact n1 (z.imp And.left id) hm
        · exact (n2 (z.imp And.right id)).2 hm
end
/-- data that may stand in a message -/
structure Small (d : PyData) : Prop where
  show_ : d.showable = true
  dict : d.hasDict = true → noList d = true
  len : d.shown.length ≤ 100000
  depth : d.depth ≤ 50
  txt : ∀ x, d = .str x → x.length ≤ 100000
theorem fmt_data {A : Around} {d : PyData} {v : V} (hg : A.guards = some []) (hu : A.units + 60 < cLine) (S : Small d) (hd : DataAt H d v) : Fmt P w A H v := by
  intro E s u Q ok r q
  obtain ⟨as, hr, hn⟩ := reads_of ok d v u hd r
  have hz : d.shown.length ≤ sizeLine := by
    have := S.len
    rw [sizeLine_eq]
    omega
  have hdp := S.depth
  cases hr with
  | none => exact wpAny_formatField_none (q _ _ _ s.heap (by decide +kernel) fun _ _ z => z)
  | bool b => exact wpAny_formatField_bool (q _ _ _ s.heap (by cases b <;> decide +kernel) fun _ _ z => z)
  | int i t =>
    have hs := S.show_
    simp only [PyData.showable, decide_eq_true_eq] at hs
    have hl := S.len
    simp only [PyData.shown] at hl
    exact wpAny_formatField_int hs (q _ _ _ s.heap hl fun _ _ z => z)
  | str x t =>
    have e : v = V.str x := by simpa only [DataAt] using hd
    subst e
    exact fmt_str (S.txt x rfl) E s _ Q ok ⟨t, rfl⟩ q
  | list a1 a2 a3 a4 => exact formatField_of_reads (.list a1 a2 a3 a4) S.show_ (fun z => hn (.inl (S.dict z))) hg (by omega) (fun _ _ z => z) (fun h' u tk k => q _ _ _ h' S.len k) hz
  | tuple a1 a2 a3 a4 => exact formatField_of_reads (.tuple a1 a2 a3 a4) S.show_ (fun z => hn (.inl (S.dict z))) hg (by omega) (fun _ _ z => z) (fun h' u tk k => q _ _ _ h' S.len k) hz
  | dict a1 a2 a3 a4 a5 => exact formatField_of_reads (.dict a1 a2 a3 a4 a5) S.show_ (fun z => hn (.inl (S.dict z))) hg (by omega) (fun _ _ z => z) (fun h' u tk k => q _ _ _ h' S.len k) hz
end
/-- repr([..]) of tracked data -/
def rReprD : List V → Hp → VK → Prop := fun xs H Q => ∃ (a : Addr) (d : PyData), xs = [.ref a] ∧ DataAt H d (.ref a) ∧ d.showable = true ∧ d.shown.length ≤ 100000 ∧ d.depth ≤ 50 ∧ Q (.str d.shown) H
theorem call_reprD {X : Cx} (hg : X.A.guards = some []) (hu : X.A.units + 60 < cLine) {o1 : Obj} (h1 : X.K.lookup sysModules = some o1) : CallR X (.builtin "repr") rReprD := by
  intro pins s σ H xs us Q I r h
  obtain ⟨a, d, rfl, hd, hs, hl, hdp, q⟩ := h
  cases r with
  | cons rx rr =>
    cases rr
    cases rx
    obtain ⟨as, hr, hn⟩ := reads_of I.hok d _ _ hd rfl
    have z : H sysModules = none := (I.bs _ _ (I.mod.kin _ _ h1)).2
    have hz : d.shown.length ≤ sizeLine := by
      rw [sizeLine_eq]
      omega
    exact repr_of_reads' hr hs (fun _ => hn (.inr z)) hg (by omega) (fun _ _ z => z) (fun h' u tk k => ⟨.str d.shown, H, I.kept k, ⟨_, rfl⟩, q⟩) hz
end Ob
end
section
set_option linter.all false
set_option maxRecDepth 100000
set_option maxHeartbeats 4000000
/-! repr of a tracked list of data: only a dict within asks what stands where -/
namespace Ob
open PySem PySem.Spec PyProof.Rows L2
def rReprL : List V → Hp → VK → Prop := fun xs H Q => ∃ (a : Addr) (ys : List V) (ds : List PyData), xs = [.ref a] ∧ H a = some (.lst ys) ∧ DataAll H ds ys ∧ ds ≠ [] ∧ (PyData.list ds).showable = true ∧
  (PyData.list ds).shown.length ≤ 100000 ∧ (PyData.list ds).depth ≤ 50 ∧ ((PyData.list ds).hasDict = true → noListAll ds = true) ∧ Q (.str (PyData.list ds).shown) H
theorem call_reprL {X : Cx} (hg : X.A.guards = some []) (hu : X.A.units + 60 < cLine) : CallR X (.builtin "repr") rReprL := by
  intro pins s σ H xs us Q I r h
  obtain ⟨a, ys, ds, rfl, ha, hd, hne, hs, hl, hdp, hdict, q⟩ := h
  cases r with
  | cons rx rr =>
    cases rr
    cases rx
    obtain ⟨_, its, n, rv, ho⟩ := I.hok a _ ha
    obtain ⟨as, hr, hn⟩ := readsAll_of I.hok ds ys its hd rv
    have whole : Reads s.heap (.ref a) (.list ds) (a :: as) := .list ho rfl rfl (by simpa using hr)
    have fits : (listText (PyData.shownAll ds)).length ≤ sizeLine := by
      have e : (listText (PyData.shownAll ds)).length ≤ 100000 := by simpa only [PyData.shown] using hl
      rw [sizeLine_eq]
      omega
    have deep : PyData.depthAll ds < 50 := by
      simp only [PyData.depth] at hdp
      omega
    have shows : PyData.showableAll ds = true := by
      simp only [PyData.showable] at hs
      exact hs
    have quiet : PyData.hasDictAll ds = true → sysModules ∉ as := fun z => hn (.inl (hdict (by
      simp only [PyData.hasDict]
      exact z)))
    obtain ⟨bs, below, each⟩ := ReprAllK.of_readsAll (prog := X.prog) (w := X.w) hr shows quiet fun t m => Nat.le_trans (listText_mem_le m) fits
    have apart : a ∉ bs := by
      refine not_mem_of_deeper whole ?_ below
      simp only [PyData.depth]
      omega
    have end_ : ∀ (h' : Heap) (t tk : Tok), (∀ b o, s.heap.get? b = some o → h'.get? b = some o) → ∃ v H', Inv X pins σ H' { s with heap := h', toks := tk } ∧ RelV v (.str (listText (PyData.shownAll ds)) t) ∧ Q v H' := fun h' t tk k =>
      ⟨.str (listText (PyData.shownAll ds)), H, I.kept k, ⟨_, rfl⟩, by simpa only [PyData.shown] using q⟩
    refine call_repr_slot (by omega) ⟨_, ho, rfl⟩ F.slot_list_repr.toG ?_
    cases its with
    | nil =>
      cases hr
      exact absurd rfl hne
    | cons x l => exact call_list_reprK ho rfl rfl apart (by simpa using each.length_eq) (fun i y e => each.item i y (by simpa using e)) hg (fun b _ => Clear.nil b) (by show X.A.units + 1 + (PyData.depthAll ds + 1) < cLine; omega) (fun _ _ z => z) (fun h' t tk k => ⟨_, _, rfl, end_ h' t tk k⟩) fits
end Ob
end
section
set_option linter.all false
set_option maxRecDepth 100000
set_option maxHeartbeats 4000000
/-! repr of tracked data without a dict -/
namespace Ob
open PySem PySem.Spec PyProof.Rows L2
def rReprN : List V → Hp → VK → Prop := fun xs H Q => ∃ (a : Addr) (d : PyData), xs = [.ref a] ∧ DataAt H d (.ref a) ∧ d.hasDict = false ∧ d.showable = true ∧ d.shown.length ≤ 100000 ∧ d.depth ≤ 50 ∧ Q (.str d.shown) H
theorem call_reprN {X : Cx} (hg : X.A.guards = some []) (hu : X.A.units + 60 < cLine) : CallR X (.builtin "repr") rReprN := by
  intro pins s σ H xs us Q I r h
  obtain ⟨a, d, rfl, hd, hnd, hs, hl, hdp, q⟩ := h
  cases r with
  | cons rx rr =>
    cases rr
    cases rx
    obtain ⟨as, hr, _⟩ := reads_of I.hok d _ _ hd rfl
    have hz : d.shown.length ≤ sizeLine := by
      rw [sizeLine_eq]
      omega
    exact repr_of_reads' hr hs (fun z => by rw [hnd] at z; cases z) hg (by omega) (fun _ _ z => z) (fun h' u tk k => ⟨.str d.shown, H, I.kept k, ⟨_, rfl⟩, q⟩) hz
/-- a number and a tuple of numbers -/
def duo (p : Int) (ns : List Int) : PyData := .tuple [.int p, .tuple (ns.map PyData.int)]
theorem small_shows : ∀ n : Nat, n < 100 → (PyData.int (n : Int)).showable = true := by decide +kernel
theorem small_showable {i : Int} (h0 : 0 ≤ i) (h1 : i < 100) : (PyData.int i).showable = true := by
  obtain ⟨n, rfl⟩ := Int.eq_ofNat_of_zero_le h0
  exact small_shows n (by omega)
theorem ints_no_dict : ∀ ns : List Int, PyData.hasDictAll (ns.map PyData.int) = false
  | [] => rfl
  | n :: ns => by
    simp only [List.map_cons, PyData.hasDictAll, PyData.hasDict, ints_no_dict ns, Bool.or_self]
theorem ints_showable : ∀ ns : List Int, (∀ x ∈ ns, 0 ≤ x ∧ x < 100) → PyData.showableAll (ns.map PyData.int) = true
  | [], _ => rfl
  | n :: ns, h => by
    have h1 := h n (by simp)
    have h2 := ints_showable ns fun x hx => h x (by simp [hx])
    simp only [List.map_cons, PyData.showableAll, h2, small_showable h1.1 h1.2, Bool.and_self]
theorem ints_shown_len : ∀ ns : List Int, (∀ x ∈ ns, 0 ≤ x ∧ x < 100) → ((PyData.shownAll (ns.map PyData.int)).map (·.length)).sum ≤ 13 * ns.length ∧ (PyData.shownAll (ns.map PyData.int)).length = ns.length
  | [], _ => ⟨Nat.le_refl _, rfl⟩
  | n :: ns, h => by
    have h1 := h n (by simp)
    obtain ⟨h2, h3⟩ := ints_shown_len ns fun x hx => h x (by simp [hx])
    have h4 := PyData.shown_int_le (i := n) (by omega)
    simp only [List.map_cons, PyData.shownAll, List.sum_cons, List.length_cons]
    omega
theorem ints_depth : ∀ ns : List Int, PyData.depthAll (ns.map PyData.int) = 0
  | [] => rfl
  | n :: ns => by
    simp only [List.map_cons, PyData.depthAll, PyData.depth, ints_depth ns]
    rfl
theorem duo_ok {p : Int} {ns : List Int} (hp : 0 ≤ p ∧ p < 100) (hn : ∀ x ∈ ns, 0 ≤ x ∧ x < 100) (hl : ns.length ≤ 256) : (duo p ns).hasDict = false ∧ (duo p ns).showable = true ∧ (duo p ns).shown.length ≤ 100000 ∧ (duo p ns).depth ≤ 50 := by
  refine ⟨?_, ?_, ?_, ?_⟩
  · simp only [duo, PyData.hasDict, PyData.hasDictAll, ints_no_dict, Bool.or_self]
  · simp only [duo, PyData.showable, PyData.showableAll, ints_showable ns hn, Bool.and_true]
    exact small_showable hp.1 hp.2
  · obtain ⟨h1, h2⟩ := ints_shown_len ns hn
    have h3 := tupleText_len_le (PyData.shownAll (ns.map PyData.int))
    have h4 := PyData.shown_int_le (i := p) (by omega)
    have h5 := tupleText_len_le [PyData.shown (.int p), tupleText (PyData.shownAll (ns.map PyData.int))]
    simp only [duo, PyData.shown, PyData.shownAll]
    simp only [List.map_cons, List.map_nil, List.sum_cons, List.sum_nil, List.length_cons, List.length_nil] at h5
    have h6 : (PyData.shown (.int p)) = toString p := by simp only [PyData.shown]
    rw [h6] at h4 h5
    omega
  · simp only [duo, PyData.depth, PyData.depthAll, ints_depth]
    omega
theorem ints_data {H : Hp} : ∀ ns : List Int, DataAll H (ns.map PyData.int) (ns.map V.int)
  | [] => by simp only [List.map_nil, DataAll]
  | n :: ns => by
    simp only [List.map_cons, DataAll, DataAt]
    exact ⟨_, _, rfl, rfl, ints_data ns⟩
theorem duo_data {H : Hp} {a t : Addr} {p : Int} {ns : List Int} (ha : H a = some (.tup [.int p, .ref t])) (ht : H t = some (.tup (ns.map V.int))) : DataAt H (duo p ns) (.ref a) := by
  simp only [duo, DataAt, DataAll]
  exact ⟨a, _, rfl, ha, _, _, rfl, rfl, _, _, rfl, ⟨t, _, rfl, ht, ints_data ns⟩, rfl⟩
end Ob
end
section
set_option linter.all false
set_option maxRecDepth 100000
set_option maxHeartbeats 4000000
/-! promises of defs that run where no repr is under way -/
namespace Ob
open PySem PySem.Spec PyProof.Rows L2
/-- a def's promise, kept where no repr is under way -/
structure FnG (P : Program) (w : World) (K : PySem.W.Frag) (mg : Str → Option Value) (base : Heap) (k : Nat) (f : Addr) (fd : FuncData) (ps : List Str) (sp : Sp) : Prop where
  many : ∀ vs H Q E, sp vs H Q E → vs.length = ps.length
  go : ∀ (A : Around) (outer : List Env) (s : Shared) (H : Hp) (us : List Value) (vs : List V) (Q : VK) (E : XK), A.guards = some [] → Room k A → Env0 P w K mg base A outer s H → BindsTo s fd ⟨us, []⟩ (ps.zip us) → Vals vs us → sp vs H Q E →
    codeAny (model P w) A (.call (.ref f) ⟨us, []⟩) (CR CX0 outer P w H s Q E) s
section
variable {P : Program} {w : World} {K : PySem.W.Frag} {mg : Str → Option Value} {base : Heap}
/-- a def of the text, by its body -/
theorem fnG_of {x qual : Str} {st : Stmt} {f : Addr} {fd : FuncData} {N ps : List Str} {k : Nat} {sp : Sp} (F : Fun K x qual st f fd) (S : FnScope N ps (defScope st)) (len : ∀ vs H Q E, sp vs H Q E → vs.length = ps.length)
    (body : ∀ (cdv : Value) (A : Around) (outer : List Env) (s : Shared) (H : Hp) (vs : List V) (Q : VK) (E : XK), (A.deeper (envOfC qual (defScope st) s.heap.objs.size f cdv)).guards = some [] → Room k (A.deeper (envOfC qual (defScope st) s.heap.objs.size f cdv)) → sp vs H Q E →
      ∃ t, PSs (cxOf CX0 P w K mg base N qual (defScope st) f cdv A outer s H E) (defBody st) t ∧ t { nx := fun _ H' => Q .non H', rt := Q } (start N vs) H) : FnG P w K mg base (k + 1) f fd ps sp := by
  obtain ⟨oc, od, kV, doc, pm, an, cdv, ct, osl, rfl, lk, hcd⟩ := F.ex
  refine ⟨len, fun A outer s H us vs Q E hG hr e0 hb r hsp => ?_⟩
  have KX : K.In s.heap := e0.mod.kin.keeps fun b o e => (e0.bs b o e).1
  have lim : s.heap.NoLimit := e0.mod.nolimit.keeps fun b o e => (e0.bs b o e).1
  have kinds : ∀ y ∈ ps.zip us, (defScope st).names.lookup y.1 = some .local ∨ ((defScope st).names.lookup y.1 = some .cell ∧ ((cellsFrom (s.heap.objs.size + 1) (defScope st).names []).lookup y.1).isSome = true) := fun ⟨n, v⟩ hy =>
    (S.par n (List.of_mem_zip hy).1).elim .inl fun q => .inr ⟨q, PySem.W.cellsFrom_some _ _ _ (.inl q)⟩
  refine codeAny_call_function hr.depth (KX _ _ lk) rfl S.co S.gen rfl (PySem.W.codeRec_of KX hcd) (hb _ _ _ _ (wpAny_newFunctionEnv_cells S.kind kinds fun env he s1 x => ?_))
  subst he
  obtain ⟨t, ht, hq⟩ := body cdv A outer s H vs Q E hG (hr.deeper _) hsp
  have I := inv_start (CX := CX0) (w := w) (E := E) S hr.hd e0 (len _ _ _ _ hsp) r x
  refine ⟨lim.keeps x.toInCall.keep, codeAny_func (wpAny_mono (ht.run [] s1 _ H _ I hq) (fun fl s' hs => ?_) fun _ _ z => z)⟩
  match fl, hs with
  | .ret u, ⟨v, σ', H', J, rv, q⟩ => exact ⟨v, H', J.os, J.bare, J.base, J.hok, rv, q⟩
  | .next, ⟨σ', H', J, q⟩ => exact ⟨.non, H', J.os, J.bare, J.base, J.hok, rfl, q⟩
  | .brk, ⟨_, _, _, q⟩ => exact q.elim
  | .cont, ⟨_, _, _, q⟩ => exact q.elim
end
section
variable {X : Cx} {k : Nat} {f : Addr} {fd : FuncData} {ps : List Str} {sp : Sp} {x : Str} {p pos : Pos} {e : Expr} {es : List Expr} {t : TA}
/-- f(e, ..) -/
theorem pe_callG (hG : X.A.guards = some []) (F : FnG X.prog X.w X.K X.mg X.base k f fd ps sp) (hr : Room k X.A) (hg : Gl X x) (hm : X.mg x = some (.ref f)) (hk : PySem.W.keepIn X.K (.ref f) = true) (hb : Binds X.K fd ps []) (ha : PA X (e :: es) t)
    (hdb : (x == ("__debug__" : Str)) = false := by decide) (he : starEach (e :: es) X.env = (false, eval e X.env) :: starEach es X.env := by rfl) (hpl : (backTo pos (starEach es X.env)).any (·.1) = false := by rfl) :
    PE X (.Call (.Name x p) (e :: es) [] pos) (tCall sp [] E0 t) := by
  refine ⟨fun pins s σ H Q I h => wpAny_Call_Name_kw (ld_glob I hg hm ?_ hdb)⟩
  refine PySem.W.callWith_K (h₀ := X.base) I.ok.mod.kin hk (thn (ha.run pos pins s σ H _ I h) fun us s1 ⟨vs, H1, I1, r, q⟩ => ⟨I1.kIn, ?_⟩) he hpl
  have q : sp vs H1 Q E0 := by
    have q : sp (vs ++ []) H1 Q E0 := q
    rw [List.append_nil] at q
    exact q
  have hl : us.length = ps.length := by rw [← r.length, F.many _ _ _ _ q]
  have hbs := hb s1 us I1.kIn (by rw [List.append_nil]; exact hl)
  rw [List.append_nil] at hbs
  refine wpAny_call (codeAny_mono (F.go X.A X.stack s1 H1 us vs Q E0 hG hr I1.env0 hbs r q) fun r s' hq => ?_)
  match r, hq with
  | .ok (.ret u), hq => exact I1.after hq
  | .error er, hq => exact (show False from hq).elim
  | .ok .next, hq => exact (show False from hq).elim
  | .ok .brk, hq => exact (show False from hq).elim
  | .ok .cont, hq => exact (show False from hq).elim
end
/-- the law's call, behind the top -/
theorem callG {P : Program} {w : World} {K : PySem.W.Frag} {mg mb : Str → Option Value} {k : Nat} {fa a : Addr} {fd : FuncData} {x : Str} {sp : Sp} {s₁ : Shared} {vs : List Value} {ns : List Int}
    (KX : K.In s₁.heap) (hns : s₁.heap.Ns mainGlobals mg) (hb : s₁.heap.Ns builtinsNs mb) (hbb : ∀ x : Str, x ≠ "__name__" → mb x = bootBuiltins x) (hlim : s₁.heap.NoLimit) (hg : s₁.gens = #[])
    (ha : s₁.heap.get? a = some { cls := .type "list", data := .seq vs.toArray }) (hi : IntsAre vs ns) (hl : ns.length ≤ sizeLine) (hr : Room k callerA)
    (F : ∀ base : Heap, K.In base → base.Ns mainGlobals mg → FnG P w K mg base k fa fd [x] sp) (hbind : ∀ (s : Shared) (u : Value), BindsTo s fd ⟨[u], []⟩ [(x, u)])
    (hsp : ∀ H : Hp, SqL K H a (ns.map V.int) → sp [.ref a] H (fun v _ => v = .bl true) fun _ _ _ => False) :
    codeAny (model P w) callerA (.call (.ref fa) ⟨[.ref a], []⟩) (fun r s' => r = .ok (.ret (.bool true)) ∧ OldK s₁.heap s'.heap ∧ s'.os = s₁.os ∧ AllBare s'.gens) s₁ := by
  have rv := vals_ints hi
  let z : HO := .frz { cls := .type "list", data := .seq vs.toArray } (.lst (ns.map V.int))
  -- the script is tracked unless it is one of the module's own objects
  let H : Hp := fun b => if b = a ∧ K.lookup a = none then some z else none
  have at_ : ∀ b u, H b = some u → b = a ∧ K.lookup a = none ∧ u = z := fun b u e => by
    by_cases q : b = a ∧ K.lookup a = none
    · have e : (if b = a ∧ K.lookup a = none then some z else none) = some u := e
      rw [if_pos q] at e
      exact ⟨q.1, q.2, (Option.some.inj e).symm⟩
    · have e : (if b = a ∧ K.lookup a = none then some z else none) = some u := e
      rw [if_neg q] at e
      cases e
  have hok : HOk P w H s₁.heap := fun b u e => by
    obtain ⟨rfl, _, rfl⟩ := at_ b u e
    exact ⟨ha, by rw [List.length_map]; exact hl, vs, _, rv, ha⟩
  have hS : SqL K H a (ns.map V.int) := by
    cases hk : K.lookup a with
    | none => exact .inl (.inr ⟨_, if_pos ⟨rfl, hk⟩⟩)
    | some o =>
      have e := KX a o hk
      rw [ha] at e
      cases e
      exact .inr ⟨_, vs.toArray, _, hk, rfl, rfl, rfl, by rw [List.size_toArray, hi.length]; exact hl, by simpa using rv⟩
  have free : ∀ {b : Addr} {o : Obj}, s₁.heap.get? b = some o → (∀ vs n, o.data ≠ .seq vs n) → H b = none := fun {b o} e d => by
    cases q : H b with
    | none => rfl
    | some u =>
      obtain ⟨rfl, _, _⟩ := at_ b u q
      rw [ha] at e
      cases e
      exact absurd rfl (d _ _)
  have dicts : ∀ {b : Addr} {m : Str → Option Value}, s₁.heap.Ns b m → (hidT s₁.heap H).Ns b m := fun {b m} ⟨o, es, ep, e, d, r⟩ => ⟨o, es, ep, hidT_get e (free e fun vs n q => by rw [d] at q; cases q), d, r⟩
  have kin : K.In (hidT s₁.heap H) := fun b o e => hidT_get (KX b o e) (by
    cases q : H b with
    | none => rfl
    | some u =>
      obtain ⟨rfl, n, _⟩ := at_ b u q
      rw [n] at e
      cases e)
  have M : Mod K mg (hidT s₁.heap H) := ⟨kin, dicts hns, ⟨mb, dicts hb, hbb⟩, let ⟨mc, h1, h2⟩ := hlim; ⟨mc, dicts h1, h2⟩⟩
  have e0 : Env0 P w K mg (hidT s₁.heap H) callerA [] s₁ H := ⟨rfl, M, fun b o e => of_hidT e, Nat.le_of_eq (hidT_size _ _), trivial, fun b hb => absurd (show b ∈ ([] : List Addr) from hb) (by simp), hok, AllBare.of_eq hg⟩
  refine codeAny_mono ((F _ kin (dicts hns)).go callerA [] s₁ H [.ref a] [.ref a] _ _ rfl hr e0 (hbind s₁ (.ref a)) (.cons rfl .nil) (hsp H hS)) fun r s' h => ?_
  match r, h with
  | .error e, h => exact (show False from h).elim
  | .ok .next, h => exact (show False from h).elim
  | .ok .brk, h => exact (show False from h).elim
  | .ok .cont, h => exact (show False from h).elim
  | .ok (.ret u), ⟨v, H', os, bare, un, hok', r', q⟩ =>
    have q : v = .bl true := q
    subst q
    obtain rfl : u = Value.bool true := r'
    refine ⟨rfl, OldK.of_keep fun b o e => ?_, os, bare⟩
    cases q : H b with
    | none => exact un.keep b o e q (fun z => absurd (show b ∈ ([] : List Addr) from z) (by simp)) (by simp)
    | some u =>
      obtain ⟨rfl, _, rfl⟩ := at_ b u q
      obtain ⟨e2, _⟩ := hok' b _ (un.frzs b _ _ q)
      rw [ha] at e
      cases e
      exact e2
end Ob
end
section
set_option linter.all false
set_option maxRecDepth 100000
set_option maxHeartbeats 8000000
namespace K
open PySem PySem.Spec PyProof.Rows L2 Ob
theorem draw_same {H H' : Hp} {d l c : Addr} (D : DrawAt H d l c) (s : ∀ b o, H b = some o → H' b = some o) : DrawAt H' d l c := by
  obtain ⟨⟨r, t, h0, h1⟩, ⟨ns, n1, n2, n3⟩, ⟨cn, c1, c2, c3⟩, ne⟩ := D
  exact ⟨⟨r, t, h0, s _ _ h1⟩, ⟨ns, n1, n2, s _ _ n3⟩, ⟨cn, c1, c2, s _ _ c3⟩, ne⟩
theorem draw_l {H : Hp} {d l c : Addr} (D : DrawAt H d l c) : ∃ o, H l = some o := let ⟨_, _, _, h⟩ := D.large; ⟨_, h⟩
theorem draw_d {H : Hp} {d l c : Addr} (D : DrawAt H d l c) : ∃ o, H d = some o := let ⟨_, _, _, h⟩ := D.ex; ⟨_, h⟩
/-- a new address is neither of the draws' objects -/
theorem draw_new {H : Hp} {d l c q : Addr} (D : DrawAt H d l c) (h : H q = none) : q ≠ d ∧ q ≠ l := by
  obtain ⟨o1, h1⟩ := draw_d D
  obtain ⟨o2, h2⟩ := draw_l D
  exact ⟨Ne.symm (ne_of_none h1 h), Ne.symm (ne_of_none h2 h)⟩
section
variable {P : Program} {w : World} {K : PySem.W.Frag} {mg : Str → Option Value} {base : Heap} {C : Addr}
def primes : List Int := [3, 5, 7, 3, 5, 7, 11, 13, 17, 97]
theorem primes_ok : ∀ p ∈ primes, primeB p = true := by decide +kernel
def spPrime : Sp := fun vs H Q _ => ∃ (d l c : Addr), vs = [.ref d] ∧ DrawAt H d l c ∧ ∀ p H', p ∈ primes → DrawAt H' d l c → Kept H H' d l → Q (.int p) H'
theorem scPrime : FnScope ["draw"] ["draw"] (defScope sLPrime) := ⟨rfl, rfl, rfl, by decide +kernel, rfl, by decide +kernel, by decide +kernel⟩
theorem ok_prime {f fP : Addr} {fd fdP : FuncData} (F : Fun K "_law_prime" "_law_prime" sLPrime f fd) (GP : FnOk P w K mg base CX0 3 fP fdP ["draw", "some"] spPick) (bP : L2.Binds K fdP ["draw", "some"] []) (gP : mg "_law_pick" = some (.ref fP)) (kP : PySem.W.keepIn K (.ref fP) = true) :
    FnOk P w K mg base CX0 4 f fd ["draw"] spPrime := by
  refine F.ok scPrime (fun vs H Q E h => ?_) (fun cdv A outer s H vs Q E hr h => ?_)
  · obtain ⟨d, l, c, rfl, _⟩ := h
    rfl
  · obtain ⟨d, l, c, rfl, D, k⟩ := h
    refine ⟨_, pss_one (ps_ret (pe_call GP hr rfl gP kP bP .nil pass0 (pa_cons (pv 0) (pa_cons (pe_lst (pa_cons pe_int (pa_cons pe_int (pa_cons pe_int (pa_cons pe_int (pa_cons pe_int (pa_cons pe_int (pa_cons pe_int (pa_cons pe_int (pa_cons pe_int (pa_cons pe_int pa_nil))))))))))) pa_nil)))), ?_⟩
    refine ⟨_, rfl, (show 10 ≤ sizeLine by rw [sizeLine_eq]; decide), fun q hq => ?_⟩
    have sm := new_same (o := .lst (primes.map V.int)) hq
    refine ⟨d, l, c, q, primes.map V.int, rfl, draw_same D sm, upd_same, (draw_new D hq).2, by decide, by decide, fun i v H' hv D' kp => ?_⟩
    obtain ⟨p, rfl, hp⟩ := at_ints hv
    exact k p H' (List.mem_of_getElem? hp) D' fun b o e h1 h2 => kp b o (sm b o e) h1 h2
def spNumbers : Sp := fun vs H Q _ => ∃ (d l c : Addr) (p : Int) (m : Nat), vs = [.ref d, .int p, .int m] ∧ DrawAt H d l c ∧ 3 ≤ p ∧ p ≤ 97 ∧ m ≤ 256 ∧
  ∀ (ns : List Int) H' q, ns.length = m → (∀ x ∈ ns, 0 ≤ x ∧ x < p) → DrawAt H' d l c → Kept H H' d l → H q = none → q ≠ l → H' q = some (.lst (ns.map V.int)) → Q (.ref q) H'
theorem scNumbers : FnScope ["draw", "prime_here", "many", "k"] ["draw", "prime_here", "many"] (defScope sLNumbers) := ⟨rfl, rfl, rfl, by decide +kernel, rfl, by decide +kernel, by decide +kernel⟩
theorem kept_trans {H H1 H2 : Hp} {d l : Addr} (a : Kept H H1 d l) (b : Kept H1 H2 d l) : Kept H H2 d l := fun c o e h1 h2 => b c o (a c o e h1 h2) h1 h2
theorem kept_same {H H1 : Hp} {d l : Addr} (a : ∀ b o, H b = some o → H1 b = some o) : Kept H H1 d l := fun c o e _ _ => a c o e
theorem ok_numbers {f fP fT : Addr} {fd fdP fdT : FuncData} (F : Fun K "_law_numbers" "_law_numbers" sLNumbers f fd) (GP : FnOk P w K mg base CX0 3 fP fdP ["draw", "some"] spPick) (bP : L2.Binds K fdP ["draw", "some"] []) (gP : mg "_law_pick" = some (.ref fP)) (kP : PySem.W.keepIn K (.ref fP) = true)
    (GT : FnOk P w K mg base CX0 2 fT fdT ["draw", "amount"] spTake) (bT : Binds K fdT ["draw", "amount"] []) (gT : mg "_law_take" = some (.ref fT)) (kT : PySem.W.keepIn K (.ref fT) = true) (B : Bts mg) :
    FnOk P w K mg base CX0 4 f fd ["draw", "prime_here", "many"] spNumbers := by
  refine F.ok scNumbers (fun vs H Q E h => ?_) (fun cdv A outer s H vs Q E hr h => ?_)
  · obtain ⟨d, l, c, p, m, rfl, _⟩ := h
    rfl
  · obtain ⟨d, l, c, p, m, rfl, D0, hp, hp2, hm, k⟩ := h
    refine ⟨_, PSs.nox (pss_one (ps_ret (pe_lc (own := [("k", 3)]) (g := gName 3) (tt := tYes) rfl scNumbers.nd (pi_range1 (by rfl) B.range (pa_cons (pv 2) pa_nil)) (blkOk_by (N := ["draw", "prime_here", "many", "k"]) (sc := defScope sLNumbers) (by decide +kernel)) (fun _ _ _ _ _ => pg_name (i := 3) scNumbers.nd rfl (Or.inl rfl)) (fun _ _ _ _ _ => pts_nil)
      (fun _ _ _ _ _ => pe_call GP (hr.mono (by decide)) rfl gP kP bP .nil pass0 (pa_cons (pv 0) (pa_cons (pe_lst (pa_cons pe_int (pa_cons pe_int (pa_cons (pe_op op_sub (pv 1) pe_int) (pa_cons (pe_call GT (hr.mono (by decide)) rfl gT kT bT .nil pass0 (pa_cons (pv 0) (pa_cons (pv 1) pa_nil))) pa_nil))))) pa_nil)))))), ?_⟩
    refine ⟨_, rfl, m, rfl, by omega, by omega, fun q hq => ?_⟩
    obtain ⟨nqd, nql⟩ := draw_new D0 hq
    refine lc_it walk_range (fun i H' => ∃ ns : List Int, ns.length = i ∧ (∀ x ∈ ns, 0 ≤ x ∧ x < p) ∧ DrawAt H' d l c ∧ Kept H H' d l ∧ H' q = some (.lst (ns.map V.int))) ⟨[], rfl, by simp, draw_same D0 (new_same hq), kept_same (new_same hq), upd_same⟩ (fun _ _ _ _ => trivial) ?_ ?_
    · rintro i y H' H'' hi ⟨ns, hl, hf, D1, kp, hL⟩ ⟨rfl, rfl⟩
      have hi : i < m := by omega
      refine ⟨rfl, ?_⟩
      unfold tYes
      dsimp only
      rw [if_pos rfl]
      refine ⟨_, rfl, _, rfl, p, 1, rfl, rfl, _, rfl, _, rfl, d, l, c, p, rfl, D1, by omega, by omega, fun r H2 r0 r1 D2 kp2 => ?_⟩
      refine ⟨(show 4 ≤ sizeLine by rw [sizeLine_eq]; decide), fun u hu => ?_⟩
      have sm := new_same (o := .lst [.int 0, .int 1, .int (p - 1), .int r]) hu
      refine ⟨d, l, c, u, [.int 0, .int 1, .int (p - 1), .int r], rfl, draw_same D2 sm, upd_same, (draw_new D2 hu).2, (by show 0 < 4; decide), (by show 4 < 1000; decide), fun j v H3 hv D3 kp3 => ?_⟩
      obtain ⟨x, rfl, hx⟩ : ∃ x, v = V.int x ∧ 0 ≤ x ∧ x < p := by
        match j, hv with
        | 0, hv => cases hv; exact ⟨0, rfl, by omega, by omega⟩
        | 1, hv => cases hv; exact ⟨1, rfl, by omega, by omega⟩
        | 2, hv => cases hv; exact ⟨p - 1, rfl, by omega, by omega⟩
        | 3, hv => cases hv; exact ⟨r, rfl, r0, r1⟩
        | j + 4, hv => simp at hv
      have k13 : Kept H'' H3 d l := fun b o e h1 h2 => kp3 b o (sm b o (kp2 b o e h1 h2)) h1 h2
      refine ⟨_, k13 _ _ hL nqd nql, ?_, ns ++ [x], by rw [List.length_append, hl]; rfl, ?_, ?_, ?_, ?_⟩
      · rw [List.length_map, hl, sizeLine_eq]
        omega
      · intro z hz
        rcases List.mem_append.mp hz with hz | hz
        · exact hf z hz
        · simp only [List.mem_singleton] at hz
          rw [hz]
          exact hx
      · obtain ⟨⟨r2, t2, e0, e1⟩, ⟨ms, m1, m2, m3⟩, ⟨cn, c1, c2, c3⟩, ne⟩ := D3
        have nqc : q ≠ c := fun z => by
          obtain ⟨cs0, _, _, hc0⟩ := D0.cells
          rw [z, hc0] at hq
          cases hq
        exact ⟨⟨r2, t2, e0, (upd_ne nqd.symm).trans e1⟩, ⟨ms, m1, m2, (upd_ne nql.symm).trans m3⟩, ⟨cn, c1, c2, (upd_ne nqc.symm).trans c3⟩, ne⟩
      · intro b o e h1 h2
        have nb : b ≠ q := ne_of_none e hq
        rw [upd_ne nb]
        exact k13 b o (kp b o e h1 h2) h1 h2
      · rw [upd_same, List.map_append]
        rfl
    · rintro H' ⟨ns, hl, hf, D1, kp, hL⟩
      exact k ns H' q (by omega) hf D1 kp hq nql hL
end
end K
end
section
set_option linter.all false
set_option maxRecDepth 100000
set_option maxHeartbeats 8000000
namespace K
open PySem PySem.Spec PyProof.Rows L2 Ob
section
variable {P : Program} {w : World} {K : PySem.W.Frag} {mg : Str → Option Value} {base : Heap} {C : Addr}
def spIsRule (K : PySem.W.Frag) (C : Addr) : Sp := fun vs H Q _ => ∃ (r a : Addr) (p : Int) (n : Nat) (ns : List Int), vs = [.ref r, .int p, .ref a] ∧ RuleAt C H r p n ns ∧ RuleOk p n ns ∧ H a = some (.lst (ns.map V.int)) ∧ ∀ H', Same H H' → Q (.bl true) H'
theorem scIsRule : FnScope ["thing", "prime_here", "table_here", "legs_here", "many"] ["thing", "prime_here", "table_here"] (defScope sLIsRule) := ⟨rfl, rfl, rfl, by decide +kernel, rfl, by decide +kernel, by decide +kernel⟩
def legsL (n i : Nat) : List Int := if n < i then [(n : Int)] else []
theorem pow_eq : ∀ n, n ≤ 8 → ∀ i, i < 9 → (V.int (1 * 2 ^ ((0 : Int) + (i : Nat)).toNat) = V.int ((2 ^ n : Nat) : Int) ↔ i = n) := by
  have h : ∀ n, n < 9 → ∀ i, i < 9 → (decide ((1 : Int) * 2 ^ ((0 : Int) + (i : Nat)).toNat = ((2 ^ n : Nat) : Int)) = decide (i = n)) := by decide +kernel
  intro n hn i hi
  have := h n (by omega) i hi
  constructor
  · intro e
    injection e with e
    rw [decide_eq_true e] at this
    exact of_decide_eq_true this.symm
  · intro e
    rw [decide_eq_true e] at this
    rw [of_decide_eq_true this]
theorem ok_is_rule {f : Addr} {fd : FuncData} (F : Fun K "_law_is_rule" "_law_is_rule" sLIsRule f fd) (T : RuleC K mg C) (B : Bts mg) (hrep : mg "repr" = none) : FnG P w K mg base 1 f fd ["thing", "prime_here", "table_here"] (spIsRule K C) := by
  refine fnG_of F scIsRule (fun vs H Q E h => ?_) (fun cdv A outer s H vs Q E hG hr h => ?_)
  · obtain ⟨r, a, p, n, ns, rfl, _⟩ := h
    rfl
  · obtain ⟨r, a, p, n, ns, rfl, hR, ok, ha, k⟩ := h
    obtain ⟨dx, t, h1, h2⟩ := id hR.ex
    have hu64 := hr.units
    have hu60 : (A.deeper (envOfC "_law_is_rule" (defScope sLIsRule) s.heap.objs.size f cdv)).units + 60 < cLine := by omega
    have hp := ok.least
    have n5 := ok.eight
    have fld : ∀ x ∈ ns, 0 ≤ x ∧ x < 100 := fun x hx => by
      have := ok.field x hx
      omega
    have p5 : (2 : Nat) ^ n ≤ 2 ^ 8 := Nat.pow_le_pow_right (by decide) n5
    obtain ⟨w1, w2, w3, w4⟩ := duo_ok (p := p) (ns := ns) (by omega) fld (by rw [ok.len]; omega)
    refine ⟨_, PSs.nox (pss_cons (ps_if (pt_not (pt_val (pe_callB call_isi (by rfl) B.isi (by decide +kernel) (pa_cons (pv 0) (pa_cons (pe_glob (v := .ref C) (by rfl) T.g rfl) pa_nil))))) (pss_one (ps_ret pe_bl)) pss_nil)
      (pss_cons (ps_setLc (i := 3) (own := [("many", 4)]) (g := gName 4) rfl scIsRule.nd rfl rfl (sw_true rfl rfl rfl (by decide +kernel)) (pi_range1 (by rfl) B.range (pa_cons pe_int pa_nil)) (blkOk_by (N := ["thing", "prime_here", "table_here", "legs_here", "many"]) (sc := defScope sLIsRule) (by decide +kernel)) (fun _ _ _ _ _ => pg_name (i := 4) scIsRule.nd rfl (Or.inl rfl))
          (fun _ _ _ _ _ => pts_one (pt_cmpR op_eq (pe_op op_shl pe_int (pv 4)) (pe_callB (r := rLenS K) (by exact call_len_seq) (by rfl) B.len PySem.boot_len (pa_cons (pv 2) pa_nil)) (nomark _))) (fun _ _ _ _ _ => pv 4))
      (pss_one (ps_ret (pe_and (pe_cmpR op_eq (pe_callB (call_reprN hG hu60) (by rfl) hrep (by decide +kernel) (pa_cons (pe_tup (pa_cons (pe_fld (pv 0) rfl) (pa_cons (pe_fld (pv 0) rfl) pa_nil))) pa_nil))
          (pe_callB (call_reprN hG hu60) (by rfl) hrep (by decide +kernel) (pa_cons (pe_tup (pa_cons (pv 1) (pa_cons (pe_callTy call_tuple_of (by rfl) B.tuple (by decide +kernel) (pa_cons (pv 2) pa_nil)) pa_nil))) pa_nil)) (nomark _))
        (pe_one (pe_cmpR (op_eqD hu64) (pe_lst (pa_cons (pe_fld (pv 0) rfl) pa_nil)) (pv 3) (nomark _)))))))), ?_⟩
    refine ⟨_, rfl, .ref r, .ref C, .ref C, .ref C, true, rfl, .own C, T.ty hR, kit_self, true, rfl, iteF ?_⟩
    refine ⟨9, rfl, by decide, by decide, fun D hD => lc_it walk_range (fun i H' => H' = upd H D (.lst ((legsL n i).map V.int))) rfl (fun _ _ _ _ => trivial) ?_ ?_⟩
    · rintro i y H' H'' hi rfl ⟨rfl, rfl⟩
      have hi : i < 9 := hi
      refine ⟨rfl, ?_⟩
      refine ⟨_, rfl, 1, _, rfl, rfl, ⟨by omega, by omega, by decide⟩, _, rfl, a, _, rfl, .inl (SqL.of (new_same hD _ _ ha)), rfl, _, rfl, ?_⟩
      rw [List.length_map, ok.len]
      have pe := pow_eq n n5 i hi
      by_cases e : i = n
      · rw [decide_eq_true (pe.mpr e)]
        refine iteT ?_
        refine ⟨_, rfl, _, upd_same, ?_, ?_⟩
        · rw [List.length_map, sizeLine_eq]
          unfold legsL
          split <;> simp
        · rw [upd_upd, e]
          unfold legsL
          rw [if_neg (by omega), if_pos (by omega)]
          show upd H D (.lst [V.int (0 + (n : Int))]) = upd H D (.lst [V.int (n : Int)])
          rw [Int.zero_add]
      · rw [decide_eq_false fun z => e (pe.mp z)]
        refine iteF ?_
        have : legsL n (i + 1) = legsL n i := by
          unfold legsL
          by_cases z : n < i
          · rw [if_pos z, if_pos (by omega)]
          · rw [if_neg z, if_neg (by omega)]
        rw [this]
    · rintro H' rfl
      have eL : legsL n 9 = [(n : Int)] := by
        unfold legsL
        rw [if_pos (by omega)]
      have sD := new_same (o := .lst ((legsL n 9).map V.int)) hD
      have aD : upd H D (.lst ((legsL n 9).map V.int)) D = some _ := upd_same
      rw [show Int.toNat 9 = 9 from rfl]
      generalize upd H D (.lst ((legsL n 9).map V.int)) = H1 at sD aD ⊢
      refine ⟨_, rfl, r, C, dx, _, _, rfl, sD _ _ h1, T.cl, T.nP, rfl, _, rfl, r, C, dx, _, _, rfl, sD _ _ h1, T.cl, T.nT, rfl, (show 2 ≤ sizeLine by rw [sizeLine_eq]; decide), fun u hu => ?_⟩
      have su := new_same (o := .tup [.int p, .ref t]) hu
      have au : upd H1 u (.tup [.int p, .ref t]) u = some _ := upd_same
      generalize upd H1 u (.tup [.int p, .ref t]) = H2 at su au ⊢
      refine ⟨u, duo p ns, rfl, duo_data au (su _ _ (sD _ _ h2)), w1, w2, w3, w4, ?_⟩
      refine ⟨_, rfl, _, rfl, a, _, rfl, .inl ⟨SqL.of (su _ _ (sD _ _ ha)), fun v hv => ?_⟩⟩
      have sv := new_same (o := .tup (ns.map V.int)) hv
      have av : upd H2 v (.tup (ns.map V.int)) v = some _ := upd_same
      generalize upd H2 v (.tup (ns.map V.int)) = H3 at sv av ⊢
      refine ⟨(show 2 ≤ sizeLine by rw [sizeLine_eq]; decide), fun x hx => ?_⟩
      have sx := new_same (o := .tup [.int p, .ref v]) hx
      have ax : upd H3 x (.tup [.int p, .ref v]) x = some _ := upd_same
      generalize upd H3 x (.tup [.int p, .ref v]) = H4 at sx ax ⊢
      refine ⟨x, duo p ns, rfl, duo_data ax (sx _ _ av), w1, w2, w3, w4, rfl, _, rfl, ?_⟩
      rw [decide_eq_true (rfl : V.str (duo p ns).shown = V.str (duo p ns).shown)]
      have s4 : ∀ b o, H b = some o → H4 b = some o := fun b o z => sx b o (sv b o (su b o (sD b o z)))
      refine ⟨_, rfl, r, C, dx, _, _, rfl, s4 _ _ h1, T.cl, T.nL, rfl, (show 1 ≤ sizeLine by rw [sizeLine_eq]; decide), fun y hy => ?_⟩
      have sy := new_same (o := .lst [.int (n : Int)]) hy
      have ay : upd H4 y (.lst [.int (n : Int)]) y = some _ := upd_same
      generalize upd H4 y (.lst [.int (n : Int)]) = H5 at sy ay ⊢
      refine ⟨_, rfl, _, _, .lst (SqL.of ay) (Ob.dp_ints [(n : Int)]), .lst (SqL.of (sy _ _ (sx _ _ (sv _ _ (su _ _ aD))))) (Ob.dp_ints (legsL n 9)), lst_shaped _, lst_shaped _, ?_⟩
      rw [lst_eqv, eL, decide_eq_true rfl]
      exact k _ fun b o z => sy b o (s4 b o z)
end
end K
end
section
set_option linter.all false
set_option maxRecDepth 100000
set_option maxHeartbeats 4000000
namespace Ob
open PySem PySem.Spec PyProof.Rows L2 NdefX
/-- an exception of the program stands at a, its class C -/
def XcAt (H : Hp) (a C : Addr) : Prop := (∃ od, H a = some (exo a C od) ∧ (od = none ∨ ∃ d fs, od = some d ∧ H d = some (exd d fs))) ∨ H a = some (ExO (.ref C) a)
section
variable {X : Cx} {pins : List (Addr × Obj)} {σ : L2.St} {H : Hp} {s : Shared} {a C : Addr}
theorem inst_of (I : Inv X pins σ H s) (h : XcAt H a C) : ∃ ox od, PySem.W.InstAt s.heap a ox C od := by
  rcases h with ⟨od, ha, rfl | ⟨d, fs, rfl, hd⟩⟩ | ha
  · obtain ⟨t, ho⟩ := exo_at I.hok ha
    exact ⟨_, none, ho, rfl, rfl, trivial⟩
  · obtain ⟨t, ho⟩ := exo_at I.hok ha
    obtain ⟨mA, ⟨od, es, ep, hod, _⟩, _⟩ := exd_at I.hok hd
    exact ⟨_, some od, ho, rfl, rfl, hod⟩
  · obtain ⟨⟨oe, vs, ho, ⟨hc, hd⟩, hv, _⟩, _, _⟩ := I.hok a _ ha
    obtain ⟨oc, od, oda, osl⟩ := oe
    dsimp only at hc hd hv
    subst hc hd hv
    exact ⟨_, none, ho, rfl, rfl, trivial⟩
/-- isinstance(e, c), e such an exception -/
def rIsX (K : PySem.W.Frag) : List V → Hp → VK → Prop := fun xs H Q => ∃ (a C : Addr) (c : V) (cv : Value) (b : Bool), xs = [.ref a, c] ∧ XcAt H a C ∧ ExcC K C ∧ (∀ u, RelV c u → u = cv) ∧ PySem.W.kitOne K (.ref C) cv = some b ∧ Q (.bl b) H
theorem call_isX : CallR X (.builtin "isinstance") (rIsX X.K) := by
  intro pins s σ H xs us Q I r h
  obtain ⟨a, C, c, cv, b, rfl, hx, T, hcv, e, q⟩ := h
  cases r with
  | cons rx rr =>
    cases rr with
    | cons rt rr =>
      cases rr
      cases rx
      have ec := hcv _ rt
      subst ec
      obtain ⟨ox, od, J⟩ := inst_of I hx
      obtain ⟨cd, hcd, _⟩ := PySem.W.any_some T.hd
      exact PySem.W.kia_one (PySem.W.kitx_exc (by rw [hcd]; rfl) T.hg T.hk T.hs T.ha T.hn T.ht T.hm) I.kIn J e (fun z => nomatch z) fun tk => ⟨.bl b, H, I.kept (t' := tk) fun _ _ z => z, rfl, q⟩
/-- e.f, e an exception with its own dict -/
def tXfV (K : PySem.W.Frag) (f : Str) (te : TE) : TE := fun σ H Q => te σ H fun x H1 => ∃ (a C d : Addr) (fs : List (Str × V)) (v : V), x = .ref a ∧ H1 a = some (exo a C (some d)) ∧ H1 d = some (exd d fs) ∧ XfC K C ∧ PySem.W.findIn K (.ref C) f = some none ∧ fs.lookup f = some v ∧ Q v H1
theorem pe_xfV {e : Expr} {te : TE} {pos : Pos} {n : Str} (he : PE X e te) (hb : attributeBase e n X.env (eval e X.env) = eval e X.env := by rfl) : PE X (.Attribute e n pos) (tXfV X.K n te) := by
  refine ⟨fun pins s σ H Q I h => ?_⟩
  refine attr_of hb (thn (he.run pins s σ H _ I h) fun u s1 hh => ?_)
  obtain ⟨x, H1, I1, rx, a, C, d, fs, v, ex, ha, hd, T, hno, l, q⟩ := hh
  subst ex
  obtain rfl : u = Value.ref a := rx
  obtain ⟨t, ho⟩ := exo_at I1.hok ha
  obtain ⟨mA, hns, hr⟩ := exd_at I1.hok hd
  obtain ⟨od, hod, hl⟩ := lookIn_ns hns
  obtain ⟨u, hu, ru⟩ := RelO.some_of (v := v) (o := mA n) (by rw [← l]; exact hr n)
  have J : PySem.W.InstAt s1.heap a _ C (some od) := ⟨ho, rfl, rfl, hod⟩
  exact HandSPX.exc_get I1.kIn J T.ga T.gg T.exC (PySem.W.findObj_own T.hdC hno rfl (by rw [hl, hu])) (handed_of ru) ⟨v, H1, I1.tok _, ru, q⟩
/-- X(e) as a value, X with an __init__ of the form of InitK -/
def tExcV (X : Cx) (C : Addr) (attr : Str) (ta : TA) : TE := fun σ H Q => ta σ H fun vs H1 => ∃ y, vs = [y] ∧ vs.length ≤ 1000 ∧
  (∀ a env us, H1 a = none → Fmt X.prog X.w ((X.A.under (.builtin "type.__call__" ⟨.ref C :: us, []⟩)).deeper env) (upd H1 a (exo a C none)) y) ∧
  ∀ a d, H1 a = none → H1 d = none → d ≠ a → Q (.ref a) (upd (upd H1 d (exd d [(attr, y)])) a (exo a C (some d)))
theorem pe_excV {x part attr : Str} {C fI : Addr} {fd : FuncData} {e : Expr} {ta : TA} {p pos : Pos} (IK : InitK X.prog X.K X.mg C fI part attr fd) (iC : PySem.W.findIn X.K (.ref C) "__init__" = some (some (.ref fI))) (tI : PySem.W.typeIn X.K (.ref fI) = some (.type "function"))
    (hr : Room 2 X.A) (hb : Binds X.K fd ["self", part] []) (hx : Passes CX0 X (fun _ _ _ => False)) (hg : Gl X x) (hm : X.mg x = some (.ref C)) (ha : PA X [e] ta)
    (hdb : (x == ("__debug__" : Str)) = false := by decide) (he : starEach [e] X.env = (false, eval e X.env) :: starEach [] X.env := by rfl) (hpl : (backTo pos (starEach [] X.env)).any (·.1) = false := by rfl) :
    PE X (.Call (.Name x p) [e] [] pos) (tExcV X C attr ta) := by
  refine ⟨fun pins s σ H Q I h => ?_⟩
  obtain ⟨nm, q, N, bs, bm, sn, sub, ab, col, dd, k0, k1, k2, k3, k5, hC, hbm⟩ := IK.cls.cls
  refine wpAny_Call_Name_kw (ld_glob I hg hm ?_ hdb)
  refine PySem.W.callWith_K (h₀ := X.base) I.ok.mod.kin IK.cls.kC (thn (ha.run pos pins s σ H _ I h) fun us s1 ⟨vs, H1, I1, r1, y, ey, hz, hf, q1⟩ => ⟨I1.kIn, ?_⟩) he hpl
  show wpAny _ _ (call (.ref C) us) _ _ _
  subst ey
  obtain ⟨hp, g, dr, tk, os⟩ := s1
  have hsz : hp.objs.size ≤ hp.objs.size + 1 := Nat.le_succ _
  have hn : H1 (hp.objs.size + 1) = none := I1.hok.fresh hsz
  have kk : ∀ b o, hp.get? b = some o → ((hp.push (PySem.W.kdv_tup us)).push (PySem.HandSPX.excO C hp.objs.size)).get? b = some o := fun b o e => Heap.get?_push_of_some _ (Heap.get?_push_of_some _ e)
  have hget : ((hp.push (PySem.W.kdv_tup us)).push (PySem.HandSPX.excO C hp.objs.size)).get? (hp.objs.size + 1) = some (PySem.HandSPX.excO C hp.objs.size) := by heap_get
  have I2 : Inv X pins σ (upd H1 (hp.objs.size + 1) (exo (hp.objs.size + 1) C none)) ⟨(hp.push (PySem.W.kdv_tup us)).push (PySem.HandSPX.excO C hp.objs.size), g, dr, tk, os⟩ :=
    I1.laid (t' := tk) (a := hp.objs.size + 1) (o := exo (hp.objs.size + 1) C none) (h' := (hp.push (PySem.W.kdv_tup us)).push (PySem.HandSPX.excO C hp.objs.size)) kk hsz (exo_ok hget)
  have r2 : Vals [V.ref (hp.objs.size + 1), y] (Value.ref (hp.objs.size + 1) :: us) := .cons rfl r1
  have hus : us.length ≤ sizeLine := by
    rw [← Paired.length r1, sizeLine_eq]
    omega
  have hb2 : BindsTo ⟨(hp.push (PySem.W.kdv_tup us)).push (PySem.HandSPX.excO C hp.objs.size), g, dr, tk, os⟩ fd ⟨Value.ref (hp.objs.size + 1) :: us, []⟩ ((["self", part] : List Str).zip (Value.ref (hp.objs.size + 1) :: us)) := by
    have := hb ⟨(hp.push (PySem.W.kdv_tup us)).push (PySem.HandSPX.excO C hp.objs.size), g, dr, tk, os⟩ (Value.ref (hp.objs.size + 1) :: us) I2.kIn (by rw [List.append_nil]; exact r2.length.symm)
    rw [List.append_nil] at this
    exact this
  refine wpAny_call (PySem.HandSPX.call_own F.excBase_ValueError (fun Y => PySem.HandSPX.refsVE_contains Y bm hbm) (I1.kIn _ _ hC) (PySem.W.looks_findIn I1.kIn iC) (fun self => PySem.W.bind_fn I1.kIn self tI) hus
    (codeAny_mono (init_run (CX := CX0) (Q := fun v H2 => v = .non ∧ Q (.ref (hp.objs.size + 1)) H2) (E := fun _ _ _ => False) IK _ X.stack _ _ _ (Value.ref (hp.objs.size + 1) :: us) (hp.objs.size + 1) y (hr.make C us []) (I2.env0.make C us []) hb2 r2 upd_same (fun env => hf _ env us hn) ?_) fun r s' hq' => ?_))
  · intro d hd hne
    refine ⟨rfl, ?_⟩
    have hd1 : H1 d = none := by
      rw [upd_ne hne] at hd
      exact hd
    have e1 : upd (upd (upd H1 (hp.objs.size + 1) (exo (hp.objs.size + 1) C none)) d (exd d [(attr, y)])) (hp.objs.size + 1) (exo (hp.objs.size + 1) C (some d)) = upd (upd H1 d (exd d [(attr, y)])) (hp.objs.size + 1) (exo (hp.objs.size + 1) C (some d)) := by
      funext b
      by_cases h1 : b = hp.objs.size + 1
      · rw [h1, upd_same, upd_same]
      · rw [upd_ne h1, upd_ne h1]
        by_cases h2 : b = d
        · rw [h2, upd_same, upd_same]
        · rw [upd_ne h2, upd_ne h2, upd_ne h1]
    rw [e1]
    exact q1 _ d hn hd1 hne
  · cases r with
    | error er => exact hx pins σ _ _ er s' I2 hq'
    | ok fl =>
      cases fl with
      | ret u =>
        obtain ⟨v, H2, J, rv, ev, q2⟩ := I2.after hq'
        subst ev
        exact ⟨rv, .ref (hp.objs.size + 1), H2, J, rfl, q2⟩
      | next => exact False.elim hq'
      | brk => exact False.elim hq'
      | cont => exact False.elim hq'
end
end Ob
end
section
set_option linter.all false
set_option maxRecDepth 100000
set_option maxHeartbeats 4000000
/-! raise X(e), X an error class of the program with an __init__ of the form of InitK -/
namespace Ob
open PySem PySem.Spec PyProof.Rows L2 NdefX
def tMkX (X : Cx) (C : Addr) (attr : Str) (ta : TA) : L2.St → Hp → XK → Prop := fun σ H Q => ta σ H fun vs H1 => ∃ y, vs = [y] ∧
  (∀ a env us, H1 a = none → Fmt X.prog X.w ((X.A.under (.builtin "type.__call__" ⟨.ref C :: us, []⟩)).deeper env) (upd H1 a (exo a C none)) y) ∧
  ∀ d, H1 d = none → Q (.ref C) (some d) (upd H1 d (.xd [(attr, y)]))
theorem pmk_exc {X : Cx} {x part attr : Str} {C fI : Addr} {fd : FuncData} {e : Expr} {ta : TA} {p pos : Pos} (IK : InitK X.prog X.K X.mg C fI part attr fd) (iC : PySem.W.findIn X.K (.ref C) "__init__" = some (some (.ref fI))) (tI : PySem.W.typeIn X.K (.ref fI) = some (.type "function"))
    (hr : Room 2 X.A) (hb : Binds X.K fd ["self", part] []) (hx : Passes CX0 X (fun _ _ _ => False)) (hg : Gl X x) (hm : X.mg x = some (.ref C)) (ha : PA X [e] ta)
    (hdb : (x == ("__debug__" : Str)) = false := by decide) (he : starEach [e] X.env = (false, eval e X.env) :: starEach [] X.env := by rfl) (hpl : (backTo pos (starEach [] X.env)).any (·.1) = false := by rfl) :
    PMk X (.Call (.Name x p) [e] [] pos) (tMkX X C attr ta) := by
  intro pins s σ H Q I h
  obtain ⟨nm, q, N, bs, bm, sn, sub, ab, col, dd, k0, k1, k2, k3, k5, hC, hbm⟩ := IK.cls.cls
  refine wpAny_Call_Name_kw (ld_glob I hg hm ?_ hdb)
  refine PySem.W.callWith_K (h₀ := X.base) I.ok.mod.kin IK.cls.kC (thn (ha.run pos pins s σ H _ I h) fun us s1 ⟨vs, H1, I1, r1, y, ey, hf, q1⟩ => ⟨I1.kIn, ?_⟩) he hpl
  show wpAny _ _ (call (.ref C) us) _ _ _
  subst ey
  obtain ⟨hp, g, dr, tk, os⟩ := s1
  have hsz : hp.objs.size ≤ hp.objs.size + 1 := Nat.le_succ _
  have hn : H1 (hp.objs.size + 1) = none := I1.hok.fresh hsz
  have kk : ∀ b o, hp.get? b = some o → ((hp.push (PySem.W.kdv_tup us)).push (PySem.HandSPX.excO C hp.objs.size)).get? b = some o := fun b o e => Heap.get?_push_of_some _ (Heap.get?_push_of_some _ e)
  have hget : ((hp.push (PySem.W.kdv_tup us)).push (PySem.HandSPX.excO C hp.objs.size)).get? (hp.objs.size + 1) = some (PySem.HandSPX.excO C hp.objs.size) := by heap_get
  have I2 : Inv X pins σ (upd H1 (hp.objs.size + 1) (exo (hp.objs.size + 1) C none)) ⟨(hp.push (PySem.W.kdv_tup us)).push (PySem.HandSPX.excO C hp.objs.size), g, dr, tk, os⟩ :=
    I1.laid (t' := tk) (a := hp.objs.size + 1) (o := exo (hp.objs.size + 1) C none) (h' := (hp.push (PySem.W.kdv_tup us)).push (PySem.HandSPX.excO C hp.objs.size)) kk hsz (exo_ok hget)
  have r2 : Vals [V.ref (hp.objs.size + 1), y] (Value.ref (hp.objs.size + 1) :: us) := .cons rfl r1
  have hus : us.length ≤ sizeLine := by
    have : us.length = 1 := (Paired.length r1).symm
    rw [this, sizeLine_eq]
    omega
  have hb2 : BindsTo ⟨(hp.push (PySem.W.kdv_tup us)).push (PySem.HandSPX.excO C hp.objs.size), g, dr, tk, os⟩ fd ⟨Value.ref (hp.objs.size + 1) :: us, []⟩ ((["self", part] : List Str).zip (Value.ref (hp.objs.size + 1) :: us)) := by
    have := hb ⟨(hp.push (PySem.W.kdv_tup us)).push (PySem.HandSPX.excO C hp.objs.size), g, dr, tk, os⟩ (Value.ref (hp.objs.size + 1) :: us) I2.kIn (by rw [List.append_nil]; exact r2.length.symm)
    rw [List.append_nil] at this
    exact this
  let a0 : Addr := hp.objs.size + 1
  refine wpAny_call (PySem.HandSPX.call_own F.excBase_ValueError (fun Y => PySem.HandSPX.refsVE_contains Y bm hbm) (I1.kIn _ _ hC) (PySem.W.looks_findIn I1.kIn iC) (fun self => PySem.W.bind_fn I1.kIn self tI) hus
    (codeAny_mono (init_run (CX := CX0) (Q := fun v H2 => v = .non ∧ ∃ d, H1 d = none ∧ d ≠ a0 ∧ H2 = upd (upd (upd H1 a0 (exo a0 C none)) d (exd d [(attr, y)])) a0 (exo a0 C (some d))) (E := fun _ _ _ => False) IK _ X.stack _ _ _ (Value.ref (hp.objs.size + 1) :: us) (hp.objs.size + 1) y (hr.make C us []) (I2.env0.make C us []) hb2 r2 upd_same (fun env => hf _ env us hn) ?_) fun r s' hq' => ?_))
  · intro d hd hne
    refine ⟨rfl, d, ?_, hne, rfl⟩
    rw [upd_ne hne] at hd
    exact hd
  · cases r with
    | error er => exact hx pins σ _ _ er s' I2 hq'
    | ok fl =>
      cases fl with
      | ret u =>
        obtain ⟨v, H2, os2, bare2, un2, hok2, rv, ev, d, hd1, hne, eH⟩ := hq'
        subst ev eH
        obtain ⟨h2, g2, d2, t2, os'⟩ := s'
        have ea : upd (upd (upd H1 a0 (exo a0 C none)) d (exd d [(attr, y)])) a0 (exo a0 C (some d)) a0 = some (exo a0 C (some d)) := upd_same
        have ed : upd (upd (upd H1 a0 (exo a0 C none)) d (exd d [(attr, y)])) a0 (exo a0 C (some d)) d = some (exd d [(attr, y)]) := by rw [upd_ne hne, upd_same]
        have eq2 : upd (del (upd (upd (upd H1 a0 (exo a0 C none)) d (exd d [(attr, y)])) a0 (exo a0 C (some d))) a0) d (.xd [(attr, y)]) = upd H1 d (.xd [(attr, y)]) := by
          funext b
          by_cases hb : b = d
          · rw [hb, upd_same, upd_same]
          · rw [upd_ne hb, upd_ne hb]
            by_cases hb2 : b = a0
            · rw [hb2, del_same]
              exact hn.symm
            · rw [del_ne hb2, upd_ne hb2, upd_ne hb, upd_ne hb2]
        exact ⟨rv, mk_end (raises_own IK.cls.exC IK.cls.tyC) I1 hsz kk un2 hok2 os2 bare2 ea ed hd1 (by rw [eq2]; exact q1 d hd1)⟩
      | next => exact False.elim hq'
      | brk => exact False.elim hq'
      | cont => exact False.elim hq'
end Ob
end
section
set_option linter.all false
set_option maxRecDepth 100000
set_option maxHeartbeats 4000000
/-! try: .. except X as n: y = n -- the caught error is kept, and known from then on -/
namespace Ob
open PySem PySem.Spec PyProof.Rows L2
/-- at a: a caught exception of the class cls, its own dict at d -/
def Cgt (cls : Value) (d : Option Addr) (a : Addr) : HO := .ext fun h => ∃ (oe : Obj) (vs : Array Value), h.get? a = some oe ∧ Zc cls d oe ∧ oe.data = .fields vs
theorem cgt_ok {P : Program} {w : World} {H : Hp} {h : Heap} {a : Addr} {cls : Value} {d : Option Addr} {oe : Obj} {vs : Array Value} (e : h.get? a = some oe) (z : Zc cls d oe) (f : oe.data = .fields vs) : ObjOk P w H h a (Cgt cls d a) :=
  ⟨⟨oe, vs, e, z, f⟩, ⟨oe, e⟩, fun h1 h2 ⟨o, v, q, r⟩ k => ⟨o, v, k o q, r⟩⟩
theorem cgt_at {P : Program} {w : World} {H : Hp} {h : Heap} {a : Addr} {cls : Value} {d : Option Addr} (ok : HOk P w H h) (e : H a = some (Cgt cls d a)) : ∃ (oe : Obj) (vs : Array Value), h.get? a = some oe ∧ Zc cls d oe ∧ oe.data = .fields vs := by
  have x : ObjOk P w H h a (.ext fun h => ∃ (oe : Obj) (vs : Array Value), h.get? a = some oe ∧ Zc cls d oe ∧ oe.data = .fields vs) := ok a _ e
  exact x.1
section
variable {X : Cx} {pins : List (Addr × Obj)} {σ : L2.St} {H : Hp} {s : Shared}
/-- an object that stands there since the entry is known from now on -/
theorem inv_know {a : Addr} {φ : Heap → Prop} (I : Inv X pins σ H s) (n : H a = none) (n0 : X.s_0.heap.get? a = none) (nL : a ≠ X.env.locals) (nC : ∀ x c, X.env.cells.lookup x = some c → c ≠ a) (nP : ∀ p ∈ X.pn ++ pins, p.1 ≠ a)
    (new : ObjOk X.prog X.w (upd H a (.ext φ)) s.heap a (.ext φ)) : Inv X pins σ (upd H a (.ext φ)) s := by
  have away : ∀ b u, H b = some u → b ≠ a := fun b u e => ne_of_none e n |> fun z => z
  have old : ∀ b o, X.s_0.heap.get? b = some o → b ≠ a := fun b o e z => by
    rw [z, n0] at e
    cases e
  refine ⟨I.ok, I.os, I.bare, ⟨I.base.keep, I.base.slot, fun b o e q x => ?_, I.base.there, fun b xs e => ?_, fun b o u e => ?_, fun b ps e => ?_⟩, I.loc, I.cell, ?_, fun x c e => ?_, fun p hp => ?_, fun b u e => ?_, I.len⟩
  · rw [upd_ne (old b o e)]
    exact I.base.free b o e q x
  · have z := I.base.tups b xs e
    rw [upd_ne (away b _ z)]
    exact z
  · have z := I.base.frzs b o u e
    rw [upd_ne (away b _ z)]
    exact z
  · obtain ⟨m, z⟩ := I.base.tbls b ps e
    exact ⟨m, by rw [upd_ne (away b _ z)]; exact z⟩
  · rw [upd_ne (Ne.symm nL)]
    exact I.free
  · rw [upd_ne (nC x c e)]
    exact I.freeC x c e
  · obtain ⟨q1, q2, q3⟩ := I.pin p hp
    exact ⟨q1, by rw [upd_ne (nP p hp)]; exact q2, q3⟩
  · by_cases hb : b = a
    · subst hb
      rw [upd_same] at e
      cases e
      exact new
    · rw [upd_ne hb] at e
      exact (I.hok b u e).stay (fun c v _ q => q) (fun c q => by rw [upd_ne (away c _ q)]; exact q) fun c xs q => by rw [upd_ne (away c _ q)]; exact q
end
/-- what is wished of an exception of the body: the class c names it; slot i is n's, slot j is y's -/
def wKeep (K : PySem.W.Frag) (c : Value) (i j : Nat) (D : Ends) : WX := fun cls d σ H => PySem.W.exmOne K cls c = some true ∧ ∀ a, H a = none → D.nx (((σ.set i (some (.ref a))).set j (some (.ref a))).set i none) (upd H a (Cgt cls d a))
theorem ps_try_keep {X : Cx} {x n y : Str} {c : Value} {i j : Nat} {body : List Stmt} {np yp mp ap pos pos' : Pos} {tb : WX → TS} (hs : X.stack = X.env :: X.outer) (hf : X.env.frame = some X.env.locals) (hex : X.ex = []) (hN : X.N.Nodup) (hi : X.N[i]? = some n) (hj : X.N[j]? = some y)
    (hln : X.env.kindOf n = some .local) (hly : X.env.kindOf y = some .local) (hdn : (n == ("__debug__" : Str)) = false) (hcn : (n == ("__classdict__" : Str)) = false) (hc : Names X x c)
    (hb : ∀ (W : WX) (pn : List (Addr × Obj)) (xe : Value → Shared → Prop), Takes (X.tr pn xe) W → PassesOwn (model X.prog X.w) X.A X.env xe → PSs (X.tr pn xe) body (tb W)) :
    PS X (.Try body [.ExceptHandler (some (.Name x np)) (some n) [.Assign [.Name y yp] (.Name n mp) ap] pos'] [] [] pos) (fun D σ H => tb (wKeep X.K c i j D) D σ H) := by
  refine ⟨fun pins s σ H D I h => ?_⟩
  have ok := I.ok
  have frames : X.A.frames = some (X.env :: X.outer) := ok.frames.trans (by rw [hs])
  let after : Value → Shared → Prop := fun e s1 => wpAny (model X.prog X.w) X.A (noteFrame e X.env) (fun _ s2 => wpAny (model X.prog X.w) X.A (setFlight e none)
    (fun _ s3 => wpAny (model X.prog X.w) X.A (handleBy e X.env [.ExceptHandler (some (.Name x np)) (some n) [.Assign [.Name y yp] (.Name n mp) ap] pos']) (SP X pins D) X.xe s3) X.xe s2) X.xe s1
  have caught : Takes (X.tr (X.pn ++ pins) after) (wKeep X.K c i j D) := by
    rintro u s1 ⟨a, B, sI, pins1, σ1, H1, cls, d, rfl, J0, ground, grown, sky, na, os1, bare1, isIt, go⟩
    have J : Inv X pins σ1 H1 sI := J0.ofTry ok
    show wpAny (model X.prog X.w) X.A (noteFrame (.ref a) X.env) _ _ _
    refine Sky.land Zc.steady frames hf (by rw [← hs]; exact sky) fun h3 fly3 up3 => ?_
    have J3 : Inv X pins σ1 H1 { s1 with heap := h3 } := J.landed ground fly3.1 (grown.trans up3) os1 bare1
    obtain ⟨o3, v3, e3, z3, f3⟩ := fly3.there
    have noFrame : a ∉ frs (X.env :: X.outer) := fun hm => by
      obtain ⟨_, o', e', bad⟩ := fly3.2.2.1.mem hm
      rw [e3] at e'
      cases e'
      exact bad _ f3
    have nL : a ≠ X.env.locals := fun z => noFrame (List.mem_filterMap.mpr ⟨X.env, List.mem_cons_self, by rw [hf, z]⟩)
    have nF : a ∉ X.fs := fun hm => by
      obtain ⟨v, hv, q⟩ := List.mem_filterMap.mp hm
      exact noFrame (List.mem_filterMap.mpr ⟨v, List.mem_cons_of_mem _ hv, q⟩)
    have notI : sI.heap.get? a = none := by
      cases e : sI.heap.get? a with
      | none => rfl
      | some o =>
        have z := ground a o e (by rw [hs]; exact noFrame)
        rw [fly3.2.1] at z
        cases z
    have not0 : X.s_0.heap.get? a = none := by
      cases e : X.s_0.heap.get? a with
      | none => rfl
      | some o =>
        obtain ⟨o', q⟩ := J.base.there a o e (by rw [hex]; exact fun z => nomatch z)
        rw [notI] at q
        cases q
    have S3 := J3.suite e3 f3 na nL nF
    refine wpAny_handleBy_cons (codeAny_handlers_test ?_) (fun q => by cases q)
    have kind : PySem.W.Looks (model X.prog X.w) h3 (typeOf (.ref a)) cls := fun A Q E s k q => wpAny_typeOf_ref (k _ _ e3) (by rw [z3.1]; exact q)
    have named : ∀ {Q : Value → Shared → Prop} {E : Value → Shared → Prop}, Q c { s1 with heap := h3 } → wpAny (model X.prog X.w) (X.A.mark (some (.ref a))) (eval (.Name x np) X.env) Q E { s1 with heap := h3 } := by
      intro Q E q
      obtain ⟨g1, g2, g3 | ⟨g3, g4, g5⟩⟩ := hc
      · exact ld_glob (X := X.suite a ((a, o3) :: (X.pn ++ pins))) S3 g1 g3 q g2
      · exact ld_blt (X := X.suite a ((a, o3) :: (X.pn ++ pins))) S3 g1 g3 g4 q g5 g2
    refine named ((PySem.W.exm_one (M := model X.prog X.w) J3.kIn kind isIt).here ?_)
    refine codeAny_handlers_suite_as (HandSPX.lands_againZ fly3 fun h4 fly4 up4 => ?_)
    have J4 : Inv X pins σ1 H1 { s1 with heap := h4 } := J.landed ground fly4.1 ((grown.trans up3).trans up4) os1 bare1
    obtain ⟨o4, v4, e4, z4, f4⟩ := fly4.there
    have S4 := J4.suite e4 f4 na nL nF
    have hlocN : Loc X.env.scope n := .inl hln
    refine store_ok (X := X.suite a ((a, o4) :: (X.pn ++ pins))) (v := .ref a) S4 hN hi hlocN rfl (fun s5 S5 => ?_) (.inr hln)
    have iN : i < σ1.length := by
      rw [J.len]
      exact (List.getElem?_eq_some_iff.mp hi).1
    have suite : PSs (X.suite a ((a, o4) :: (X.pn ++ pins))) [.Assign [.Name y yp] (.Name n mp) ap] _ :=
      pss_one (ps_asg (pe_var (X := X.suite a ((a, o4) :: (X.pn ++ pins))) (i := i) hi (.inl hln) hdn hcn) (pg_name (i := j) hN hj (.inl hly) (.inr hly)))
    refine wpAny_mono (suite.run [] s5 _ H1 { nx := fun σ' H' => σ' = (σ1.set i (some (.ref a))).set j (some (.ref a)) ∧ H' = H1, rt := fun _ _ => False, bk := fun _ _ => False, ct := fun _ _ => False } S5 ⟨.ref a, by rw [List.getElem?_set_self iN], rfl, rfl⟩) (fun f s6 q => ?_) fun _ _ z => False.elim z
    cases f with
    | ret u =>
      obtain ⟨_, _, _, _, _, q⟩ := q
      exact False.elim q
    | brk =>
      obtain ⟨_, _, _, q⟩ := q
      exact False.elim q
    | cont =>
      obtain ⟨_, _, _, q⟩ := q
      exact False.elim q
    | next =>
      obtain ⟨σ6, H6, S6, eσ, eH⟩ := q
      subst eσ
      subst eH
      have here : s6.heap.get? a = some o4 := (S6.pin (a, o4) (by simp)).1
      have J6 := Inv.unsuite (X := X) (pins := pins) S6 ok
      have K6 : Inv X pins ((σ1.set i (some (.ref a))).set j (some (.ref a))) (upd H6 a (Cgt cls d a)) s6 := by
        refine inv_know J6 na not0 nL (fun v c e z => ?_) (fun p hp z => ?_) (cgt_ok here z4 f4)
        · obtain ⟨w', o', e', d'⟩ := J6.cell v c e
          rw [z, here] at e'
          cases e'
          rw [f4] at d'
          cases d'
        · have e' := (J.pin p hp).1
          rw [z, notI] at e'
          cases e'
      exact gone_ok K6 hN hi hln fun s7 J7 => ⟨_, _, J7, go a na⟩
  refine wpAny_Try_except (wpAny_mono ((hb (wKeep X.K c i j D) (X.pn ++ pins) after caught PassesOwn.looking).run [] s σ H D (I.toTry _) h) (fun f s1 q => ?_) fun e s1 z => z)
  cases f with
  | next =>
    obtain ⟨σ', H', J, q⟩ := q
    exact wpAny_execs_nil ⟨σ', H', J.ofTry ok, q⟩
  | brk =>
    obtain ⟨σ', H', J, q⟩ := q
    exact ⟨σ', H', J.ofTry ok, q⟩
  | cont =>
    obtain ⟨σ', H', J, q⟩ := q
    exact ⟨σ', H', J.ofTry ok, q⟩
  | ret u =>
    obtain ⟨v, σ', H', J, r, q⟩ := q
    exact ⟨v, σ', H', J.ofTry ok, r, q⟩
end Ob
end
section
set_option linter.all false
set_option maxRecDepth 100000
set_option maxHeartbeats 4000000
/-! a lambda as a value: made, held, handed to a def that calls it -/
namespace Ob
open PySem PySem.Spec PyProof.Rows L2 LamX
/-- at f: a lambda of that text, its cells cl, its code object at c' -/
def LamO (f : Addr) (q : Str) (params : Arguments) (body : Expr) (scope : Scope) (cl : List (Str × Addr)) (c' : Addr) : HO := .ext fun h => ∃ pm ctv, h.get? f = some (PySem.W.kla_obj "<lambda>" q params body scope cl pm c' ctv)
theorem lamO_ok {P : Program} {w : World} {H : Hp} {h : Heap} {f c' : Addr} {q : Str} {params : Arguments} {body : Expr} {scope : Scope} {cl : List (Str × Addr)} {pm ctv : Value} (e : h.get? f = some (PySem.W.kla_obj "<lambda>" q params body scope cl pm c' ctv)) : ObjOk P w H h f (LamO f q params body scope cl c') :=
  ⟨⟨pm, ctv, e⟩, ⟨_, e⟩, fun h1 h2 ⟨a, b, z⟩ k => ⟨a, b, k _ z⟩⟩
theorem lamO_at {P : Program} {w : World} {H : Hp} {h : Heap} {f c' : Addr} {q : Str} {params : Arguments} {body : Expr} {scope : Scope} {cl : List (Str × Addr)} (ok : HOk P w H h) (e : H f = some (LamO f q params body scope cl c')) : ∃ pm ctv, h.get? f = some (PySem.W.kla_obj "<lambda>" q params body scope cl pm c' ctv) := by
  have x : ObjOk P w H h f (.ext fun h => ∃ pm ctv, h.get? f = some (PySem.W.kla_obj "<lambda>" q params body scope cl pm c' ctv)) := ok f _ e
  exact x.1
abbrev lq (X : Cx) : Str := X.env.qual ++ "<lambda>"
section
variable {X : Cx} {pins : List (Addr × Obj)} {σ : L2.St} {H : Hp} {s : Shared}
theorem lam_value {T : List (Addr × Str)} {c P : Addr} {params : Arguments} {body : Expr} {scope : Scope} {pos : Pos} {E Q : Value → Shared → Prop} (I : Inv X pins σ H s) (TB : TabB X.base X.mg c P) (hcode : X.env.code = .ref c) (hm : (P, lq X) ∈ T) (hu : ∀ p ∈ T, p.1 = P → p.2 = lq X)
    (hT : Tabs T H) (hdef : defaultsOf params X.env = ([], [])) (hfree : ∀ y ∈ scope.names, y.2 = .free → ∃ c, X.env.cells.lookup y.1 = some c)
    (go : ∀ (f c' : Addr) (H1 : Hp) (s' : Shared), Inv X pins σ (upd H1 f (LamO f (lq X) params body scope (cloFrom X.env.cells scope.names []) c')) s' → ExtN H H1 → Tabs T H1 → H1 f = none → H1 c' = some (CodeO c' (lq X)) → Q (.ref f) s') :
    wpAny (model X.prog X.w) X.A (eval (.Lambda params body scope pos) X.env) Q E s := by
  obtain ⟨ps, tabAt, triples, all⟩ := hT _ hm
  have names : s.heap.BuiltinsAt X.mg P := TB.bm.keeps I.bk
  have tabObj : s.heap.get? P = some { cls := .none, data := .fields ps } := I.hok P _ tabAt
  have glob := I.mod.glob.keeps I.bk
  have code := TB.code.keeps I.bk
  refine PySem.W.kla_eval hdef ?_
  cases hit : codeAmong pos ps.toList with
  | some cv =>
    obtain ⟨c', rfl, known⟩ := all pos cv hit
    refine PySem.W.kla_makeFunctionHit (mg := X.mg) (c := c) (P := P) (ps := ps) (closure_ok hfree) I.ok.glob glob hcode code tabObj triples hit names fun ctv h' tk keeps bigger => ?_
    have J := (I.kept (t' := tk) keeps).laid (t' := tk) (a := h'.objs.size) (o := LamO h'.objs.size (lq X) params body scope (cloFrom X.env.cells scope.names []) c')
      (h' := h'.push (PySem.W.kla_obj "<lambda>" (lq X) params body scope (cloFrom X.env.cells scope.names []) ((X.mg "__name__").getD .none) c' ctv)) (fun b o e => Heap.get?_push_of_some _ e) (Nat.le_refl _) (lamO_ok (Heap.get?_push_size _ rfl))
    exact go _ c' H _ J (ExtN.refl H) hT (I.hok.fresh bigger) known
  | none =>
    refine PySem.W.kla_makeFunction (mg := X.mg) (c := c) (P := P) (ps := ps) (closure_ok hfree) I.ok.glob glob hcode code tabObj triples hit TB.gP names fun c' ctv h' tk others above below rec tabNow => ?_
    obtain ⟨c2, oc, vs, t, e2, ocAt, ocD, ocN⟩ := rec
    cases e2
    have noC : H c' = none := I.hok.fresh above
    have J0 := inv_table (t' := tk) (more := #[rawInt pos.line, rawInt pos.col, .ref c']) (h' := h') I tabAt (fun b o hb e => others b o hb e) tabNow above ⟨oc, vs, t, ocAt, ocD, ocN⟩
    have J := J0.laid (t' := tk) (a := h'.objs.size) (o := LamO h'.objs.size (lq X) params body scope (cloFrom X.env.cells scope.names []) c')
      (h' := h'.push (PySem.W.kla_obj "<lambda>" (lq X) params body scope (cloFrom X.env.cells scope.names []) ((X.mg "__name__").getD .none) c' ctv)) (fun b o e => Heap.get?_push_of_some _ e) (Nat.le_refl _) (lamO_ok (Heap.get?_push_size _ rfl))
    have grown : ExtN H (upd (upd H P (.tbl (ps ++ #[rawInt pos.line, rawInt pos.col, .ref c']))) c' (CodeO c' (lq X))) := fun b o e no => by
      have h1 : b ≠ c' := ne_of_none e noC
      have h2 : b ≠ P := fun z => by
        rw [z, tabAt] at e
        exact no ps (Option.some.inj e).symm
      rw [upd_ne h1, upd_ne h2]
      exact e
    have list : (ps ++ #[rawInt pos.line, rawInt pos.col, .ref c']).toList = ps.toList ++ [rawInt pos.line, rawInt pos.col, .ref c'] := by simp
    refine go _ c' _ _ J grown (fun p hp => ?_) (J0.hok.fresh (Nat.le_refl _)) upd_same
    by_cases hb : p.1 = P
    · rw [hu p hp hb, hb]
      refine ⟨_, (upd_ne (ne_of_none tabAt noC)).trans upd_same, list ▸ PySem.TriplesOk_snoc _ _ _ _ triples, fun p' cv hcv => ?_⟩
      rw [list] at hcv
      refine (among_app _ triples hcv).elim (fun z => ?_) fun z => ⟨c', z, upd_same⟩
      obtain ⟨c0, e1, e2⟩ := all p' cv z
      exact ⟨c0, e1, grown _ _ e2 codeO_ne⟩
    · obtain ⟨qs, a1, a2, a3⟩ := hT p hp
      refine ⟨qs, ((upd_ne (ne_of_none a1 noC)).trans (upd_ne hb)).trans a1, a2, fun p' cv hcv => ?_⟩
      obtain ⟨c0, e1, e2⟩ := a3 p' cv hcv
      exact ⟨c0, e1, grown _ _ e2 codeO_ne⟩
end
/-- lambda: body, as a value -/
def tLamV (T : List (Addr × Str)) (q : Str) (params : Arguments) (body : Expr) (scope : Scope) (cl : List (Str × Addr)) : TE := fun _ H Q => Tabs T H ∧ ∀ f c' H1, ExtN H H1 → Tabs T H1 → H1 f = none → H1 c' = some (CodeO c' q) → Q (.ref f) (upd H1 f (LamO f q params body scope cl c'))
theorem pe_lam {X : Cx} {T : List (Addr × Str)} {c P : Addr} {params : Arguments} {body : Expr} {scope : Scope} {pos : Pos} (TB : TabB X.base X.mg c P) (hcode : X.env.code = .ref c) (hm : (P, lq X) ∈ T) (hu : ∀ p ∈ T, p.1 = P → p.2 = lq X) (hdef : defaultsOf params X.env = ([], []))
    (hfree : X.Ok → ∀ y ∈ scope.names, y.2 = .free → ∃ c, X.env.cells.lookup y.1 = some c) : PE X (.Lambda params body scope pos) (tLamV T (lq X) params body scope (cloFrom X.env.cells scope.names [])) :=
  ⟨fun pins s σ H Q I h => lam_value I TB hcode hm hu h.1 hdef (hfree I.ok) fun f c' H1 s' J g t n k => ⟨.ref f, _, J, rfl, h.2 f c' H1 g t n k⟩⟩
/-! ### its call, in the def that got it -/
/-- a lambda without parameters, its reading t -/
structure LamD where
  params : Arguments
  body : Expr
  scope : Scope
  t : XK → TE
/-- what is known where it is called -/
def Held (X : Cx) (d : LamD) (f c' : Addr) (HZ : Hp) : Prop := HZ f = some (LamO f (lq X) d.params d.body d.scope (cloFrom X.env.cells d.scope.names []) c') ∧ HZ c' = some (CodeO c' (lq X))
/-- what the text tells of it, its body at level k -/
structure LamT (X : Cx) (k : Nat) (d : LamD) : Prop where
  scope : LamS X.env.scope d.scope
  bind : ∀ (q : Str) (cl : List (Str × Addr)) (pm cv ctv : Value), bindArgs (PySem.W.kla_fn "<lambda>" q d.params d.body d.scope cl pm cv ctv) ⟨[], []⟩ = pure []
  body : ∀ (A : Around) (outer : List Env) (s : Shared) (H : Hp) (E : XK) (f c' : Addr), Room k (A.deeper (lamEnv X d.scope s.heap.objs.size f c')) → PE (lamCx X A outer s H E d.scope f c') d.body (d.t E)
section
variable {X : Cx} {pins : List (Addr × Obj)} {σ : L2.St} {H HZ : Hp} {s s1 : Shared}
theorem pe_actK {CXg : CXT} {Eg : XK} {Ng : List Str} {qg : Str} {sg : Scope} {g f c' : Addr} {cdg : Value} {d : LamD} {k i : Nat} {a : Str} {pn : List (Addr × Obj)} {xe : Value → Shared → Prop} {W : WX} {E : XK} {p1 p2 : Pos} (I : Inv X pins σ H s) (L : LamT X k d)
    (tk : Takes ((cxOf CXg X.prog X.w X.K X.mg X.base Ng qg sg g cdg X.A X.stack s H Eg).tr pn xe) W) (hW : ∀ cls d (σ' : L2.St) H', σ'.length = Ng.length → E cls d H' → W cls d σ' H') (hr : Room (k + 1) (X.A.deeper (envOfC qg sg s.heap.objs.size g cdg)))
    (hN : Ng[i]? = some a) (hv : Vis sg a) (hd : (a == ("__debug__" : Str)) = false := by decide) (hcd : (a == ("__classdict__" : Str)) = false := by decide) :
    PE ((cxOf CXg X.prog X.w X.K X.mg X.base Ng qg sg g cdg X.A X.stack s H Eg).tr pn xe) (.Call (.Name a p1) [] [] p2) (fun σZ HZ Q => σZ[i]? = some (some (.ref f)) ∧ Held X d f c' HZ ∧ d.t E σ HZ Q) := by
  refine ⟨fun pinsZ sZ σZ HZ Q IZ h => ?_⟩
  obtain ⟨slot, ⟨atF, atC⟩, ht⟩ := h
  refine wpAny_Call_Name_kw (thn ((pe_var (pos := p1) (i := i) hN hv hd hcd).run pinsZ sZ σZ HZ (fun v H1 => v = .ref f ∧ H1 = HZ) IZ ⟨.ref f, slot, rfl, rfl⟩) fun u s1 ⟨v, H1, I1, r1, q1⟩ => ?_)
  obtain ⟨rfl, rfl⟩ := q1
  obtain rfl : u = Value.ref f := r1
  obtain ⟨pm, ctv, here⟩ := lamO_at I1.hok atF
  refine PySem.W.callWith_F0 ⟨_, _, _, _, here⟩ ?_
  have un : Un (frs X.stack) [] H H1 s.heap s1.heap := I1.base
  obtain ⟨⟨oc, vs, t, hoc, hdc, hvc⟩, _, _⟩ := I1.hok c' _ atC
  have run : codeAny (model X.prog X.w) (X.A.deeper (envOfC qg sg s.heap.objs.size g cdg)) (.call (.ref f) ⟨[], []⟩) (CR (L2.CX X.prog X.w) (envOfC qg sg s.heap.objs.size g cdg :: X.stack) X.prog X.w H1 s1 Q E) s1 := by
    refine PySem.W.kla_callFunE hr.depth here rfl L.scope.co L.scope.gen rfl ⟨c', oc, vs, t, rfl, hoc, hdc, hvc⟩ ?_
    rw [L.bind]
    refine wpAny_pure (wpAny_newFunctionEnv (fun y hy => (L.scope.own y hy).2) (fun y hy => absurd hy (by simp)) (fun h₁ hns hsb => ⟨I1.nolimit.fresh _ hsb, ?_⟩) L.scope.kind)
    show codeAny _ _ (.expr d.body (lamEnv X d.scope s1.heap.objs.size f c')) _ _
    have grown : ∀ b o, s1.heap.get? b = some o → h₁.get? b = some o := fun b o e => hsb.extBut b o (Nat.ne_of_lt (Heap.lt_size e)) (Heap.get?_push_of_some _ e)
    have J : Inv (lamCx X (X.A.deeper (envOfC qg sg s.heap.objs.size g cdg)) (envOfC qg sg s.heap.objs.size g cdg :: X.stack) s1 H1 E d.scope f c') [] σ H1 { s1 with heap := h₁, toks := s1.toks + ([] : List (Str × Value)).length } :=
      lam_start2 I L.scope I1.env0 hr.hd un hns grown
    refine PySem.W.kla_codeExpr (wpAny_mono ((L.body _ _ s1 H1 E f c' (hr.deeper _)).run [] _ _ H1 Q J ht) (fun v s' ⟨w', H', J', rv, q⟩ => ⟨w', H', J'.os, J'.bare, J'.base, J'.hok, rv, q⟩) fun e s' hq => hq)
  refine wpAny_call (codeAny_mono run fun r s' hq => ?_)
  match r, hq with
  | .error e, hq => exact tk e s' (XE.of_call I1 (fun cls d H' h => hW cls d σZ H' I1.len h) hq)
  | .ok (.ret u), hq => exact I1.after hq
  | .ok .next, hq => exact (show False from hq).elim
  | .ok .brk, hq => exact (show False from hq).elim
  | .ok .cont, hq => exact (show False from hq).elim
end
/-- the def that calls what it got: a its parameter; TT: what it makes of a call's reading -/
def Gives (X : Cx) (Ng : List Str) (x : Str) (sg : Scope) (g : Addr) (cdg : Value) (bg : List Stmt) (a : Str) (TT : (XK → Hp → VK → Prop) → Hp → VK → Prop) : Prop :=
  ∀ (f : Addr) (G : Hp → Prop) (s : Shared) (H : Hp) (Q : VK) (tl : XK → Hp → VK → Prop),
    (∀ (W : WX) (pn : List (Addr × Obj)) (xe : Value → Shared → Prop) (E : XK) (p1 p2 : Pos), Takes ((cxOf C8.CX0 X.prog X.w X.K X.mg X.base Ng x sg g cdg X.A X.stack s H C8.E0).tr pn xe) W → (∀ cls d (σ' : L2.St) H', σ'.length = Ng.length → E cls d H' → W cls d σ' H') →
      PE ((cxOf C8.CX0 X.prog X.w X.K X.mg X.base Ng x sg g cdg X.A X.stack s H C8.E0).tr pn xe) (.Call (.Name a p1) [] [] p2) (fun σZ HZ Q => σZ[0]? = some (some (.ref f)) ∧ G HZ ∧ tl E HZ Q)) →
    G H → TT tl H Q → ∃ t, PSs (cxOf C8.CX0 X.prog X.w X.K X.mg X.base Ng x sg g cdg X.A X.stack s H C8.E0).nox bg t ∧ t { nx := fun _ H' => Q .non H', rt := Q } (L2.start Ng [.ref f]) H
/-- x(e), e a lambda of one of these texts -/
theorem pe_lamarg {X : Cx} {TT : (XK → Hp → VK → Prop) → Hp → VK → Prop} {x a : Str} {g : Addr} {k : Nat} {pg : Arguments} {bg : List Stmt} {sg : Scope} {dV kV doc pm cdv ct oc : Value} {an od : Option Addr} {osl : Array (Option Value)} {Ng : List Str} {e : Expr} {te : TE} {p pos : Pos} {ds : List LamD}
    (hg : Gl X x) (hm : X.mg x = some (.ref g)) (hk : PySem.W.keepIn X.K (.ref g) = true) (lk : X.K.lookup g = some ⟨oc, od, .func (PySem.W.fnOf x x pg bg sg dV kV doc pm an cdv ct), osl⟩) (hcg : PySem.W.codeIn X.K cdv x = true)
    (hb : L2.Binds X.K (PySem.W.fnOf x x pg bg sg dV kV doc pm an cdv ct) [a] []) (Sg : FnScope Ng [a] sg) (hNg : Ng[0]? = some a) (hva : Vis sg a) (hG : Gives X Ng x sg g cdv bg a TT) (hr : Room (k + 2) X.A) (hL : ∀ d ∈ ds, LamT X k d) (he : PE X e te)
    (hs : starEach [e] X.env = (false, eval e X.env) :: starEach [] X.env := by rfl) (hdb : (x == ("__debug__" : Str)) = false := by decide) (hd : (a == ("__debug__" : Str)) = false := by decide) (hcd : (a == ("__classdict__" : Str)) = false := by decide) :
    PE X (.Call (.Name x p) [e] [] pos) (fun σ H Q => te σ H fun v H1 => ∃ f c' d, v = .ref f ∧ d ∈ ds ∧ Held X d f c' H1 ∧ TT (fun E H' Q' => d.t E σ H' Q') H1 Q) := by
  refine ⟨fun pins s σ H Q I h => wpAny_Call_Name_kw (ld_glob I hg hm ?_ hdb)⟩
  refine PySem.W.callWith_K (h₀ := X.base) I.ok.mod.kin hk ?_ hs (by rfl)
  rw [hs]
  show wpAny _ _ (spliced ((false, eval e X.env) :: backTo pos (starEach [] X.env))) _ _ s
  refine Calls.spliced_cons (thn (he.run pins s σ H _ I h) fun u s1 ⟨v, H1, I1, r1, f, c', d, ev, hd', held, tt⟩ => ?_)
  subst ev
  obtain rfl : u = Value.ref f := r1
  refine Calls.spliced_nil ⟨I1.kIn, ?_⟩
  have run : codeAny (model X.prog X.w) X.A (.call (.ref g) ⟨[.ref f], []⟩) (CR C8.CX0 X.stack X.prog X.w H1 s1 Q C8.E0) s1 := by
    refine run_ofS (N := Ng) (ps := [a]) (us := [.ref f]) (vs := [.ref f]) lk hcg Sg hr I1.env0 (hb s1 [.ref f] I1.kIn rfl) (.cons rfl .nil) rfl fun hr' => ?_
    obtain ⟨t', ht', hq'⟩ := hG f (Held X d f c') s1 H1 Q (fun E H' Q' => d.t E σ H' Q') (fun W pn xe E p1 p2 tk hW => pe_actK (i := 0) I1 (hL d hd') tk hW hr' hNg hva hd hcd) held tt
    exact ⟨t', ht'.nox, hq'⟩
  refine wpAny_call (codeAny_mono run fun r s2 hq => ?_)
  match r, hq with
  | .error e, hq => exact (show False from hq).elim
  | .ok (.ret u), hq => exact I1.after hq
  | .ok .next, hq => exact (show False from hq).elim
  | .ok .brk, hq => exact (show False from hq).elim
  | .ok .cont, hq => exact (show False from hq).elim
/-! ### y = None; try: a() / except B as n: y = n; return y -/
def TTc (K : PySem.W.Frag) (CB : Addr) : (XK → Hp → VK → Prop) → Hp → VK → Prop := fun tl H Q =>
  tl (fun cls d H' => PySem.W.exmOne K cls (.ref CB) = some true ∧ ∀ a, H' a = none → Q (.ref a) (upd H' a (Cgt cls d a))) H fun _ H' => ∃ v, (some (some V.non) : Option (Option V)) = some (some v) ∧ Q v H'
theorem caught_gives {X : Cx} {x a y n B : Str} {sg : Scope} {g CB : Addr} {cdg : Value} {p0 p1 p2 p3 p4 p5 p6 p7 p8 p9 p10 p11 p12 p13 : Pos} {j0 : Nat} (S : FnScope [a, y, n] [a] sg) (ha : Vis sg a) (hy : sg.names.lookup y = some .local) (hn : sg.names.lookup n = some .local)
    (hB : sg.names.lookup B = some .globalImplicit) (mB : X.mg B = some (.ref CB)) (dB : (B == ("__debug__" : Str)) = false) (dn : (n == ("__debug__" : Str)) = false) (cn : (n == ("__classdict__" : Str)) = false) (dy : (y == ("__debug__" : Str)) = false) (cy : (y == ("__classdict__" : Str)) = false) :
    Gives X [a, y, n] x sg g cdg [.Assign [.Name y p0] (.Constant .none j0 p1) p2, .Try [.Expr (.Call (.Name a p3) [] [] p4) p5] [.ExceptHandler (some (.Name B p6)) (some n) [.Assign [.Name y p7] (.Name n p8) p9] p10] [] [] p11, .Return (some (.Name y p12)) p13] a (TTc X.K CB) := by
  intro f G s H Q tl act hG h
  let Z : Cx := (cxOf C8.CX0 X.prog X.w X.K X.mg X.base [a, y, n] x sg g cdg X.A X.stack s H C8.E0).nox
  have gB : Gl Z B := hB
  refine ⟨_, pss_cons (ps_set (X := Z) (i := 1) S.nd rfl (.inl hy) pe_non) (pss_cons (ps_try_keep (X := Z) (i := 2) (j := 1) (c := .ref CB) (tb := fun W D σ H => ∃ Ech : XK, (∀ (cls : Value) (d : Option Addr) (σ' : L2.St) (H' : Hp), σ'.length = 3 → Ech cls d H' → W cls d σ' H') ∧ σ[0]? = some (some (.ref f)) ∧ G H ∧ tl Ech H fun _ H' => D.nx σ H') rfl rfl rfl S.nd rfl rfl hn hy dn cn ⟨gB, dB, .inl mB⟩
    (fun W pn xe tk _ => ?_)) (pss_one (ps_ret (pe_var (X := Z) (i := 1) rfl (.inl hy) dy cy)))), ?_⟩
  · refine ⟨fun pins s' σ' H' D I h' => ?_⟩
    obtain ⟨Ech, hW, h1, h2, h3⟩ := h'
    exact (pss_one (ps_expr (pos := p5) (act W pn xe Ech p3 p4 tk hW))).run pins s' σ' H' D I ⟨h1, h2, h3⟩
  · exact ⟨fun cls d H' => PySem.W.exmOne X.K cls (.ref CB) = some true ∧ ∀ a, H' a = none → Q (.ref a) (upd H' a (Cgt cls d a)), fun cls d σ' H' hl ⟨e1, e2⟩ => ⟨e1, fun b nb => ⟨.ref b, (by match σ', hl with | [_, _, _], _ => rfl), e2 b nb⟩⟩, rfl, hG, h⟩
end Ob
end
section
set_option linter.all false
set_option maxRecDepth 100000
set_option maxHeartbeats 4000000
/-! an error class of the program, raised by a def -/
namespace Ob
open PySem PySem.Spec PyProof.Rows L2
structure Err (P : Program) (K : PySem.W.Frag) (mg : Str → Option Value) (x : Str) (C : Addr) (part : Str) : Prop where
  ex : ∃ (fI : Addr) (fd : FuncData), InitK P K mg C fI part part fd ∧ PySem.W.findIn K (.ref C) "__init__" = some (some (.ref fI)) ∧ PySem.W.typeIn K (.ref fI) = some (.type "function") ∧ Binds K fd ["self", part] []
  g : mg x = some (.ref C)
/-- what is told of such an error, made of y -/
def Raised (C : Addr) (part : Str) (y : V) (H : Hp) (E : XK) : Prop := ∀ d, H d = none → E (.ref C) (some d) (upd H d (.xd [(part, y)]))
theorem pmk_err {X : Cx} {x part : Str} {C : Addr} {e : Expr} {ta : TA} {p pos : Pos} (T : Err X.prog X.K X.mg x C part) (hr : Room 2 X.A) (hg : Gl X x) (ha : PA X [e] ta) (hdb : (x == ("__debug__" : Str)) = false := by decide)
    (he : starEach [e] X.env = (false, eval e X.env) :: starEach [] X.env := by rfl) (hpl : (backTo pos (starEach [] X.env)).any (·.1) = false := by rfl) : PMk X (.Call (.Name x p) [e] [] pos) (tMkX X C part ta) := by
  obtain ⟨fI, fd, IK, iC, tI, hb⟩ := T.ex
  exact pmk_exc IK iC tI hr hb pass0 hg T.g ha hdb he hpl
/-- the caller's own way out takes what a callee lets out -/
theorem passE {X : Cx} {E : XK} (tk : Takes X fun cls d _ H => E cls d H) : Passes (L2.CX X.prog X.w) X E := passes_call tk fun _ _ _ _ h => h
end Ob
end
section
set_option linter.all false
set_option maxRecDepth 100000
set_option maxHeartbeats 8000000
namespace K
open PySem PySem.Spec PyProof.Rows L2 Ob
section
variable {P : Program} {w : World} {K : PySem.W.Frag} {mg : Str → Option Value} {base : Heap} {C CN CR fI : Addr} {fdI : FuncData}
def spWantRule (C : Addr) : Sp := fun vs H Q _ => ∃ r p n ns, vs = [.ref r] ∧ RuleAt C H r p n ns ∧ Q .non H
theorem scWantRule : FnScope ["rule"] ["rule"] (defScope sWantRule) := ⟨rfl, rfl, rfl, by decide +kernel, rfl, by decide +kernel, by decide +kernel⟩
theorem ok_want_rule {f : Addr} {fd : FuncData} (F : Fun K "want_rule" "want_rule" sWantRule f fd) (T : RuleC K mg C) (B : Bts mg) : FnOk P w K mg base CX0 1 f fd ["rule"] (spWantRule C) := by
  refine F.ok scWantRule (fun vs H Q E h => ?_) (fun cdv A outer s H vs Q E hr h => ?_)
  · obtain ⟨r, p, n, ns, rfl, _⟩ := h
    rfl
  · obtain ⟨r, p, n, ns, rfl, hR, q⟩ := h
    exact ⟨_, PSs.nox (pss_one (ps_if (pt_not (pt_val (pe_callB call_isi (by rfl) B.isi (by decide +kernel) (pa_cons (pv 0) (pa_cons (pe_glob (v := .ref C) (by rfl) T.g rfl) pa_nil))))) (pss_one ps_never) pss_nil)),
      _, rfl, .ref r, .ref C, .ref C, .ref C, true, rfl, .own C, T.ty hR, kit_self, true, rfl, iteF q⟩
end
end K
end
section
set_option linter.all false
set_option maxRecDepth 100000
set_option maxHeartbeats 4000000
/-! a value that a def gets in the place of a rule -/
namespace K
open PySem PySem.Spec PyProof.Rows L2 Ob
theorem fmt_int {P : Program} {w : World} {A : Around} {H : Hp} {i : Int} (h : i.natAbs.log2 < 1920) (h2 : (toString i : Str).length ≤ 100000) : Fmt P w A H (.int i) := fun E s u Q _ r q => by
  obtain ⟨t, rfl⟩ := r
  exact PyProof.Rows.formatField_int_small h (q _ _ _ s.heap h2 fun _ _ z => z)
theorem fmt_eight {P : Program} {w : World} {A : Around} {H : Hp} : Fmt P w A H (.int 8) := fmt_int (by decide +kernel) (by decide +kernel)
theorem tyes {σ : L2.St} {H : Hp} {A B : Hp → Prop} (h : A H) : tYes σ H (fun b H3 => if b = true then A H3 else B H3) := by
  unfold tYes
  dsimp only
  rw [if_pos rfl]
  exact h
theorem pow8 {n : Nat} (h : n ≤ 8) : (2 : Nat) ^ n ≤ 256 := Nat.le_trans (Nat.pow_le_pow_right (by decide) h) (by decide)
/-- a rule, or something of another kind -/
inductive RArg (K : PySem.W.Frag) (C : Addr) (H : Hp) : V → Option (Int × Nat × List Int) → Prop
  | rule {r : Addr} {p : Int} {n : Nat} {ns : List Int} (h : RuleAt C H r p n ns) : RArg K C H (.ref r) (some (p, n, ns))
  | odd {x : V} {t : String} (h : TyX K H x (.type t)) (k : t ∈ "int" :: oddKinds) : RArg K C H x none
theorem RArg.same {K : PySem.W.Frag} {C : Addr} {H H' : Hp} {x : V} {o : Option (Int × Nat × List Int)} (s : ∀ b o, H b = some o → H' b = some o) (h : RArg K C H x o) : RArg K C H' x o := by
  cases h with
  | rule h => exact .rule (h.same s)
  | odd h k => exact .odd (tyx_same s h) k
theorem rarg_non {K : PySem.W.Frag} {C : Addr} {H : Hp} : RArg K C H .non none := .odd (.base .non) (by decide)
theorem rarg_int {K : PySem.W.Frag} {C : Addr} {H : Hp} {i : Int} : RArg K C H (.int i) none := .odd (.base (.int i)) (by decide)
theorem rarg_str {K : PySem.W.Frag} {C : Addr} {H : Hp} {i : Str} : RArg K C H (.str i) none := .odd (.base (.str i)) (by decide)
/-- nothing of these kinds is a rule -/
structure NotR (K : PySem.W.Frag) (C : Addr) : Prop where
  no : ∀ t ∈ "int" :: oddKinds, PySem.W.kitOne K (.type t) (.ref C) = some false
def notRB (K : PySem.W.Frag) (C : Addr) : Bool := ("int" :: oddKinds).all fun t => decide (PySem.W.kitOne K (.type t) (.ref C) = some false)
theorem notRB_ok {K : PySem.W.Frag} {C : Addr} (h : notRB K C = true) : NotR K C := ⟨fun t ht => of_decide_eq_true (List.all_eq_true.mp h t ht)⟩
section
variable {P : Program} {w : World} {K : PySem.W.Frag} {mg : Str → Option Value} {base : Heap} {C CR fI : Addr} {fdI : FuncData}
def spWant (K : PySem.W.Frag) (C CR : Addr) : Sp := fun vs H Q E => ∃ x o, vs = [x] ∧ RArg K C H x o ∧ ((o.isSome = true ∧ Q .non H) ∨ (o = none ∧ Raised CR "part" .non H E))
theorem ok_want {f : Addr} {fd : FuncData} (F : Fun K "want_rule" "want_rule" sWantRule f fd) (T : RuleC K mg C) (TR : Err P K mg "BadRule" CR "part") (N : NotR K C) (B : Bts mg) : FnOk P w K mg base (L2.CX P w) 3 f fd ["rule"] (spWant K C CR) := by
  refine F.okX scWantRule (fun vs H Q E h => ?_) (fun cdv A outer s H vs Q E hr h => ?_)
  · obtain ⟨x, o, rfl, _⟩ := h
    rfl
  · obtain ⟨x, o, rfl, ha, q⟩ := h
    refine ⟨_, pss_one (ps_if (pt_not (pt_val (pe_callB call_isi (by rfl) B.isi (by decide +kernel) (pa_cons (pv 0) (pa_cons (pe_glob (v := .ref C) (by rfl) T.g rfl) pa_nil)))))
      (pss_one (ps_raise rfl (takes_of rfl rfl rfl rfl) (pmk_err TR hr rfl (by exact pa_cons pe_non pa_nil)))) pss_nil), ?_⟩
    cases ha with
    | rule hR =>
      rcases q with ⟨_, q⟩ | ⟨e, _⟩
      · exact ⟨_, rfl, _, _, .ref C, .ref C, true, rfl, .own C, T.ty hR, kit_self, true, rfl, iteF q⟩
      · cases e
    | odd h k =>
      rcases q with ⟨e, _⟩ | ⟨_, q⟩
      · cases e
      · exact ⟨_, rfl, _, _, _, _, false, rfl, .own C, h, N.no _ k, false, rfl, iteT ⟨_, rfl, fun _ _ _ _ => fmt_none, fun d hd => q d hd⟩⟩
end
end K
end
section
set_option linter.all false
set_option maxRecDepth 100000
set_option maxHeartbeats 4000000
/-! statements one by one: from A to B -/
namespace Ob
open PySem PySem.Spec PyProof.Rows L2
abbrev Sl (σ : L2.St) (i : Nat) (v : V) : Prop := σ[i]? = some (some v)
section
variable {σ : L2.St} {i j : Nat} {v x : V} {y : Option V}
theorem Sl.put (h : Sl σ j v) (ne : i ≠ j := by decide) : Sl (σ.set i y) j v := (List.getElem?_set_ne ne).trans h
theorem Sl.here (hl : i < σ.length) : Sl (σ.set i (some x)) i x := by
  show (σ.set i (some x))[i]? = _
  rw [List.getElem?_set_self hl]
/-- in a comprehension's turn -/
theorem Sl.in1 (h : Sl σ j v) (ne : i ≠ j := by decide) : Sl ((wipe σ [i]).set i y) j v := by
  show (((wipe σ []).set i none).set i y)[j]? = _
  rw [List.getElem?_set_ne ne, List.getElem?_set_ne ne]
  exact h
theorem Sl.it (hl : i < σ.length) : Sl ((wipe σ [i]).set i (some x)) i x := by
  show (((wipe σ []).set i none).set i (some x))[i]? = _
  rw [List.getElem?_set_self (by rw [List.length_set]; exact hl)]
theorem wipe_it : wipe ((wipe σ [i]).set i y) [i] = wipe σ [i] := by
  show (((((wipe σ []).set i none).set i y) : L2.St).set i none) = (wipe σ []).set i none
  rw [List.set_set, List.set_set]
end
def tTri (A B : L2.St → Hp → Prop) : TS := fun D σ H => A σ H ∧ ∀ σ' H', B σ' H' → D.nx σ' H'
section
variable {X : Cx} {st : Stmt} {ss : List Stmt} {t : TS} {A B C : L2.St → Hp → Prop}
theorem tri (h : PS X st t) (hr : ∀ D σ H, σ.length = X.N.length → A σ H → (∀ σ' H', B σ' H' → D.nx σ' H') → t D σ H) : PS X st (tTri A B) :=
  ⟨fun pins s σ H D I h' => h.run pins s σ H D I (hr D σ H I.len h'.1 h'.2)⟩
theorem tri_last (h : PS X st (tTri A B)) : PSs X [st] (tTri A B) := pss_one h
theorem tri_cons (h : PS X st (tTri A B)) (hs : PSs X ss (tTri B C)) : PSs X (st :: ss) (tTri A C) :=
  ⟨fun pins s σ H D I h' => (pss_cons h hs).run pins s σ H D I ⟨h'.1, fun σ' H' b => ⟨b, h'.2⟩⟩⟩
theorem tri_pre (h : PSs X ss (tTri A B)) {A' : L2.St → Hp → Prop} (ha : ∀ σ H, A' σ H → A σ H) : PSs X ss (tTri A' B) :=
  ⟨fun pins s σ H D I h' => h.run pins s σ H D I ⟨ha _ _ h'.1, h'.2⟩⟩
end
end Ob
end
section
set_option linter.all false
set_option maxRecDepth 100000
set_option maxHeartbeats 4000000
/-! f(b = y, a = x): every parameter by its name, the last one first -/
namespace Ob
open PySem PySem.Spec PyProof.Rows L2
theorem vals_reverse : ∀ {zs : List V} {ws : List Value}, Vals zs ws → Vals zs.reverse ws.reverse
  | _, _, .nil => .nil
  | _, _, .cons r rs => by
    rw [List.reverse_cons, List.reverse_cons]
    exact (vals_reverse rs).append (.cons r .nil)
def KwBinds (fd : FuncData) (ps : List Str) : Prop := ∀ (s : Shared) (ws : List Value), ws.length = ps.length → BindsTo s fd ⟨[], ps.reverse.zip ws⟩ (ps.zip ws.reverse)
def tCallKw (sp : Sp) (E : XK) (tk : TA) : TE := fun σ H Q => tk σ H fun zs H1 => sp zs.reverse H1 Q E
theorem pe_kw {X : Cx} {CX : CXT} {k : Nat} {f : Addr} {fd : FuncData} {ps : List Str} {sp : Sp} {E : XK} {x : Str} {p pos : Pos} {kws : List Keyword} {tk : TA} (F : FnOk X.prog X.w X.K X.mg X.base CX k f fd ps sp) (hr : Room k X.A) (hg : Gl X x) (hm : X.mg x = some (.ref f)) (hk : PySem.W.keepIn X.K (.ref f) = true)
    (hb : KwBinds fd ps) (hx : Passes CX X E) (hkw : PK X kws tk) (hall : (backToKw pos (keywordEach kws X.env)).all (·.1.isSome) = true := by rfl) (hks : (backToKw pos (keywordEach kws X.env)).filterMap (·.1) = ps.reverse := by rfl)
    (hdb : (x == ("__debug__" : Str)) = false := by decide) (hpl : ((backTo pos (starEach [] X.env)).any (·.1) || (backToKw pos (keywordEach kws X.env)).any (·.1.isNone)) = false := by rfl) :
    PE X (.Call (.Name x p) [] kws pos) (tCallKw sp E tk) := by
  refine ⟨fun pins s σ H Q I h => ?_⟩
  refine wpAny_Call_Name_kw (ld_glob I hg hm ?_ hdb)
  refine PySem.W.callWith_KW0 (h₀ := X.base) I.ok.mod.kin hk hall ?_ hpl
  refine thn (hkw.run pos pins s σ H _ I h) fun ws s1 ⟨zs, H1, I1, rz, q⟩ => ⟨I1.kIn, ?_⟩
  rw [hks]
  have r2 := vals_reverse rz
  have hl : ws.length = ps.length := by
    have := F.len _ _ _ _ q
    rw [List.length_reverse, Paired.length rz] at this
    exact this
  refine wpAny_call (codeAny_mono (F.run X.A X.stack s1 H1 ⟨[], ps.reverse.zip ws⟩ ws.reverse zs.reverse Q E hr I1.env0 (hb s1 ws hl) r2 q) fun r s' hq => ?_)
  match r, hq with
  | .error e, hq => exact hx pins σ H1 s1 e s' I1 hq
  | .ok (.ret u), hq => exact I1.after hq
  | .ok .next, hq => exact (show False from hq).elim
  | .ok .brk, hq => exact (show False from hq).elim
  | .ok .cont, hq => exact (show False from hq).elim
end Ob
end
section
set_option linter.all false
set_option maxRecDepth 100000
set_option maxHeartbeats 4000000
/-! a lambda with parameters and without captured names, held by a name, called -/
namespace Ob
open PySem PySem.Spec PyProof.Rows L2 LamX
theorem pe_callLam {X : Cx} {i k : Nat} {a : Str} {ps : List Str} {params : Arguments} {body : Expr} {scope : Scope} {q : Str} {E : XK} {tb : TE} {t : TA} {e : Expr} {es : List Expr} {p pos : Pos} (S : FnScope ps ps scope)
    (hbind : ∀ (us : List Value), us.length = ps.length → ∀ pm cv ctv : Value, bindArgs (PySem.W.kla_fn "<lambda>" q params body scope [] pm cv ctv) ⟨us, []⟩ = pure (ps.zip us))
    (hbody : ∀ (A : Around) (outer : List Env) (s : Shared) (H : Hp) (f c' : Addr), Room k (A.deeper (envOfC q scope s.heap.objs.size f (.ref c'))) → PE (cxOf (L2.CX X.prog X.w) X.prog X.w X.K X.mg X.base ps q scope f (.ref c') A outer s H E) body tb)
    (hr : Room (k + 1) X.A) (hx : Passes (L2.CX X.prog X.w) X E) (hN : X.N[i]? = some a) (hv : Vis X.env.scope a) (ha : PA X (e :: es) t) (hd : (a == ("__debug__" : Str)) = false := by decide) (hcd : (a == ("__classdict__" : Str)) = false := by decide)
    (he : starEach (e :: es) X.env = (false, eval e X.env) :: starEach es X.env := by rfl) (hpl : (backTo pos (starEach es X.env)).any (·.1) = false := by rfl) :
    PE X (.Call (.Name a p) (e :: es) [] pos) (fun σ H Q => ∃ g c', σ[i]? = some (some (.ref g)) ∧ H g = some (LamO g q params body scope [] c') ∧ t σ H fun vs H1 => H1 g = some (LamO g q params body scope [] c') ∧ H1 c' = some (CodeO c' q) ∧ vs.length = ps.length ∧ tb (L2.start ps vs) H1 Q) := by
  refine ⟨fun pins s σ H Q I h => ?_⟩
  obtain ⟨g, c', slot, at0, ht⟩ := h
  refine wpAny_Call_Name_kw (thn ((pe_var (pos := p) (i := i) hN hv hd hcd).run pins s σ H (fun v H1 => v = .ref g ∧ H1 = H) I ⟨.ref g, slot, rfl, rfl⟩) fun u s1 ⟨v, H1, I1, r1, q1⟩ => ?_)
  obtain ⟨rfl, rfl⟩ := q1
  obtain rfl : u = Value.ref g := r1
  obtain ⟨pm0, ct0, here0⟩ := lamO_at I1.hok at0
  refine PySem.W.callWith_F ⟨_, _, _, _, here0⟩ (thn (ha.run pos pins s1 σ _ _ I1 ht) fun us s2 ⟨vs, H2, I2, r, at2, atC, hl, hq⟩ => ?_) he hpl
  obtain ⟨pm, ct, here⟩ := lamO_at I2.hok at2
  refine ⟨⟨_, _, _, _, here⟩, ?_⟩
  obtain ⟨⟨oc, vs0, t0, hoc, hdc, hvc⟩, _, _⟩ := I2.hok c' _ atC
  have hul : us.length = ps.length := by rw [← hl, Paired.length r]
  have kinds : ∀ y ∈ ps.zip us, scope.names.lookup y.1 = some .local ∨ (scope.names.lookup y.1 = some .cell ∧ ((cellsFrom (s2.heap.objs.size + 1) scope.names []).lookup y.1).isSome = true) := fun ⟨n, v⟩ hy =>
    (S.par n (List.of_mem_zip hy).1).elim .inl fun z => .inr ⟨z, PySem.W.cellsFrom_some _ _ _ (.inl z)⟩
  have run : codeAny (model X.prog X.w) X.A (.call (.ref g) ⟨us, []⟩) (CR (L2.CX X.prog X.w) X.stack X.prog X.w H2 s2 Q E) s2 := by
    refine PySem.W.kla_callFunE hr.depth here rfl S.co S.gen rfl ⟨c', oc, vs0, t0, rfl, hoc, hdc, hvc⟩ ?_
    rw [hbind us hul]
    refine wpAny_pure (wpAny_newFunctionEnv_cells S.kind kinds fun env he s3 x => ?_)
    subst he
    refine ⟨I2.nolimit.keeps x.toInCall.keep, ?_⟩
    have J : Inv (cxOf (L2.CX X.prog X.w) X.prog X.w X.K X.mg X.base ps q scope g (.ref c') X.A X.stack s2 H2 E) [] (L2.start ps vs) H2 s3 := inv_start S hr.hd I2.env0 hl r x
    exact PySem.W.kla_codeExpr (wpAny_mono ((hbody X.A X.stack s2 H2 g c' (hr.deeper _)).run [] s3 _ H2 Q J hq) (fun v s' ⟨w', H', J', rv, qq⟩ => ⟨w', H', J'.os, J'.bare, J'.base, J'.hok, rv, qq⟩) fun e s' z => z)
  refine wpAny_call (codeAny_mono run fun r s' hq => ?_)
  match r, hq with
  | .error e, hq => exact hx pins σ _ _ e s' I2 hq
  | .ok (.ret u), hq => exact I2.after hq
  | .ok .next, hq => exact (show False from hq).elim
  | .ok .brk, hq => exact (show False from hq).elim
  | .ok .cont, hq => exact (show False from hq).elim
end Ob
end
section
set_option linter.all false
set_option maxRecDepth 100000
set_option maxHeartbeats 4000000
/-! a caught error that is kept: isinstance, its field -/
namespace Ob
open PySem PySem.Spec PyProof.Rows L2
/-- a caught error of the class at C stands at a, its own dict at d -/
def CgtAt (H : Hp) (a C d : Addr) (fs : List (Str × V)) : Prop := H a = some (Cgt (.ref C) (some d) a) ∧ H d = some (.xd fs)
section
variable {X : Cx} {pins : List (Addr × Obj)} {σ : L2.St} {H : Hp} {s : Shared} {a C d : Addr} {fs : List (Str × V)}
theorem cgt_inst (I : Inv X pins σ H s) (h : CgtAt H a C d fs) : ∃ ox od mA es ep, PySem.W.InstAt s.heap a ox C (some od) ∧ s.heap.get? d = some od ∧ od.data = .dict es ep ∧ s.heap.Ns1 d mA ∧ ∀ f, RelO (fs.lookup f) (mA f) := by
  obtain ⟨oe, vs, ho, ⟨hc, hd⟩, hv⟩ := cgt_at I.hok h.1
  obtain ⟨mA, hns, rel⟩ := I.hok d _ h.2
  obtain ⟨od, es, ep, hod, he, hr⟩ := id hns
  obtain ⟨oc, odd, oda, osl⟩ := oe
  dsimp only at hc hd hv
  subst hc hd hv
  exact ⟨_, od, mA, es, ep, ⟨ho, rfl, rfl, hod⟩, hod, he, ⟨od, es, ep, hod, he, hr⟩, rel⟩
/-- isinstance(e, c), e such an error -/
def rIsC (K : PySem.W.Frag) : List V → Hp → VK → Prop := fun xs H Q => ∃ (a C d : Addr) (fs : List (Str × V)) (c : V) (cv : Value) (b : Bool), xs = [.ref a, c] ∧ CgtAt H a C d fs ∧ ExcC K C ∧ (∀ u, RelV c u → u = cv) ∧ PySem.W.kitOne K (.ref C) cv = some b ∧ Q (.bl b) H
theorem call_isC : CallR X (.builtin "isinstance") (rIsC X.K) := by
  intro pins s σ H xs us Q I r h
  obtain ⟨a, C, d, fs, c, cv, b, rfl, hx, T, hcv, e, q⟩ := h
  cases r with
  | cons rx rr =>
    cases rr with
    | cons rt rr =>
      cases rr
      cases rx
      have ec := hcv _ rt
      subst ec
      obtain ⟨ox, od, _, _, _, J, _⟩ := cgt_inst I hx
      obtain ⟨cd, hcd, _⟩ := PySem.W.any_some T.hd
      exact PySem.W.kia_one (PySem.W.kitx_exc (by rw [hcd]; rfl) T.hg T.hk T.hs T.ha T.hn T.ht T.hm) I.kIn J e (fun z => nomatch z) fun tk => ⟨.bl b, H, I.kept (t' := tk) fun _ _ z => z, rfl, q⟩
/-- e.f, e such an error -/
def tCgt (K : PySem.W.Frag) (f : Str) (te : TE) : TE := fun σ H Q => te σ H fun x H1 => ∃ (a C d : Addr) (fs : List (Str × V)) (v : V), x = .ref a ∧ CgtAt H1 a C d fs ∧ XfC K C ∧ PySem.W.findIn K (.ref C) f = some none ∧ fs.lookup f = some v ∧ Q v H1
theorem pe_cgt {e : Expr} {te : TE} {pos : Pos} {n : Str} (he : PE X e te) (hb : attributeBase e n X.env (eval e X.env) = eval e X.env := by rfl) : PE X (.Attribute e n pos) (tCgt X.K n te) := by
  refine ⟨fun pins s σ H Q I h => attr_of hb (thn (he.run pins s σ H _ I h) fun u s1 hh => ?_)⟩
  obtain ⟨x, H1, I1, rx, a, C, d, fs, v, ex, hx, T, hno, l, q⟩ := hh
  subst ex
  obtain rfl : u = Value.ref a := rx
  obtain ⟨ox, od, mA, es, ep, J, hod, _, hns, hr⟩ := cgt_inst I1 hx
  obtain ⟨od2, hod2, hl⟩ := lookIn_ns hns
  rw [hod] at hod2
  cases hod2
  obtain ⟨u, hu, ru⟩ := RelO.some_of (v := v) (o := mA n) (by rw [← l]; exact hr n)
  exact HandSPX.exc_get I1.kIn J T.ga T.gg T.exC (PySem.W.findObj_own T.hdC hno rfl (by rw [hl, hu])) (handed_of ru) ⟨v, H1, I1.tok _, ru, q⟩
end
end Ob
end
section
set_option linter.all false
set_option maxRecDepth 100000
set_option maxHeartbeats 4000000
/-! x != y by an own __eq__ of a class right below object, without an own __ne__ -/
namespace Ob
open PySem PySem.Spec PyProof.Rows L2
theorem ns_some_of {K : PySem.W.Frag} {h : Heap} {N : Addr} {m : Str → Option Value} {n : Str} {v : Value} (X : K.In h) (G : h.Ns N m) (e : PySem.W.nsIn K N n = some (some v)) : m n = some v := by
  obtain ⟨o, es, ep, ho, hd, _, hf⟩ := G
  unfold PySem.W.nsIn at e
  split at e
  case h_1 c d es' n' sl q =>
    have e1 := X _ _ q
    rw [ho] at e1
    cases e1
    cases hd
    split at e
    case h_1 en he =>
      cases e
      rw [← hf]
      unfold nsFind findBy
      rw [← Array.find?_toList, he]
      rfl
    case h_2 => split at e <;> cases e
  case h_2 => cases e
structure NeC (K : PySem.W.Frag) (C f : Addr) : Prop where
  ex : ∃ (nm q : Str) (N : Addr) (bs : List Value) (hdct : Bool) (sn : List Str) (sub : List Value) (ab : Bool) (col : Option Bool) (dd : Option Addr) (k0 k1 k2 k3 k5 : Option Value) (newId : String),
    K.lookup C = some (excClassObj nm q C N bs [.type "object"] hdct sn sub ab col dd k0 k1 k2 k3 k5 newId) ∧ PySem.W.nsOkIn K N = true ∧ PySem.W.nsIn K N "__eq__" = some (some (.ref f)) ∧ PySem.W.nsIn K N "__ne__" = some none
  fn : ∃ of, K.lookup f = some of ∧ of.cls = .type "function"
theorem NeC.at {K : PySem.W.Frag} {C f x : Addr} {h : Heap} {o : Obj} (T : NeC K C f) (X : K.In h) (hx : h.get? x = some o) (hc : o.cls = .ref C) : h.OwnEqNoNe x C f "object" [.type "object"] := by
  obtain ⟨nm, q, N, bs, hdct, sn, sub, ab, col, dd, k0, k1, k2, k3, k5, newId, hC, hok, he, hn⟩ := T.ex
  obtain ⟨of, hf, hfc⟩ := T.fn
  have G := Heap.Ns.of_isNs (PySem.W.isNs_of_in X hok)
  exact ⟨o, of, nm, q, N, bs, hdct, sn, sub, ab, col, dd, k0, k1, k2, k3, k5, newId, _, some (.builtin "object.__eq__"), hx, hc, X _ _ hC, G, ns_some_of X G he, X _ _ hf, hfc, F.cmp_object.mro, F.cmp_object.eq.lookup, PySem.W.ns_none_of X G hn⟩
def rNeR (C : Addr) (sp : Sp) : R2 := fun x y H Q => ∃ a b dx dy fs gs, x = .ref a ∧ y = .ref b ∧ H a = some (.ins C dx fs) ∧ H b = some (.ins C dy gs) ∧ sp [.ref a, .ref b] H (fun v H' => ∃ r, v = .bl r ∧ Q (.bl (!r)) H') E0
theorem op_neR {X : Cx} {CX : CXT} {C f : Addr} {fd : FuncData} {ps : List Str} {sp : Sp} {n : Nat} (T : NeC X.K C f) (G : FnOk X.prog X.w X.K X.mg X.base CX n f fd ps sp) (hb : Binds X.K fd ps []) (hx : Passes CX X E0) (hr : Room (n + 1) X.A) : OpR X (compareOp .NotEq) (rNeR C sp) := by
  intro pins s σ H x y v u Q I rx ry hq
  obtain ⟨a, b, dx, dy, fs, gs, rfl, rfl, ha, hb', q⟩ := hq
  cases rx
  cases ry
  obtain ⟨mA, J1, _⟩ := ins_get I.hok ha
  obtain ⟨mB, J2, _⟩ := ins_get I.hok hb'
  obtain ⟨od1, A1, _⟩ := J1.look
  obtain ⟨od2, A2, _⟩ := J2.look
  have r2 : Vals [V.ref a, V.ref b] [Value.ref a, Value.ref b] := .cons rfl (.cons rfl .nil)
  have hl := G.len _ _ _ _ q
  have bs : BindsTo s fd ⟨[.ref a, .ref b], []⟩ (ps.zip [.ref a, .ref b]) := by
    have := hb s [.ref a, .ref b] I.kIn (by simpa using hl)
    simpa using this
  have e0 : Env0 X.prog X.w X.K X.mg X.base X.A.in1 X.stack s H := by
    have e := I.env0
    exact ⟨e.frames, e.mod, e.bs, e.bsz, e.funs, e.frf, e.hok, e.bare⟩
  have hroom := hr.in1
  have hu : X.A.units + 1 < cLine := by
    have := hr.units
    omega
  obtain ⟨hp, g, dr, tk, os⟩ := s
  refine compareOp_ne_ownEq F.cmp_object (T.at I.kIn A1.1 A1.cls) A2.1 A2.cls hu ?_
  refine wpAny_call (codeAny_mono (G.run X.A.in1 X.stack _ H ⟨[.ref a, .ref b], []⟩ [.ref a, .ref b] [.ref a, .ref b] _ E0 hroom e0 bs r2 q) fun r s' hq => ?_)
  match r, hq with
  | .error e, hq => exact hx pins σ H _ e s' I hq
  | .ok (.ret w), hq =>
    obtain ⟨z, H', I', rz, r, ez, hQ⟩ := I.after hq
    subst ez
    cases rz
    exact ⟨r, rfl, .bl (!r), H', I', rfl, hQ⟩
  | .ok .next, hq => exact (show False from hq).elim
  | .ok .brk, hq => exact (show False from hq).elim
  | .ok .cont, hq => exact (show False from hq).elim
end Ob
end
section
set_option linter.all false
set_option maxRecDepth 100000
set_option maxHeartbeats 4000000
/-! the end of a law whose own def makes lambdas and runs where no repr is under way -/
namespace Ob
open PySem PySem.Spec PyProof.Rows L2 LamX
section
variable {P : Program} {w : World} {K : PySem.W.Frag} {mg : Str → Option Value} {base : Heap}
/-- a def of the text by its body, its code object at c -/
theorem fnG_at {x qual : Str} {st : Stmt} {f c : Addr} {N ps : List Str} {k : Nat} {sp : Sp} {oc kV doc pm ct : Value} {od an : Option Addr} {osl : Array (Option Value)}
    (lk : K.lookup f = some ⟨oc, od, .func (PySem.W.fnOf x qual (defArgs st) (defBody st) (defScope st) .none kV doc pm an (.ref c) ct), osl⟩) (hcd : PySem.W.codeIn K (.ref c) qual = true) (S : FnScope N ps (defScope st)) (len : ∀ vs H Q E, sp vs H Q E → vs.length = ps.length)
    (body : ∀ (A : Around) (outer : List Env) (s : Shared) (H : Hp) (vs : List V) (Q : VK) (E : XK), (A.deeper (envOfC qual (defScope st) s.heap.objs.size f (.ref c))).guards = some [] → Room k (A.deeper (envOfC qual (defScope st) s.heap.objs.size f (.ref c))) → sp vs H Q E →
      ∃ t, PSs (cxOf CX0 P w K mg base N qual (defScope st) f (.ref c) A outer s H E) (defBody st) t ∧ t { nx := fun _ H' => Q .non H', rt := Q } (start N vs) H) :
    FnG P w K mg base (k + 1) f (PySem.W.fnOf x qual (defArgs st) (defBody st) (defScope st) .none kV doc pm an (.ref c) ct) ps sp := by
  refine ⟨len, fun A outer s H us vs Q E hG hr e0 hb r hsp => ?_⟩
  have KX : K.In s.heap := e0.mod.kin.keeps fun b o e => (e0.bs b o e).1
  have lim : s.heap.NoLimit := e0.mod.nolimit.keeps fun b o e => (e0.bs b o e).1
  have kinds : ∀ y ∈ ps.zip us, (defScope st).names.lookup y.1 = some .local ∨ ((defScope st).names.lookup y.1 = some .cell ∧ ((cellsFrom (s.heap.objs.size + 1) (defScope st).names []).lookup y.1).isSome = true) := fun ⟨n, v⟩ hy =>
    (S.par n (List.of_mem_zip hy).1).elim .inl fun q => .inr ⟨q, PySem.W.cellsFrom_some _ _ _ (.inl q)⟩
  refine codeAny_call_function hr.depth (KX _ _ lk) rfl S.co S.gen rfl (PySem.W.codeRec_of KX hcd) (hb _ _ _ _ (wpAny_newFunctionEnv_cells S.kind kinds fun env he s1 x => ?_))
  subst he
  obtain ⟨t, ht, hq⟩ := body A outer s H vs Q E hG (hr.deeper _) hsp
  have I := inv_start (CX := CX0) (w := w) (E := E) S hr.hd e0 (len _ _ _ _ hsp) r x
  refine ⟨lim.keeps x.toInCall.keep, codeAny_func (wpAny_mono (ht.run [] s1 _ H _ I hq) (fun fl s' hs => ?_) fun _ _ z => z)⟩
  match fl, hs with
  | .ret u, ⟨v, σ', H', J, rv, q⟩ => exact ⟨v, H', J.os, J.bare, J.base, J.hok, rv, q⟩
  | .next, ⟨σ', H', J, q⟩ => exact ⟨.non, H', J.os, J.bare, J.base, J.hok, rfl, q⟩
  | .brk, ⟨_, _, _, q⟩ => exact q.elim
  | .cont, ⟨_, _, _, q⟩ => exact q.elim
end
theorem callGT {P : Program} {w : World} {K : PySem.W.Frag} {mg mb : Str → Option Value} {k : Nat} {fa a c T : Addr} {fd : FuncData} {x : Str} {sp : Sp} {s₁ : Shared} {vs : List Value} {ns : List Int}
    (KX : K.In s₁.heap) (hns : s₁.heap.Ns mainGlobals mg) (hb : s₁.heap.Ns builtinsNs mb) (hbb : ∀ x : Str, x ≠ "__name__" → mb x = bootBuiltins x) (hlim : s₁.heap.NoLimit) (hg : s₁.gens = #[])
    (hT : s₁.heap.get? T = some { cls := .none, data := .fields #[] }) (nT : K.lookup T = none) (C : PySem.W.CodeHd s₁.heap c T)
    (hbm : ∃ (bm : Addr) (ob : Obj), mg "__builtins__" = some (.ref bm) ∧ bm ≠ builtinsNs ∧ s₁.heap.get? bm = some ob ∧ ob.cls = .type "module" ∧ ob.dict = some builtinsNs ∧ ob.data = .plain)
    (ha : s₁.heap.get? a = some { cls := .type "list", data := .seq vs.toArray }) (hi : IntsAre vs ns) (hl : ns.length ≤ sizeLine) (hr : Room k callerA)
    (F : ∀ base : Heap, K.In base → base.Ns mainGlobals mg → TabB base mg c T → FnG P w K mg base k fa fd [x] sp) (hbind : ∀ (s : Shared) (u : Value), BindsTo s fd ⟨[u], []⟩ [(x, u)])
    (hsp : ∀ H : Hp, H T = some (.tbl #[]) → SqL K H a (ns.map V.int) → sp [.ref a] H (fun v _ => v = .bl true) fun _ _ _ => False) :
    codeAny (model P w) callerA (.call (.ref fa) ⟨[.ref a], []⟩) (fun r s' => r = .ok (.ret (.bool true)) ∧ OldK s₁.heap s'.heap ∧ s'.os = s₁.os ∧ AllBare s'.gens) s₁ := by
  have rv := vals_ints hi
  let z : HO := .frz { cls := .type "list", data := .seq vs.toArray } (.lst (ns.map V.int))
  have aT : a ≠ T := fun e => by
    rw [e, hT] at ha
    cases ha
  let H : Hp := fun b => if b = T then some (.tbl #[]) else if b = a ∧ K.lookup a = none then some z else none
  have atT : H T = some (.tbl #[]) := if_pos rfl
  have at_ : ∀ b u, H b = some u → (b = T ∧ u = .tbl #[]) ∨ (b = a ∧ K.lookup a = none ∧ u = z) := fun b u e => by
    have e : (if b = T then some (HO.tbl #[]) else if b = a ∧ K.lookup a = none then some z else none) = some u := e
    by_cases h1 : b = T
    · rw [if_pos h1] at e
      exact .inl ⟨h1, (Option.some.inj e).symm⟩
    · rw [if_neg h1] at e
      by_cases q : b = a ∧ K.lookup a = none
      · rw [if_pos q] at e
        exact .inr ⟨q.1, q.2, (Option.some.inj e).symm⟩
      · rw [if_neg q] at e
        cases e
  have hok : HOk P w H s₁.heap := fun b u e => by
    rcases at_ b u e with ⟨rfl, rfl⟩ | ⟨rfl, _, rfl⟩
    · exact hT
    · exact ⟨ha, by rw [List.length_map]; exact hl, vs, _, rv, ha⟩
  have hS : SqL K H a (ns.map V.int) := by
    cases hk : K.lookup a with
    | none => exact .inl (.inr ⟨_, (if_neg aT).trans (if_pos ⟨rfl, hk⟩)⟩)
    | some o =>
      have e := KX a o hk
      rw [ha] at e
      cases e
      exact .inr ⟨_, vs.toArray, _, hk, rfl, rfl, rfl, by rw [List.size_toArray, hi.length]; exact hl, by simpa using rv⟩
  have free : ∀ {b : Addr} {o : Obj}, s₁.heap.get? b = some o → (∀ vs n, o.data ≠ .seq vs n) → o.data ≠ .fields #[] → H b = none := fun {b o} e d d2 => by
    cases q : H b with
    | none => rfl
    | some u =>
      rcases at_ b u q with ⟨rfl, _⟩ | ⟨rfl, _, _⟩
      · rw [hT] at e
        cases e
        exact absurd rfl d2
      · rw [ha] at e
        cases e
        exact absurd rfl (d _ _)
  have dicts : ∀ {b : Addr} {m : Str → Option Value}, s₁.heap.Ns b m → (hidT s₁.heap H).Ns b m := fun {b m} ⟨o, es, ep, e, d, r⟩ => ⟨o, es, ep, hidT_get e (free e (fun vs n q => by rw [d] at q; cases q) fun q => by rw [d] at q; cases q), d, r⟩
  have kin : K.In (hidT s₁.heap H) := fun b o e => hidT_get (KX b o e) (by
    cases q : H b with
    | none => rfl
    | some u =>
      rcases at_ b u q with ⟨rfl, _⟩ | ⟨rfl, n, _⟩
      · rw [nT] at e
        cases e
      · rw [n] at e
        cases e)
  have M : Mod K mg (hidT s₁.heap H) := ⟨kin, dicts hns, ⟨mb, dicts hb, hbb⟩, let ⟨mc, h1, h2⟩ := hlim; ⟨mc, dicts h1, h2⟩⟩
  have e0 : Env0 P w K mg (hidT s₁.heap H) callerA [] s₁ H := ⟨rfl, M, fun b o e => of_hidT e, Nat.le_of_eq (hidT_size _ _), trivial, fun b hb => absurd (show b ∈ ([] : List Addr) from hb) (by simp), hok, AllBare.of_eq hg⟩
  have TB : TabB (hidT s₁.heap H) mg c T := by
    refine ⟨?_, ?_, fun e => ?_⟩
    · obtain ⟨o, us, file, tf, flags, tg, inF, text, tt, e1, r1, r2, r3, r4, r5, r6, r7, r8, hne⟩ := C
      refine ⟨o, us, file, tf, flags, tg, inF, text, tt, hidT_get e1 (free e1 (fun vs n q => ?_) fun q => ?_), r1, r2, r3, r4, r5, r6, r7, r8, hne⟩
      · rw [r2] at q
        cases q
      · rw [r2] at q
        cases q
        simp at r3
    · obtain ⟨bm, ob, b1, b2, b3, b4, b5, b6⟩ := hbm
      have n1 : bm ≠ mainGlobals := fun q => by
        obtain ⟨o, es, ep, e, d, _⟩ := hns
        rw [q, e] at b3
        cases b3
        rw [d] at b6
        cases b6
      have n2 : bm ≠ T := fun q => by
        rw [q, hT] at b3
        cases b3
        cases b6
      exact ⟨bm, ob, b1, b2, n1, n2, hidT_get b3 (free b3 (fun vs n q => by rw [b6] at q; cases q) fun q => by rw [b6] at q; cases q), b4, b5, b6⟩
    · obtain ⟨o, es, ep, e2, d, _⟩ := hns
      rw [e, hT] at e2
      cases e2
      cases d
  refine codeAny_mono ((F _ kin (dicts hns) TB).go callerA [] s₁ H [.ref a] [.ref a] _ _ rfl hr e0 (hbind s₁ (.ref a)) (.cons rfl .nil) (hsp H atT hS)) fun r s' h => ?_
  match r, h with
  | .error e, h => exact (show False from h).elim
  | .ok .next, h => exact (show False from h).elim
  | .ok .brk, h => exact (show False from h).elim
  | .ok .cont, h => exact (show False from h).elim
  | .ok (.ret u), ⟨v, H', os, bare, un, hok', r', q⟩ =>
    have q : v = .bl true := q
    subst q
    obtain rfl : u = Value.bool true := r'
    obtain ⟨more, grown⟩ := un.tbls T #[] atT
    have tabNow : s'.heap.get? T = some { cls := .none, data := .fields (#[] ++ more) } := hok' T _ grown
    have key : ∀ b o, b ≠ T → s₁.heap.get? b = some o → s'.heap.get? b = some o := fun b o nb e => by
      cases q : H b with
      | none => exact un.keep b o e q (fun z => absurd (show b ∈ ([] : List Addr) from z) (by simp)) (by simp)
      | some u =>
        rcases at_ b u q with ⟨e', _⟩ | ⟨rfl, _, rfl⟩
        · exact absurd e' nb
        · obtain ⟨e2, _⟩ := hok' b _ (un.frzs b _ _ q)
          rw [ha] at e
          cases e
          exact e2
    refine ⟨rfl, ⟨fun b o e => ?_, fun b o e => ?_⟩, os, bare⟩
    · by_cases hb : b = T
      · rw [hb] at e ⊢
        rw [hT] at e
        cases e
        exact .inr (.inl ⟨(C.tab hT).isCodeTable, rfl, #[], more, rfl, tabNow⟩)
      · exact .inl (key b o hb e)
    · by_cases hb : b = T
      · rw [hb]
        exact ⟨_, tabNow⟩
      · exact ⟨o, key b o hb e⟩
end Ob
end
section
set_option linter.all false
set_option maxRecDepth 100000
set_option maxHeartbeats 4000000
/-! slots that a comprehension's names are taken from -/
namespace Ob
open PySem PySem.Spec PyProof.Rows L2
theorem wipe_get (σ : L2.St) (j : Nat) : ∀ vs : List Nat, (wipe σ vs)[j]? = if j ∈ vs then (σ[j]?).map (fun _ => none) else σ[j]?
  | [] => by simp [wipe]
  | v :: vs => by
    unfold wipe
    rw [List.getElem?_set, wipe_get σ j vs, wipe_length]
    by_cases h : v = j
    · subst h
      rw [if_pos rfl, if_pos List.mem_cons_self]
      by_cases hl : v < σ.length
      · rw [if_pos hl, List.getElem?_eq_getElem hl]
        rfl
      · rw [if_neg hl, List.getElem?_eq_none (by omega)]
        rfl
    · rw [if_neg h]
      by_cases hm : j ∈ vs
      · rw [if_pos hm, if_pos (List.mem_cons_of_mem _ hm)]
      · rw [if_neg hm, if_neg fun z => by rcases List.mem_cons.mp z with z | z; exact h z.symm; exact hm z]
theorem wipe_put {σ : L2.St} {i : Nat} {y : Option V} {vs : List Nat} (h : i ∈ vs) : wipe (σ.set i y) vs = wipe σ vs := by
  refine List.ext_getElem? fun j => ?_
  rw [wipe_get, wipe_get, List.getElem?_set]
  by_cases e : i = j
  · subst e
    rw [if_pos h, if_pos rfl, if_pos h]
    by_cases hl : i < σ.length
    · rw [if_pos hl, List.getElem?_eq_getElem hl]
      rfl
    · rw [if_neg hl, List.getElem?_eq_none (by omega)]
  · rw [if_neg e]
theorem wipe_wipe {σ : L2.St} {vs : List Nat} : wipe (wipe σ vs) vs = wipe σ vs := by
  refine List.ext_getElem? fun j => ?_
  rw [wipe_get, wipe_get]
  split
  · cases σ[j]? <;> rfl
  · rfl
/-- one name, two names given in a turn -/
theorem wipe_1 {σ : L2.St} {i : Nat} {y : Option V} {vs : List Nat} (h : i ∈ vs := by decide) : wipe ((wipe σ vs).set i y) vs = wipe σ vs := (wipe_put h).trans wipe_wipe
theorem wipe_2 {σ : L2.St} {i j : Nat} {y z : Option V} {vs : List Nat} (h : i ∈ vs := by decide) (h2 : j ∈ vs := by decide) : wipe (((wipe σ vs).set i y).set j z) vs = wipe σ vs := (wipe_put h2).trans ((wipe_put h).trans wipe_wipe)
variable {σ : L2.St} {i j : Nat} {v x : V} {y : Option V} {vs : List Nat}
theorem Sl.out (h : Sl σ j v) (ne : j ∉ vs := by decide) : Sl (wipe σ vs) j v := by
  show (wipe σ vs)[j]? = _
  rw [wipe_get, if_neg ne]
  exact h
theorem Sl.isHere (hl : i < σ.length) : Sl (σ.set i (some x)) i x := Sl.here hl
theorem wipe_len {n : Nat} (h : σ.length = n) : (wipe σ vs).length = n := (wipe_length _ _).trans h
theorem set_len {n : Nat} (h : σ.length = n) : (σ.set i y).length = n := (List.length_set ..).trans h
end Ob
end
section
set_option linter.all false
set_option maxRecDepth 100000
set_option maxHeartbeats 8000000
/-! what every law's own text leans on -/
namespace K
open PySem PySem.Spec PyProof.Rows L2 LamX Ob
def forBody : Stmt → List Stmt
  | .For _ _ b _ _ => b
  | _ => []
def ifBody : Stmt → List Stmt
  | .If _ b _ _ => b
  | _ => []
def listOf : Stmt → List Expr
  | .For _ (.List es _) _ _ _ => es
  | _ => []
/-- a lambda, by itself or first in a tuple -/
def lamOf : Expr → Arguments × Expr × Scope
  | .Lambda ps b sc _ => (ps, b, sc)
  | .Tuple (.Lambda ps b sc _ :: _) _ _ => (ps, b, sc)
  | _ => (⟨[], [], none, [], [], none, []⟩, .Constant .none 0 ⟨0, 0, 0, 0⟩, defScope sLCaught)
def noStmt : Stmt := .Pass ⟨0, 0, 0, 0⟩
def noExpr : Expr := .Constant .none 0 ⟨0, 0, 0, 0⟩
/-! ### what stays when only the draws change -/
section
variable {C : Addr} {T : List (Addr × Str)} {d l c r : Addr} {p : Int} {n : Nat} {ns : List Int} {H H' : Hp}
theorem not_draw {o : HO} {b : Addr} (D : DrawAt H d l c) (h : H b = some o) (n1 : ∀ xs, o ≠ .dK xs) (n2 : ∀ xs, o ≠ .lst xs) : b ≠ d ∧ b ≠ l := by
  obtain ⟨rest, turn, _, hd⟩ := D.ex
  obtain ⟨ms, _, _, hl⟩ := D.large
  refine ⟨fun e => ?_, fun e => ?_⟩
  · rw [e, hd] at h
    exact n1 _ (Option.some.inj h).symm
  · rw [e, hl] at h
    exact n2 _ (Option.some.inj h).symm
theorem not_d {xs : List V} {b : Addr} (D : DrawAt H d l c) (h : H b = some (.lst xs)) : b ≠ d := fun e => by
  obtain ⟨rest, turn, _, hd⟩ := D.ex
  rw [e, hd] at h
  cases h
theorem rule_kept (D : DrawAt H d l c) (k : Kept H H' d l) (h : RuleAt C H r p n ns) : RuleAt C H' r p n ns := by
  obtain ⟨dx, t, h1, h2⟩ := h.ex
  obtain ⟨a1, a2⟩ := not_draw D h1 (fun _ z => by cases z) (fun _ z => by cases z)
  obtain ⟨b1, b2⟩ := not_draw D h2 (fun _ z => by cases z) (fun _ z => by cases z)
  exact ⟨dx, t, k _ _ h1 a1 a2, k _ _ h2 b1 b2⟩
theorem tup_kept {xs : List V} {b : Addr} (D : DrawAt H d l c) (k : Kept H H' d l) (h : H b = some (.tup xs)) : H' b = some (.tup xs) := by
  obtain ⟨a1, a2⟩ := not_draw D h (fun _ z => by cases z) (fun _ z => by cases z)
  exact k _ _ h a1 a2
theorem lst_kept {xs : List V} {b : Addr} (D : DrawAt H d l c) (k : Kept H H' d l) (h : H b = some (.lst xs)) (nl : b ≠ l) : H' b = some (.lst xs) := k _ _ h (not_d D h) nl
theorem lam_kept {g c' : Addr} {q : Str} {ps : Arguments} {b : Expr} {sc : Scope} {cl : List (Str × Addr)} (D : DrawAt H d l c) (k : Kept H H' d l) (h : H g = some (LamO g q ps b sc cl c')) : H' g = some (LamO g q ps b sc cl c') := by
  obtain ⟨a1, a2⟩ := not_draw D h (fun _ z => by unfold LamO at z; cases z) (fun _ z => by unfold LamO at z; cases z)
  exact k _ _ h a1 a2
theorem code_kept {c' : Addr} {q : Str} (D : DrawAt H d l c) (k : Kept H H' d l) (h : H c' = some (CodeO c' q)) : H' c' = some (CodeO c' q) := by
  obtain ⟨a1, a2⟩ := not_draw D h (fun _ z => by unfold CodeO at z; cases z) (fun _ z => by unfold CodeO at z; cases z)
  exact k _ _ h a1 a2
theorem tabs_kept (D : DrawAt H d l c) (k : Kept H H' d l) (h : Tabs T H) : Tabs T H' := fun q hq => by
  obtain ⟨ps, h1, h2, h3⟩ := h q hq
  obtain ⟨a1, a2⟩ := not_draw D h1 (fun _ z => by cases z) (fun _ z => by cases z)
  refine ⟨ps, k _ _ h1 a1 a2, h2, fun pos cv hc => ?_⟩
  obtain ⟨c0, e1, e2⟩ := h3 pos cv hc
  exact ⟨c0, e1, code_kept D k e2⟩
theorem tabs_same (h : Tabs T H) (s : ∀ b o, H b = some o → H' b = some o) : Tabs T H' := fun p hp => (h p hp).ext s
theorem extN_same {H H' : Hp} (h : ∀ b o, H b = some o → H' b = some o) : ExtN H H' := fun b o e _ => h b o e
theorem draw_ext (D : DrawAt H d l c) (e : ExtN H H') : DrawAt H' d l c := by
  obtain ⟨⟨r1, t1, h0, h1⟩, ⟨ms, m1, m2, m3⟩, ⟨cn, c1, c2, c3⟩, ne⟩ := D
  exact ⟨⟨r1, t1, h0, e _ _ h1 (fun _ z => by cases z)⟩, ⟨ms, m1, m2, e _ _ m3 (fun _ z => by cases z)⟩, ⟨cn, c1, c2, e _ _ c3 (fun _ z => by cases z)⟩, ne⟩
theorem rule_ext (h : RuleAt C H r p n ns) (e : ExtN H H') : RuleAt C H' r p n ns := by
  obtain ⟨dx, tt, k1, k2⟩ := h.ex
  exact ⟨dx, tt, e _ _ k1 (fun _ z => by cases z), e _ _ k2 (fun _ z => by cases z)⟩
theorem lst_ext {xs : List V} {b : Addr} (h : H b = some (.lst xs)) (e : ExtN H H') : H' b = some (.lst xs) := e _ _ h fun _ z => by cases z
theorem tup_ext {xs : List V} {b : Addr} (h : H b = some (.tup xs)) (e : ExtN H H') : H' b = some (.tup xs) := e _ _ h fun _ z => by cases z
theorem lam_ext {g c' : Addr} {q : Str} {ps : Arguments} {b : Expr} {sc : Scope} {cl : List (Str × Addr)} (h : H g = some (LamO g q ps b sc cl c')) (e : ExtN H H') : H' g = some (LamO g q ps b sc cl c') := e _ _ h fun _ z => by unfold LamO at z; cases z
theorem code_ext {c' : Addr} {q : Str} (h : H c' = some (CodeO c' q)) (e : ExtN H H') : H' c' = some (CodeO c' q) := e _ _ h fun _ z => by unfold CodeO at z; cases z
end
theorem neR_false {C q2 q3 : Addr} {H : Hp} {p : Int} {n : Nat} {ms : List Int} {Q : VK} (h2 : RuleAt C H q2 p n ms) (h3 : RuleAt C H q3 p n ms) (k : Q (.bl false) H) : rNeR C (spREq C) (.ref q2) (.ref q3) H Q := by
  obtain ⟨dx, t, a1, a2⟩ := id h2.ex
  obtain ⟨dy, u, b1, b2⟩ := id h3.ex
  refine ⟨q2, q3, dx, dy, _, _, rfl, rfl, a1, b1, q2, q3, p, p, n, n, ms, ms, rfl, h2, h3, true, ?_, k⟩
  rw [decide_eq_true (rfl : p = p), decide_eq_true (rfl : ms = ms)]
  rfl
theorem prime_range {p : Int} (h : primeB p = true) : 3 ≤ p ∧ p ≤ 97 := by
  unfold primeB within at h
  simp only [Bool.and_eq_true, decide_eq_true_eq, Option.any_some] at h
  exact ⟨h.1.1, h.1.2⟩
/-! ### statements one by one -/
def tTriP {ι : Type} (n : Nat) (A B : ι → L2.St → Hp → Prop) : TS := fun D σ H => ∃ i, (σ.length = n → A i σ H) ∧ ∀ σ' H', B i σ' H' → D.nx σ' H'
theorem triP {X : Cx} {ss : List Stmt} {ι : Type} {n : Nat} {A B : ι → L2.St → Hp → Prop} (hn : X.N.length = n) (h : ∀ i, PSs X ss (tTri (A i) (B i))) : PSs X ss (tTriP n A B) :=
  ⟨fun pins s σ H D I ⟨i, a, b⟩ => (h i).run pins s σ H D I ⟨a (hn ▸ I.len), b⟩⟩
theorem triE {X : Cx} {st : Stmt} {ι : Type} {A B : ι → L2.St → Hp → Prop} (h : ∀ i, PS X st (tTri (A i) (B i))) : PS X st (tTri (fun σ H => ∃ i, A i σ H) (fun σ H => ∃ i, B i σ H)) :=
  ⟨fun pins s σ H D I ⟨⟨i, a⟩, b⟩ => (h i).run pins s σ H D I ⟨a, fun σ' H' z => b σ' H' ⟨i, z⟩⟩⟩
theorem triA {X : Cx} {st : Stmt} {ι : Type} {A : ι → L2.St → Hp → Prop} {B : L2.St → Hp → Prop} (h : ∀ i, PS X st (tTri (A i) B)) : PS X st (tTri (fun σ H => ∃ i, A i σ H) B) :=
  ⟨fun pins s σ H D I ⟨⟨i, a⟩, b⟩ => (h i).run pins s σ H D I ⟨a, b⟩⟩
theorem triAs {X : Cx} {ss : List Stmt} {ι : Type} {A : ι → L2.St → Hp → Prop} {B : L2.St → Hp → Prop} (h : ∀ i, PSs X ss (tTri (A i) B)) : PSs X ss (tTri (fun σ H => ∃ i, A i σ H) B) :=
  ⟨fun pins s σ H D I ⟨⟨i, a⟩, b⟩ => (h i).run pins s σ H D I ⟨a, b⟩⟩
theorem tri_mono {X : Cx} {st : Stmt} {A A' B B' : L2.St → Hp → Prop} (h : PS X st (tTri A B)) (ha : ∀ σ H, A' σ H → A σ H) (hb : ∀ σ H, B σ H → B' σ H) : PS X st (tTri A' B') :=
  ⟨fun pins s σ H D I ⟨a, b⟩ => h.run pins s σ H D I ⟨ha _ _ a, fun σ' H' z => b σ' H' (hb _ _ z)⟩⟩
theorem tri_monos {X : Cx} {ss : List Stmt} {A A' B B' : L2.St → Hp → Prop} (h : PSs X ss (tTri A B)) (ha : ∀ σ H, A' σ H → A σ H) (hb : ∀ σ H, B σ H → B' σ H) : PSs X ss (tTri A' B') :=
  ⟨fun pins s σ H D I ⟨a, b⟩ => h.run pins s σ H D I ⟨ha _ _ a, fun σ' H' z => b σ' H' (hb _ _ z)⟩⟩
/-! ### a def of the text, bundled -/
def Df (P : Program) (w : World) (K : PySem.W.Frag) (mg : Str → Option Value) (base : Heap) (CX : CXT) (k : Nat) (x : Str) (ps : List Str) (sp : Sp) : Prop := ∃ f fd, FnOk P w K mg base CX k f fd ps sp ∧ Binds K fd ps [] ∧ mg x = some (.ref f) ∧ PySem.W.keepIn K (.ref f) = true
def DfK (P : Program) (w : World) (K : PySem.W.Frag) (mg : Str → Option Value) (base : Heap) (CX : CXT) (k : Nat) (x : Str) (ps : List Str) (sp : Sp) : Prop := ∃ f fd, FnOk P w K mg base CX k f fd ps sp ∧ Binds K fd ps [] ∧ mg x = some (.ref f) ∧ PySem.W.keepIn K (.ref f) = true ∧ KwBinds fd ps
def DfG (P : Program) (w : World) (K : PySem.W.Frag) (mg : Str → Option Value) (base : Heap) (k : Nat) (x : Str) (ps : List Str) (sp : Sp) : Prop := ∃ f fd, FnG P w K mg base k f fd ps sp ∧ Binds K fd ps [] ∧ mg x = some (.ref f) ∧ PySem.W.keepIn K (.ref f) = true
theorem DfK.df {P : Program} {w : World} {K : PySem.W.Frag} {mg : Str → Option Value} {base : Heap} {CX : CXT} {k : Nat} {x : Str} {ps : List Str} {sp : Sp} (D : DfK P w K mg base CX k x ps sp) : Df P w K mg base CX k x ps sp := let ⟨f, fd, a, b, c, d, _⟩ := D; ⟨f, fd, a, b, c, d⟩
section
variable {X : Cx} {CX : CXT} {k j : Nat} {x : Str} {ps : List Str} {sp : Sp} {E : XK}
theorem pe_df {e : Expr} {es : List Expr} {t : TA} {p pos : Pos} (D : Df X.prog X.w X.K X.mg X.base CX k x ps sp) (hr : Room j X.A) (hj : k ≤ j) (hg : Gl X x) (hx : Passes CX X E) (ha : PA X (e :: es) t) (hdb : (x == ("__debug__" : Str)) = false := by decide)
    (he : starEach (e :: es) X.env = (false, eval e X.env) :: starEach es X.env := by rfl) (hpl : (backTo pos (starEach es X.env)).any (·.1) = false := by rfl) : PE X (.Call (.Name x p) (e :: es) [] pos) (tCall sp [] E t) := by
  obtain ⟨f, fd, F, b, g, kp⟩ := D
  exact pe_call F (hr.mono hj) hg g kp b .nil hx ha hdb he hpl
theorem pe_dfk {kws : List Keyword} {tk : TA} {p pos : Pos} (D : DfK X.prog X.w X.K X.mg X.base CX k x ps sp) (hr : Room j X.A) (hj : k ≤ j) (hg : Gl X x) (hx : Passes CX X E) (hkw : PK X kws tk) (hall : (backToKw pos (keywordEach kws X.env)).all (·.1.isSome) = true := by rfl)
    (hks : (backToKw pos (keywordEach kws X.env)).filterMap (·.1) = ps.reverse := by rfl) (hdb : (x == ("__debug__" : Str)) = false := by decide) (hpl : ((backTo pos (starEach [] X.env)).any (·.1) || (backToKw pos (keywordEach kws X.env)).any (·.1.isNone)) = false := by rfl) :
    PE X (.Call (.Name x p) [] kws pos) (tCallKw sp E tk) := by
  obtain ⟨f, fd, F, b, g, kp, w⟩ := D
  exact pe_kw F (hr.mono hj) hg g kp w hx hkw hall hks hdb hpl
theorem pe_dfg {e : Expr} {es : List Expr} {t : TA} {p pos : Pos} (hG : X.A.guards = some []) (D : DfG X.prog X.w X.K X.mg X.base k x ps sp) (hr : Room j X.A) (hj : k ≤ j) (hg : Gl X x) (ha : PA X (e :: es) t) (hdb : (x == ("__debug__" : Str)) = false := by decide)
    (he : starEach (e :: es) X.env = (false, eval e X.env) :: starEach es X.env := by rfl) (hpl : (backTo pos (starEach es X.env)).any (·.1) = false := by rfl) : PE X (.Call (.Name x p) (e :: es) [] pos) (tCall sp [] E0 t) := by
  obtain ⟨f, fd, F, b, g, kp⟩ := D
  exact pe_callG hG F (hr.mono hj) hg g kp b ha hdb he hpl
/-- C(e, ..) of a Rule -/
theorem pe_rule {C fI : Addr} {fdI : FuncData} {e : Expr} {es : List Expr} {t : TA} {p pos : Pos} (MR : MkRule X.prog X.w X.K X.mg X.base C fI fdI) (hr : Room j X.A) (hj : 7 ≤ j) (hg : Gl X "Rule") (ha : PA X (e :: es) t)
    (he : starEach (e :: es) X.env = (false, eval e X.env) :: starEach es X.env := by rfl) (hpl : (backTo pos (starEach es X.env)).any (·.1) = false := by rfl) : PE X (.Call (.Name "Rule" p) (e :: es) [] pos) (tMake C (spRInit X.K C) [] E0 t) :=
  pe_make MR.M MR.G (hr.mono hj) hg MR.T.g MR.b .nil pass0 ha (he := he) (hpl := hpl)
end
/-! ### refusals that are caught -/
/-- what is known of an error class below the package's base CB -/
structure ErrC (K : PySem.W.Frag) (CB C : Addr) (part : Str) : Prop where
  exm : PySem.W.exmOne K (.ref C) (.ref CB) = some true
  xf : XfC K C
  xno : PySem.W.findIn K (.ref C) part = some none
  xc : ExcC K C
structure CaughtD (K : PySem.W.Frag) (mg : Str → Option Value) (CB : Addr) : Prop where
  fn : ∃ f fd, Fun K "_law_caught" "_law_caught" sLCaught f fd ∧ Binds K fd ["work"] [] ∧ mg "_law_caught" = some (.ref f)
  base_ : mg "BasisError" = some (.ref CB)
theorem pe_caught {X : Cx} {CB : Addr} {k j : Nat} {ds : List LamD} {e : Expr} {te : TE} {p pos : Pos} (CD : CaughtD X.K X.mg CB) (hr : Room j X.A) (hj : k + 2 ≤ j) (hL : ∀ d ∈ ds, LamT X k d) (hg : Gl X "_law_caught") (he : PE X e te) (hs : starEach [e] X.env = (false, eval e X.env) :: starEach [] X.env := by rfl) :
    PE X (.Call (.Name "_law_caught" p) [e] [] pos) (fun σ H Q => te σ H fun v H1 => ∃ f c' d, v = .ref f ∧ d ∈ ds ∧ Held X d f c' H1 ∧ TTc X.K CB (fun E H' Q' => d.t E σ H' Q') H1 Q) := by
  obtain ⟨fC, dC, FC, bC, gC⟩ := CD.fn
  obtain ⟨oc, od, kV, doc, pm, an, cdv, ct, osl, rfl, lk, hcd⟩ := FC.ex
  exact pe_lamarg (x := "_law_caught") (a := "work") (k := k) (ds := ds) (Ng := ["work", "caught", "error"]) hg gC FC.kp lk hcd bC ⟨rfl, rfl, rfl, by decide +kernel, rfl, by decide +kernel, by decide +kernel⟩ rfl (Or.inl rfl)
    (caught_gives ⟨rfl, rfl, rfl, by decide +kernel, rfl, by decide +kernel, by decide +kernel⟩ (Or.inl rfl) rfl rfl rfl CD.base_ (by decide) (by decide) (by decide) (by decide) (by decide)) (hr.mono hj) hL he hs
/-- what a refusal leaves: an error of the class C with this field -/
def CaughtAt (i : Nat) (C : Addr) (part : Str) (y : V) (σ : L2.St) (H : Hp) : Prop := ∃ a dd, Sl σ i (.ref a) ∧ CgtAt H a C dd [(part, y)]
/-- caught = _law_caught(e), where e raises -/
theorem st_caught {X : Cx} {CB C : Addr} {ic k j : Nat} {ds : List LamD} {e : Expr} {te : TE} {p0 p1 p3 p4 : Pos} {part : Str} {y : V} {G : L2.St → Hp → Prop} (CD : CaughtD X.K X.mg CB) (EC : PySem.W.exmOne X.K (.ref C) (.ref CB) = some true) (hr : Room j X.A) (hj : k + 2 ≤ j) (hL : ∀ d ∈ ds, LamT X k d) (hg : Gl X "_law_caught")
    (hN : X.N.Nodup) (hi : X.N[ic]? = some ("caught" : Str)) (hy : Loc X.env.scope ("caught" : Str)) (hf : X.fn ("caught" : Str) = true ∨ X.env.scope.names.lookup ("caught" : Str) = some .local) (he : PE X e te) (hs : starEach [e] X.env = (false, eval e X.env) :: starEach [] X.env)
    (hte : ∀ σ H (Q : VK), σ.length = X.N.length → G σ H → (∀ f c' d H1, G σ H1 → d ∈ ds → Held X d f c' H1 → (∀ (E' : XK) (Q' : VK), (∀ H2, G σ H2 → Raised C part y H2 E') → d.t E' σ H1 Q') → Q (.ref f) H1) → te σ H Q)
    (hg2 : ∀ σ H H2, G σ H → (∀ b o, H b = some o → H2 b = some o) → G σ H2) (hv : ∀ σ H v, G σ H → G (σ.set ic v) H) :
    PS X (.Assign [.Name "caught" p0] (.Call (.Name "_law_caught" p1) [e] [] p3) p4) (tTri G (fun σ H => G σ H ∧ CaughtAt ic C part y σ H)) := by
  refine tri (ps_set (i := ic) hN hi hy (pe_caught CD hr hj hL hg he hs) (hf := hf)) fun D σ H hl hG go => ?_
  refine hte σ H _ hl hG fun f c' d H1 g1 hd held rd => ⟨f, c', d, rfl, hd, held, ?_⟩
  refine rd _ _ fun H2 g2 dd hdd => ⟨EC, fun a na => ?_⟩
  have s3 := new_same (o := .xd [(part, y)]) hdd
  have s4 := new_same (o := Cgt (.ref C) (some dd) a) na
  have hic : ic < σ.length := by
    rw [hl]
    exact (List.getElem?_eq_some_iff.mp hi).1
  exact go _ _ ⟨hv _ _ _ (hg2 _ _ _ g2 fun b o e => s4 b o (s3 b o e)), a, dd, Sl.here hic, upd_same, s4 _ _ upd_same⟩
end K
end
section
set_option linter.all false
set_option maxRecDepth 100000
set_option maxHeartbeats 8000000
namespace K
open PySem PySem.Spec PyProof.Rows L2 Ob
def maskF (many leg : Int) : Int := 1 * 2 ^ (many - 1 - leg).toNat
section
variable {P : Program} {w : World} {K : PySem.W.Frag} {mg : Str → Option Value} {base : Heap} {C CN CR fI : Addr} {fdI : FuncData}
def spLegMask : Sp := fun vs H Q _ => ∃ many leg : Int, vs = [.int many, .int leg] ∧ 0 ≤ many - 1 - leg ∧ many - 1 - leg ≤ 60 ∧ Q (.int (maskF many leg)) H
theorem scLegMask : FnScope ["many", "leg"] ["many", "leg"] (defScope sLegMask) := ⟨rfl, rfl, rfl, by decide +kernel, rfl, by decide +kernel, by decide +kernel⟩
theorem ok_leg_mask {f : Addr} {fd : FuncData} (F : Fun K "leg_mask" "leg_mask" sLegMask f fd) : FnOk P w K mg base CX0 1 f fd ["many", "leg"] spLegMask := by
  refine F.ok scLegMask (fun vs H Q E h => ?_) (fun cdv A outer s H vs Q E hr h => ?_)
  · obtain ⟨m, l, rfl, _⟩ := h
    rfl
  · obtain ⟨m, l, rfl, h0, h1, q⟩ := h
    exact ⟨_, pss_one (ps_ret (pe_op op_shl pe_int (pe_op op_sub (pe_op op_sub (pv 0) pe_int) (pv 1)))), _, rfl, _, _, rfl, rfl, _, rfl, _, _, rfl, rfl, 1, m - 1 - l, rfl, rfl, ⟨h0, by omega, by decide⟩, q⟩
end
end K
end
section
set_option linter.all false
set_option maxRecDepth 100000
set_option maxHeartbeats 8000000
namespace K
open PySem PySem.Spec PyProof.Rows L2 Ob
def stepF (m : Int) (out : List Int) : List Int := out.flatMap fun x => [x + 0, x + m]
def sumsF (masks : List Int) (base : Int) : List Int := masks.foldl (fun out m => stepF m out) [base]
theorem step_len (m : Int) : ∀ out : List Int, (stepF m out).length = 2 * out.length
  | [] => rfl
  | x :: out => by
    have ih := step_len m out
    unfold stepF at ih ⊢
    rw [List.flatMap_cons, List.length_append, ih]
    simp
    omega
theorem sums_len (masks : List Int) (base : Int) : (sumsF masks base).length = 2 ^ masks.length := by
  have key : ∀ (ms out : List Int), (ms.foldl (fun out m => stepF m out) out).length = 2 ^ ms.length * out.length := by
    intro ms
    induction ms with
    | nil =>
      intro out
      simp
    | cons m ms ih =>
      intro out
      rw [List.foldl_cons, ih, step_len, List.length_cons, Nat.pow_succ]
      rw [Nat.mul_assoc]
  unfold sumsF
  rw [key]
  simp
theorem sums_more {masks : List Int} {base m : Int} {i : Nat} (h : masks[i]? = some m) : sumsF (masks.take (i + 1)) base = stepF m (sumsF (masks.take i) base) := by
  rw [take_more h]
  unfold sumsF
  rw [List.foldl_append]
  rfl
theorem step_more {m x : Int} {out : List Int} {i : Nat} (h : out[i]? = some x) : stepF m (out.take (i + 1)) = stepF m (out.take i) ++ [x + 0, x + m] := by
  rw [take_more h]
  unfold stepF
  rw [List.flatMap_append]
  rfl
section
variable {P : Program} {w : World} {K : PySem.W.Frag} {mg : Str → Option Value} {base : Heap} {C CN CR fI : Addr} {fdI : FuncData}
def spSumsOf (K : PySem.W.Frag) : Sp := fun vs H Q _ => ∃ a masks b, vs = [.ref a, .int b] ∧ SqL K H a (masks.map V.int) ∧ masks.length ≤ 8 ∧ ∀ H' q, Same H H' → H' q = some (.lst ((sumsF masks b).map V.int)) → Q (.ref q) H'
theorem scSumsOf : FnScope ["masks", "base", "out", "mask", "number", "more"] ["masks", "base"] (defScope sSumsOf) := ⟨rfl, rfl, rfl, by decide +kernel, rfl, by decide +kernel, by decide +kernel⟩
theorem ok_sums_of {f : Addr} {fd : FuncData} (F : Fun K "sums_of" "sums_of" sSumsOf f fd) : FnOk P w K mg base CX0 1 f fd ["masks", "base"] (spSumsOf K) := by
  refine F.ok scSumsOf (fun vs H Q E h => ?_) (fun cdv A outer s H vs Q E hr h => ?_)
  · obtain ⟨a, ms, b, rfl, _⟩ := h
    rfl
  · obtain ⟨a, ms, b, rfl, hS, h8, k⟩ := h
    refine ⟨_, PSs.nox (pss_cons (ps_set (i := 2) scSumsOf.nd rfl (Or.inl rfl) (pe_lst (pa_cons (pv 1) pa_nil)))
      (pss_cons (ps_for PassesOwn.never rfl (pi_list (pv 0)) (pg_name (i := 3) scSumsOf.nd rfl (Or.inr rfl))
        (pss_one (ps_setLc2 (i := 2) (own := [("number", 4), ("more", 5)]) (vs1 := [5]) (g := gName 4) (g1 := gName 5) (tt := tYes) (tt1 := tYes) (wi1 := iTup K (tTup (tCons (tC (.int 0)) (tCons (tVar 3) tNil)))) rfl scSumsOf.nd rfl rfl (sw_true rfl rfl rfl (by decide +kernel)) (pi_list (pv 2))
          (blkOk_by (N := ["masks", "base", "out", "mask", "number", "more"]) (sc := defScope sSumsOf) (by decide +kernel)) (by decide) (fun _ _ _ _ _ => pg_name (i := 4) scSumsOf.nd rfl (Or.inl rfl)) (fun _ _ _ _ _ => pts_nil)
          (fun _ _ _ _ _ => by exact pi_tup (pe_tup (pa_cons pe_int (pa_cons (pv 3) pa_nil)))) (fun _ _ _ _ _ => pg_name (i := 5) scSumsOf.nd rfl (Or.inl rfl)) (fun _ _ _ _ _ => pts_nil) (fun _ _ _ _ _ => pe_op op_add (pv 4) (pv 5)))))
      (pss_one (ps_ret (pv 2))))), ?_⟩
    refine ⟨_, rfl, (show 1 ≤ sizeLine by rw [sizeLine_eq]; decide), fun p hp => ?_⟩
    refine ⟨_, rfl, a, rfl, ⟨_, Same.seq (new_same hp) hS⟩, for_list (K := K) (a := a) (xs := ms.map V.int) (fun i σ H' => ∃ (q : Addr) (v3 : Option V), σ = [some (.ref a), some (.int b), some (.ref q), v3, none, none] ∧ (∀ b o, H b = some o → H' b = some o) ∧ H' q = some (.lst ((sumsF (ms.take i) b).map V.int)))
      ⟨p, none, rfl, new_same hp, upd_same⟩ ?_ ?_ ?_⟩
    · rintro i σ H' _ ⟨q, v3, rfl, sm, hq⟩
      exact Same.seq sm hS
    · rintro i x σ H' hx ⟨q, v3, rfl, sm, hq⟩
      obtain ⟨m, rfl, hm⟩ := at_ints hx
      have hi : i < ms.length := (List.getElem?_eq_some_iff.mp hm).1
      have hl : (sumsF (ms.take i) b).length ≤ 256 := by
        rw [sums_len, List.length_take]
        exact Nat.le_trans (Nat.pow_le_pow_right (by decide) (show min i ms.length ≤ 8 by omega)) (by decide)
      obtain ⟨out, eo⟩ : ∃ out, sumsF (ms.take i) b = out := ⟨_, rfl⟩
      rw [eo] at hq hl
      refine ⟨_, rfl, q, rfl, ⟨_, SqL.of hq⟩, fun D hD => go_walk (walk_list (K := K) (a := q) (xs := out.map V.int)) (fun j H2 => (∀ b o, H' b = some o → H2 b = some o) ∧ H2 D = some (.lst ((stepF m (out.take j)).map V.int))) ⟨new_same hD, upd_same⟩ ?_ ?_ ?_⟩
      · rintro j H2 _ ⟨s2, _⟩
        exact SqL.of (s2 _ _ hq)
      · rintro j y H2 H3 hj ⟨s2, h2⟩ ⟨rfl, hy⟩
        obtain ⟨z, rfl, hz⟩ := at_ints hy
        rw [List.length_map] at hj
        refine ⟨rfl, ?_⟩
        unfold tYes
        dsimp only
        rw [if_pos rfl]
        refine ⟨_, rfl, (show 2 ≤ sizeLine by rw [sizeLine_eq]; decide), fun T hT => ⟨T, rfl, ⟨_, SqT.of upd_same⟩, go_walk (walk_tup (K := K) (a := T) (xs := [.int 0, .int m])) (fun l H4 => (∀ b o, H3 b = some o → b ≠ D → H4 b = some o) ∧ H4 T = some (.tup [.int 0, .int m]) ∧ T ≠ D ∧
          H4 D = some (.lst ((stepF m (out.take j) ++ [z + 0, z + m].take l).map V.int))) ⟨fun b o e _ => new_same hT b o e, upd_same, (fun e => by rw [e, h2] at hT; cases hT), (by rw [List.take_zero, List.append_nil]; exact new_same hT _ _ h2)⟩ ?_ ?_ ?_⟩⟩
        · rintro l H4 _ ⟨_, h4, _⟩
          exact SqT.of h4
        · rintro l u H4 H5 hl2 ⟨s4, h4, ne, h4D⟩ ⟨rfl, hu⟩
          have hl2 : l < 2 := hl2
          refine ⟨rfl, ?_⟩
          refine iteT ?_
          obtain ⟨w2, rfl, hw⟩ : ∃ w2 : Int, u = .int w2 ∧ [z + 0, z + m][l]? = some (z + w2) := by
            match l, hl2, hu with
            | 0, _, hu =>
              cases hu
              exact ⟨0, rfl, rfl⟩
            | 1, _, hu =>
              cases hu
              exact ⟨m, rfl, rfl⟩
          refine ⟨_, rfl, _, rfl, z, w2, rfl, rfl, _, h4D, ?_, ?_, ?_, ne, ?_⟩
          · rw [List.length_map, List.length_append, step_len, List.length_take, List.length_take, sizeLine_eq]
            have : out.length ≤ 256 := hl
            omega
          · intro b o e hb
            rw [upd_ne hb]
            exact s4 b o e hb
          · rw [upd_ne ne]
            exact h4
          · rw [upd_same, take_more hw, ← List.append_assoc, List.map_append (l₂ := [z + w2])]
            rfl
        · rintro H4 ⟨s4, _, _, h4D⟩
          refine ⟨fun b o e => ?_, ?_⟩
          · have ne : b ≠ D := fun z => by
              rw [z, hD] at e
              cases e
            exact s4 b o (s2 b o e) ne
          · rw [h4D, step_more hz]
            rfl
      · rintro H2 ⟨s2, h2⟩
        refine ⟨D, some (.int m), rfl, fun b o e => s2 b o (sm b o e), ?_⟩
        rw [h2, List.length_map, List.take_length, sums_more hm, eo]
    · rintro σ H' ⟨q, v3, rfl, sm, hq⟩
      rw [List.length_map, List.take_length] at hq
      exact ⟨_, rfl, k _ q sm hq⟩
end
end K
end
section
set_option linter.all false
set_option maxRecDepth 100000
set_option maxHeartbeats 8000000
namespace K
open PySem PySem.Spec PyProof.Rows L2 Ob
section
variable {P : Program} {w : World} {K : PySem.W.Frag} {mg : Str → Option Value} {base : Heap} {C CN CR fI : Addr} {fdI : FuncData}
def spWantLeg (K : PySem.W.Frag) (C CN : Addr) : Sp := fun vs H Q E => ∃ r x o part p n ns, vs = [.ref r, x, .str part] ∧ RuleAt C H r p n ns ∧ Thing K H x o ∧ part.length ≤ 100 ∧ ((within o 0 ((n : Int) - 1) = true ∧ Q .non H) ∨ (within o 0 ((n : Int) - 1) = false ∧ Raised CN "part" (.str part) H E))
theorem scWantLeg : FnScope ["rule", "leg", "part"] ["rule", "leg", "part"] (defScope sWantLeg) := ⟨rfl, rfl, rfl, by decide +kernel, rfl, by decide +kernel, by decide +kernel⟩
theorem ok_want_leg {f fR : Addr} {fd fdR : FuncData} (F : Fun K "want_leg" "want_leg" sWantLeg f fd) (T : RuleC K mg C) (TN : Err P K mg "BadNumber" CN "part") (FR : Fun K "is_from" "is_from" sIsFrom fR fdR)
    (GR : FnOk P w K mg base CX0 2 fR fdR ["thing", "least", "most"] (spIsFrom K)) (bR : Binds K fdR ["thing", "least", "most"] []) (gR : mg "is_from" = some (.ref fR)) : FnOk P w K mg base (L2.CX P w) 3 f fd ["rule", "leg", "part"] (spWantLeg K C CN) := by
  refine F.okX scWantLeg (fun vs H Q E h => ?_) (fun cdv A outer s H vs Q E hr h => ?_)
  · obtain ⟨r, x, o, part, p, n, ns, rfl, _⟩ := h
    rfl
  · obtain ⟨r, x, o, part, p, n, ns, rfl, hR, ht, hp, q⟩ := h
    obtain ⟨dx, t, h1, h2⟩ := id hR.ex
    refine ⟨_, pss_one (ps_if (pt_not (pt_val (pe_call GR hr rfl gR FR.kp bR .nil pass0 (pa_cons (pv 1) (pa_cons pe_int (pa_cons (pe_op op_sub (pe_fld (pv 0) rfl) pe_int) pa_nil))))))
      (pss_one (ps_raise rfl (takes_of rfl rfl rfl rfl) (pmk_err TN hr rfl (by exact pa_cons (pv 2) pa_nil)))) pss_nil), ?_⟩
    refine ⟨_, rfl, _, rfl, r, C, dx, _, _, rfl, h1, T.cl, T.nL, rfl, n, 1, rfl, rfl, x, o, 0, (n : Int) - 1, rfl, ht, _, rfl, ?_⟩
    rcases q with ⟨e, q⟩ | ⟨e, q⟩
    · rw [e]
      exact iteF q
    · rw [e]
      refine iteT ?_
      exact ⟨_, rfl, _, rfl, fun _ _ _ _ => fmt_str (by omega), fun d hd => q d hd⟩
end
end K
end
section
set_option linter.all false
set_option maxRecDepth 100000
set_option maxHeartbeats 8000000
namespace K
open PySem PySem.Spec PyProof.Rows L2 Ob
section
variable {P : Program} {w : World} {K : PySem.W.Frag} {mg : Str → Option Value} {base : Heap} {C CN fI : Addr} {fdI : FuncData}
def legsOk (many : Int) (legs : List Int) : Prop := legs.length ≤ 8 ∧ ∀ l ∈ legs, 0 ≤ many - 1 - l ∧ many - 1 - l ≤ 60
def idxF (many : Int) (legs : List Int) (b : Int) : List Int := sumsF (legs.map (maskF many)) b
def spLegSums (K : PySem.W.Frag) : Sp := fun vs H Q _ => ∃ many a legs b, vs = [.int many, .ref a, .int b] ∧ SqL K H a (legs.map V.int) ∧ legsOk many legs ∧ ∀ H' q, Same H H' → H' q = some (.lst ((idxF many legs b).map V.int)) → Q (.ref q) H'
theorem scLegSums : FnScope ["many", "legs", "base", "leg"] ["many", "legs", "base"] (defScope sLegSums) := ⟨rfl, rfl, rfl, by decide +kernel, rfl, by decide +kernel, by decide +kernel⟩
theorem ok_leg_sums {f fM fS : Addr} {fd fdM fdS : FuncData} (F : Fun K "leg_sums" "leg_sums" sLegSums f fd) (FM : Fun K "leg_mask" "leg_mask" sLegMask fM fdM) (bM : Binds K fdM ["many", "leg"] []) (gM : mg "leg_mask" = some (.ref fM))
    (FS : Fun K "sums_of" "sums_of" sSumsOf fS fdS) (bS : Binds K fdS ["masks", "base"] []) (gS : mg "sums_of" = some (.ref fS)) : FnOk P w K mg base CX0 2 f fd ["many", "legs", "base"] (spLegSums K) := by
  have GM : FnOk P w K mg base CX0 1 fM fdM ["many", "leg"] spLegMask := ok_leg_mask FM
  have GS : FnOk P w K mg base CX0 1 fS fdS ["masks", "base"] (spSumsOf K) := ok_sums_of FS
  refine F.ok scLegSums (fun vs H Q E h => ?_) (fun cdv A outer s H vs Q E hr h => ?_)
  · obtain ⟨m, a, ls, b, rfl, _⟩ := h
    rfl
  · obtain ⟨m, a, ls, b, rfl, hS, ok, k⟩ := h
    refine ⟨_, PSs.nox (pss_one (ps_ret (pe_call GS hr rfl gS FS.kp bS .nil pass0 (pa_cons
      (pe_lc (own := [("leg", 3)]) (g := gName 3) (tt := tYes) rfl scLegSums.nd (pi_list (pv 1)) (blkOk_by (N := ["many", "legs", "base", "leg"]) (sc := defScope sLegSums) (by decide +kernel)) (fun _ _ _ _ _ => pg_name (i := 3) scLegSums.nd rfl (Or.inl rfl)) (fun _ _ _ _ _ => pts_nil)
        (fun _ _ _ _ _ => pe_call GM (hr.mono (by decide)) rfl gM FM.kp bM .nil pass0 (pa_cons (pv 0) (pa_cons (pv 3) pa_nil)))) (pa_cons (pv 2) pa_nil))))), ?_⟩
    refine ⟨_, rfl, a, rfl, ⟨_, hS⟩, fun D hD => lc_list (K := K) (a := a) (xs := ls.map V.int) (fun i H' => H' = upd H D (.lst (((ls.take i).map (maskF m)).map V.int))) rfl ?_ ?_ ?_⟩
    · rintro i H' _ rfl
      exact Same.seq (new_same hD) hS
    · rintro i x H' hx rfl
      obtain ⟨z, rfl, hz⟩ := at_ints hx
      obtain ⟨h0, h1⟩ := ok.2 z (List.mem_of_getElem? hz)
      refine ⟨rfl, ?_⟩
      unfold tYes
      dsimp only
      rw [if_pos rfl]
      refine ⟨_, rfl, _, rfl, m, z, rfl, h0, h1, _, upd_same, ?_, ?_⟩
      · rw [List.length_map, List.length_map, List.length_take, sizeLine_eq]
        have := ok.1
        omega
      · rw [upd_upd, take_more hz, List.map_append, List.map_append]
        rfl
    · rintro H' rfl
      rw [List.length_map, List.take_length]
      refine ⟨_, rfl, D, ls.map (maskF m), b, rfl, SqL.of upd_same, by rw [List.length_map]; exact ok.1, fun H2 q s2 h2 => k H2 q (fun b o z => s2 b o (new_same hD b o z)) h2⟩
def spRegrouped (K : PySem.W.Frag) (C : Addr) : Sp := fun vs H Q _ => ∃ r a p n ns order, vs = [.ref r, .ref a] ∧ RuleAt C H r p n ns ∧ RuleOk p n ns ∧ SqL K H a (order.map V.int) ∧ order.length = n ∧ legsOk n order ∧ (∀ i ∈ idxF n order 0, 0 ≤ i ∧ i < ((2 ^ n : Nat) : Int)) ∧
  ∀ H' q, Same H H' → RuleAt C H' q p n ((idxF n order 0).map (pickF ns)) → Q (.ref q) H'
theorem scRegrouped : FnScope ["rule", "order", "k"] ["rule", "order"] (defScope sRegrouped) := ⟨rfl, rfl, rfl, by decide +kernel, rfl, by decide +kernel, by decide +kernel⟩
theorem ok_regrouped {f fL : Addr} {fd fdL : FuncData} (F : Fun K "regrouped" "regrouped" sRegrouped f fd) (MR : MkRule P w K mg base C fI fdI) (FL : Fun K "leg_sums" "leg_sums" sLegSums fL fdL) (GL : FnOk P w K mg base CX0 2 fL fdL ["many", "legs", "base"] (spLegSums K)) (bL : Binds K fdL ["many", "legs", "base"] [])
    (gL : mg "leg_sums" = some (.ref fL)) : FnOk P w K mg base CX0 8 f fd ["rule", "order"] (spRegrouped K C) := by
  have T := MR.T
  refine F.ok scRegrouped (fun vs H Q E h => ?_) (fun cdv A outer s H vs Q E hr h => ?_)
  · obtain ⟨r, a, p, n, ns, order, rfl, _⟩ := h
    rfl
  · obtain ⟨r, a, p, n, ns, order, rfl, hR, ok, hS, hn, lo, hi, k⟩ := h
    obtain ⟨dx, t, h1, h2⟩ := id hR.ex
    refine ⟨_, PSs.nox (pss_one (ps_ret (pe_make MR.M MR.G hr rfl T.g MR.b .nil pass0 (by exact pa_cons (pe_fld (pv 0) rfl) (pa_cons
        (pe_lc (own := [("k", 2)]) (g := gName 2) (tt := tYes) rfl scRegrouped.nd (pi_list (pe_call GL (hr.mono (by decide)) rfl gL FL.kp bL .nil pass0 (pa_cons (pe_fld (pv 0) rfl) (pa_cons (pv 1) (pa_cons pe_int pa_nil))))) (blkOk_by (N := ["rule", "order", "k"]) (sc := defScope sRegrouped) (by decide +kernel)) (fun _ _ _ _ _ => pg_name (i := 2) scRegrouped.nd rfl (Or.inl rfl)) (fun _ _ _ _ _ => pts_nil)
          (fun _ _ _ _ _ => pe_ix (ix_tup : IxR _ (rIxT K)) (by exact (show PE _ _ (tFld K (tVar 0) "table") from pe_fld (pv 0) rfl)) (pv 2) (fun _ _ => rfl))) pa_nil))))), ?_⟩
    refine ⟨_, rfl, r, C, dx, _, _, rfl, h1, T.cl, T.nP, rfl, _, rfl, r, C, dx, _, _, rfl, h1, T.cl, T.nL, rfl, _, rfl, n, a, order, 0, rfl, hS, lo, fun H1 q s1 hq => ?_⟩
    have idxL : (idxF n order 0).length = 2 ^ n := by
      unfold idxF
      rw [sums_len, List.length_map, hn]
    refine ⟨q, rfl, ⟨_, SqL.of hq⟩, fun D hD => lc_list (K := K) (a := q) (xs := (idxF n order 0).map V.int) (fun i H' => H' = upd H1 D (.lst ((((idxF n order 0).take i).map (pickF ns)).map V.int))) rfl ?_ ?_ ?_⟩
    · rintro i H' _ rfl
      exact SqL.of (new_same hD _ _ hq)
    · rintro i x H' hx rfl
      obtain ⟨z, rfl, hz⟩ := at_ints hx
      obtain ⟨z0, z1⟩ := hi z (List.mem_of_getElem? hz)
      refine ⟨rfl, ?_⟩
      unfold tYes
      dsimp only
      rw [if_pos rfl]
      refine ⟨_, rfl, r, C, dx, _, _, rfl, new_same hD _ _ (s1 _ _ h1), T.cl, T.nT, rfl, _, rfl, t, _, z, _, rfl, rfl, SqT.of (new_same hD _ _ (s1 _ _ h2)), at_pick z0 (by rw [ok.len]; exact z1), _, upd_same, ?_, ?_⟩
      · rw [List.length_map, List.length_map, List.length_take, idxL, sizeLine_eq]
        have : (2 : Nat) ^ n ≤ 2 ^ 8 := Nat.pow_le_pow_right (by decide) ok.eight
        omega
      · rw [upd_upd, take_more hz, List.map_append, List.map_append]
        rfl
    · rintro H' rfl
      rw [List.length_map, List.take_length]
      exact made (pick_ok ok idxL hi) upd_same fun H' q0 s' r' => k H' q0 (fun b o z => s' b o (new_same hD b o (s1 b o z))) r'
end
end K
end
section
set_option linter.all false
set_option maxRecDepth 100000
set_option maxHeartbeats 4000000
namespace K
open PySem PySem.Spec PyProof.Rows L2 Ob
def turnOrder (n m : Nat) : List Int := (List.range n).map fun k => (((0 : Int) + (k : Nat)) + (m : Int)).fmod n
def mirrorOrder (n : Nat) : List Int := (List.range n).map fun k => ((n : Int) - 1) - ((0 : Int) + (k : Nat))
def flipIdx (n l : Nat) : List Int := (List.range (2 ^ n)).map fun k => Builtin.bitXor ((0 : Int) + (k : Nat)) (maskF n l)
def restLegs (n l m : Nat) : List Int := ((List.range m).map fun k => (0 : Int) + (k : Nat)).filter fun k => !decide (k = (l : Int))
def setIdx (n l : Nat) (b : Int) : List Int := idxF n (restLegs n l n) (b * maskF n l)
def orderB (n : Nat) (order : List Int) : Bool := decide (order.length = n) && order.all (fun l => decide (0 ≤ (n : Int) - 1 - l ∧ (n : Int) - 1 - l ≤ 60)) && (idxF n order 0).all fun i => decide (0 ≤ i ∧ i < ((2 ^ n : Nat) : Int))
theorem turn_all : ∀ n, n ≤ 8 → ∀ m, m ≤ 8 → orderB n (turnOrder n m) = true := by decide +kernel
theorem mirror_all : ∀ n, n ≤ 8 → orderB n (mirrorOrder n) = true := by decide +kernel
theorem flip_all : ∀ n, n ≤ 8 → ∀ l, l < n → ((flipIdx n l).all fun i => decide (0 ≤ i ∧ i < ((2 ^ n : Nat) : Int))) = true := by
  have h : ∀ n, n < 9 → ∀ l, l < 8 → l < n → ((flipIdx n l).all fun i => decide (0 ≤ i ∧ i < ((2 ^ n : Nat) : Int))) = true := by decide +kernel
  exact fun n hn l hl => h n (by omega) l (by omega) hl
def setB (n l : Nat) (b : Int) : Bool := decide ((restLegs n l n).length + 1 = n) && (restLegs n l n).all (fun l => decide (0 ≤ (n : Int) - 1 - l ∧ (n : Int) - 1 - l ≤ 60)) && (setIdx n l b).all fun i => decide (0 ≤ i ∧ i < ((2 ^ n : Nat) : Int))
theorem set_all : ∀ n, n ≤ 8 → ∀ l, l < n → ∀ b : Int, b = 0 ∨ b = 1 → setB n l b = true := by
  have h : ∀ n, n < 9 → ∀ l, l < 8 → l < n → setB n l 0 = true ∧ setB n l 1 = true := by decide +kernel
  rintro n hn l hl b (rfl | rfl)
  · exact (h n (by omega) l (by omega) hl).1
  · exact (h n (by omega) l (by omega) hl).2
theorem order_ok {n : Nat} {order : List Int} (h5 : n ≤ 8) (h : orderB n order = true) : order.length = n ∧ legsOk n order ∧ ∀ i ∈ idxF n order 0, 0 ≤ i ∧ i < ((2 ^ n : Nat) : Int) := by
  unfold orderB at h
  simp only [Bool.and_eq_true, decide_eq_true_eq, List.all_eq_true] at h
  exact ⟨h.1.1, ⟨by omega, h.1.2⟩, h.2⟩
theorem pick_ok2 {p : Int} {n m : Nat} {ns idx : List Int} (ok : RuleOk p n ns) (h5 : m ≤ 8) (hl : idx.length = 2 ^ m) (hi : ∀ i ∈ idx, 0 ≤ i ∧ i < ((2 ^ n : Nat) : Int)) : RuleOk p m (idx.map (pickF ns)) := by
  refine ⟨ok.prime, h5, by rw [List.length_map]; exact hl, fun x hx => ?_⟩
  obtain ⟨i, hm, rfl⟩ := List.mem_map.mp hx
  obtain ⟨h0, h1⟩ := hi i hm
  exact ok.field _ (pick_mem h0 (by rw [ok.len]; exact h1))
section
variable {P : Program} {w : World} {K : PySem.W.Frag} {mg : Str → Option Value} {base : Heap} {C CN fI : Addr} {fdI : FuncData}
/-- what these defs lean on -/
structure Low (P : Program) (w : World) (K : PySem.W.Frag) (mg : Str → Option Value) (base : Heap) (C CN fI : Addr) (fdI : FuncData) : Prop where
  MR : MkRule P w K mg base C fI fdI
  TN : Err P K mg "BadNumber" CN "part"
  B : Bts mg
  want : ∃ f fd, FnOk P w K mg base CX0 1 f fd ["rule"] (spWantRule C) ∧ Binds K fd ["rule"] [] ∧ mg "want_rule" = some (.ref f) ∧ PySem.W.keepIn K (.ref f) = true
  leg : ∃ f fd, FnOk P w K mg base (L2.CX P w) 3 f fd ["rule", "leg", "part"] (spWantLeg K C CN) ∧ Binds K fd ["rule", "leg", "part"] [] ∧ mg "want_leg" = some (.ref f) ∧ PySem.W.keepIn K (.ref f) = true
  from_ : ∃ f fd, FnOk P w K mg base CX0 2 f fd ["thing", "least", "most"] (spIsFrom K) ∧ Binds K fd ["thing", "least", "most"] [] ∧ mg "is_from" = some (.ref f) ∧ PySem.W.keepIn K (.ref f) = true
  mask : ∃ f fd, FnOk P w K mg base CX0 1 f fd ["many", "leg"] spLegMask ∧ Binds K fd ["many", "leg"] [] ∧ mg "leg_mask" = some (.ref f) ∧ PySem.W.keepIn K (.ref f) = true
  sums : ∃ f fd, FnOk P w K mg base CX0 2 f fd ["many", "legs", "base"] (spLegSums K) ∧ Binds K fd ["many", "legs", "base"] [] ∧ mg "leg_sums" = some (.ref f) ∧ PySem.W.keepIn K (.ref f) = true
  most : ∃ t, mg "MOST_LEGS" = some (.int 8 t)
end
end K
end
section
set_option linter.all false
set_option maxRecDepth 100000
set_option maxHeartbeats 8000000
namespace K
open PySem PySem.Spec PyProof.Rows L2 Ob
section
variable {P : Program} {w : World} {K : PySem.W.Frag} {mg : Str → Option Value} {base : Heap} {C : Addr}
def bitF (n x : Int) (k : Nat) : Int := (x.fdiv (1 * 2 ^ ((n - 1) - ((0 : Int) + (k : Nat))).toNat)).fmod 2
def bitsF (n : Nat) (x : Int) : List Int := (List.range n).map fun k => bitF n x k
def spBits : Sp := fun vs H Q _ => ∃ (x : Int) (n : Nat), vs = [.int x, .int n] ∧ n ≤ 8 ∧ ∀ H' t, Same H H' → H t = none → H' t = some (.tup ((bitsF n x).map V.int)) → Q (.ref t) H'
theorem scBits : FnScope ["number", "many", "k"] ["number", "many"] (defScope sLBits) := ⟨rfl, rfl, rfl, by decide +kernel, rfl, by decide +kernel, by decide +kernel⟩
theorem ok_bits {f : Addr} {fd : FuncData} (F : Fun K "_law_bits" "_law_bits" sLBits f fd) (B : Bts mg) : FnOk P w K mg base CX0 1 f fd ["number", "many"] spBits := by
  refine F.ok scBits (fun vs H Q E h => ?_) (fun cdv A outer s H vs Q E hr h => ?_)
  · obtain ⟨x, n, rfl, _⟩ := h
    rfl
  · obtain ⟨x, n, rfl, hn, k⟩ := h
    refine ⟨_, PSs.nox (pss_one (ps_ret (pe_callTy call_tuple_of (by rfl) B.tuple (by decide +kernel) (pa_cons
      (pe_lc (own := [("k", 2)]) (g := gName 2) (tt := tYes) rfl scBits.nd (pi_range1 (by rfl) B.range (pa_cons (pv 1) pa_nil)) (blkOk_by (N := ["number", "many", "k"]) (sc := defScope sLBits) (by decide +kernel)) (fun _ _ _ _ _ => pg_name (i := 2) scBits.nd rfl (Or.inl rfl)) (fun _ _ _ _ _ => pts_nil)
        (fun _ _ _ _ _ => pe_op op_modN (pe_op op_fdivN (pv 0) (pe_op op_shl pe_int (pe_callTy call_int1 (by rfl) B.int (by decide +kernel) (pa_cons (pe_op op_sub (pe_op op_sub (pv 1) pe_int) (pv 2)) pa_nil)))) pe_int)) pa_nil)))), ?_⟩
    refine ⟨_, rfl, n, rfl, by omega, by omega, fun D hD => lc_it walk_range (fun i H' => H' = upd H D (.lst (((List.range i).map fun k => bitF n x k).map V.int))) rfl (fun _ _ _ _ => trivial) ?_ ?_⟩
    · rintro i y H' H'' hi rfl ⟨rfl, rfl⟩
      have hi : i < n := by omega
      refine ⟨rfl, ?_⟩
      unfold tYes
      dsimp only
      rw [if_pos rfl]
      have c7 : ((n : Int) - 1 - ((0 : Int) + (i : Nat))).toNat ≤ 7 := by omega
      have c8 : (2 : Int) ^ ((n : Int) - 1 - ((0 : Int) + (i : Nat))).toNat = ((2 ^ ((n : Int) - 1 - ((0 : Int) + (i : Nat))).toNat : Nat) : Int) := by norm_cast
      have c9 : (2 : Nat) ^ ((n : Int) - 1 - ((0 : Int) + (i : Nat))).toNat ≤ 2 ^ 7 := Nat.pow_le_pow_right (by decide) c7
      have c10 : 0 < (2 : Nat) ^ ((n : Int) - 1 - ((0 : Int) + (i : Nat))).toNat := Nat.two_pow_pos _
      refine ⟨_, rfl, _, rfl, _, _, rfl, rfl, _, rfl, _, _, rfl, rfl, .inl ⟨_, rfl, 1, _, rfl, rfl, ⟨by omega, by omega, by decide⟩, x, _, rfl, rfl, ?_, _, _, rfl, rfl, (show (2 : Int) ≠ 0 by decide), _, upd_same, ?_, ?_⟩⟩
      · rw [Int.one_mul, c8]
        refine ⟨by omega, ?_⟩
        rw [Int.natAbs_natCast]
        omega
      · rw [List.length_map, List.length_map, List.length_range, sizeLine_eq]
        omega
      · rw [upd_upd, List.range_succ, List.map_append, List.map_append]
        rfl
    · rintro H' rfl
      rw [Int.toNat_natCast]
      refine ⟨D, _, rfl, .inl ⟨SqL.of upd_same, fun t ht => ?_⟩⟩
      have nt : H t = none := by
        by_cases e : t = D
        · rw [e]
          exact hD
        · rw [upd_ne e] at ht
          exact ht
      exact k _ t (fun b o z => new_same ht b o (new_same hD b o z)) nt upd_same
end
theorem bits_len {n : Nat} {x : Int} : (bitsF n x).length = n := by
  unfold bitsF
  rw [List.length_map, List.length_range]
end K
end
section
set_option linter.all false
set_option maxRecDepth 100000
set_option maxHeartbeats 4000000
namespace K
open PySem PySem.Spec PyProof.Rows L2 Ob
/-- the products, one row behind another -/
def besF (p : Int) (ns ms : List Int) : List Int := ns.flatMap fun x => ms.map fun y => (x * y).fmod p
theorem flat_len {α β γ : Type} {g : α → β → γ} {ms : List β} : ∀ xs : List α, (xs.flatMap fun x => ms.map (g x)).length = xs.length * ms.length
  | [] => by simp
  | x :: xs => by
    rw [List.flatMap_cons, List.length_append, flat_len xs, List.length_map, List.length_cons, Nat.succ_mul, Nat.add_comm]
theorem flat_more {α β : Type} {f : α → List β} {xs : List α} {i : Nat} {x : α} (h : xs[i]? = some x) : (xs.take (i + 1)).flatMap f = (xs.take i).flatMap f ++ f x := by
  rw [take_more h, List.flatMap_append]
  simp
theorem bes_ok {p : Int} {n m : Nat} {ns ms : List Int} (a : RuleOk p n ns) (b : RuleOk p m ms) (h : n + m ≤ 8) : RuleOk p (n + m) (besF p ns ms) := by
  have hp := a.least
  refine ⟨a.prime, h, ?_, fun x hx => ?_⟩
  · unfold besF
    rw [flat_len, a.len, b.len, Nat.pow_add]
  · obtain ⟨y, _, hy⟩ := List.mem_flatMap.mp hx
    obtain ⟨z, _, rfl⟩ := List.mem_map.mp hy
    rw [Int.fmod_eq_emod_of_nonneg _ (by omega)]
    exact ⟨Int.emod_nonneg _ (by omega), Int.emod_lt_of_pos _ (by omega)⟩
section
variable {P : Program} {w : World} {K : PySem.W.Frag} {mg : Str → Option Value} {base : Heap} {C CR CT fI : Addr} {fdI : FuncData}
def spBeside (K : PySem.W.Frag) (C CR CT : Addr) : Sp := fun vs H Q E => ∃ x y o1 o2, vs = [x, y] ∧ RArg K C H x o1 ∧ RArg K C H y o2 ∧
  ((∃ p n ns m ms, o1 = some (p, n, ns) ∧ o2 = some (p, m, ms) ∧ RuleOk p n ns ∧ RuleOk p m ms ∧ n + m ≤ 8 ∧ ∀ H' q, Same H H' → RuleAt C H' q p (n + m) (besF p ns ms) → Q (.ref q) H') ∨
   ((o1 = none ∨ o2 = none) ∧ Raised CR "part" .non H E) ∨
   (∃ p n ns p2 m ms, o1 = some (p, n, ns) ∧ o2 = some (p2, m, ms) ∧ p2 ≠ p ∧ Raised CR "part" (.str "other") H E) ∨
   (∃ p n ns m ms, o1 = some (p, n, ns) ∧ o2 = some (p, m, ms) ∧ 8 < n + m ∧ Raised CT "most" (.int 8) H E))
theorem scBeside : FnScope ["rule", "other", "x", "y"] ["rule", "other"] (defScope sBeside) := ⟨rfl, rfl, rfl, by decide +kernel, rfl, by decide +kernel, by decide +kernel⟩
theorem ok_beside {f fW : Addr} {fd fdW : FuncData} {tM : Tok} (F : Fun K "beside" "beside" sBeside f fd) (MR : MkRule P w K mg base C fI fdI) (TR : Err P K mg "BadRule" CR "part") (TT : Err P K mg "TooMany" CT "most")
    (GW : FnOk P w K mg base (L2.CX P w) 3 fW fdW ["rule"] (spWant K C CR)) (bW : Binds K fdW ["rule"] []) (gW : mg "want_rule" = some (.ref fW)) (kW : PySem.W.keepIn K (.ref fW) = true) (gM : mg "MOST_LEGS" = some (.int 8 tM)) :
    FnOk P w K mg base (L2.CX P w) 8 f fd ["rule", "other"] (spBeside K C CR CT) := by
  have T := MR.T
  refine F.okX scBeside (fun vs H Q E h => ?_) (fun cdv A outer s H vs Q E hr h => ?_)
  · obtain ⟨x, y, o1, o2, rfl, _⟩ := h
    rfl
  · obtain ⟨x, y, o1, o2, rfl, a1, a2, q⟩ := h
    refine ⟨_, pss_cons (ps_expr (pe_call (E := E) GW (hr.mono (by decide)) rfl gW kW bW .nil (passE (takes_of rfl rfl rfl rfl)) (pa_cons (pv 0) pa_nil)))
      (pss_cons (ps_expr (pe_call (E := E) GW (hr.mono (by decide)) rfl gW kW bW .nil (passE (takes_of rfl rfl rfl rfl)) (pa_cons (pv 1) pa_nil)))
      (pss_cons (ps_if (pt_cmpR op_ne (pe_fld (pv 1) rfl) (pe_fld (pv 0) rfl) (nomark _))
        (pss_one (ps_raise rfl (takes_of rfl rfl rfl rfl) (pmk_err TR (hr.mono (by decide)) rfl (by exact pa_cons pe_str pa_nil)))) pss_nil)
      (pss_cons (ps_if (pt_cmpR op_gt (pe_op op_add (pe_fld (pv 0) rfl) (pe_fld (pv 1) rfl)) (pe_glob (v := .int 8) (by rfl) gM ⟨_, rfl⟩) (nomark _))
        (pss_one (ps_raise rfl (takes_of rfl rfl rfl rfl) (pmk_err TT (hr.mono (by decide)) rfl (by exact pa_cons (pe_glob (v := .int 8) (by rfl) gM ⟨_, rfl⟩) pa_nil)))) pss_nil)
      (pss_one (ps_ret (pe_make MR.M MR.G hr rfl T.g MR.b .nil pass0 (by exact pa_cons (pe_fld (pv 0) rfl) (pa_cons
        (pe_lc2 (own := [("x", 2), ("y", 3)]) (vs1 := [3]) (g := gName 2) (g1 := gName 3) (tt := tYes) (tt1 := tYes) (wi1 := iTup K (tFld K (tVar 1) "table")) rfl scBeside.nd (pi_tup (pe_fld (pv 0) rfl)) (blkOk_by (N := ["rule", "other", "x", "y"]) (sc := defScope sBeside) (by decide +kernel)) (by decide)
          (fun _ _ _ _ _ => pg_name (i := 2) scBeside.nd rfl (Or.inl rfl)) (fun _ _ _ _ _ => pts_nil) (fun _ _ _ _ _ => by exact pi_tup (show PE _ _ (tFld K (tVar 1) "table") from pe_fld (pv 1) rfl)) (fun _ _ _ _ _ => pg_name (i := 3) scBeside.nd rfl (Or.inl rfl)) (fun _ _ _ _ _ => pts_nil)
          (fun _ _ _ _ _ => pe_op op_modN (pe_op op_mul (pv 2) (pv 3)) (by exact (show PE _ _ (tFld K (tVar 0) "prime") from pe_fld (pv 0) rfl)))) pa_nil)))))))), ?_⟩
    refine ⟨_, rfl, x, o1, rfl, a1, ?_⟩
    cases a1 with
    | odd h1 k1 =>
      rcases q with ⟨_, _, _, _, _, e, _⟩ | ⟨_, q⟩ | ⟨_, _, _, _, _, _, e, _⟩ | ⟨_, _, _, _, _, e, _⟩
      · cases e
      · exact .inr ⟨rfl, q⟩
      · cases e
      · cases e
    | @rule r p n ns h1 =>
      refine .inl ⟨rfl, ?_⟩
      refine ⟨_, rfl, y, o2, rfl, a2, ?_⟩
      cases a2 with
      | odd h2 k2 =>
        rcases q with ⟨_, _, _, _, _, _, e, _⟩ | ⟨_, q⟩ | ⟨_, _, _, _, _, _, _, e, _⟩ | ⟨_, _, _, _, _, _, e, _⟩
        · cases e
        · exact .inr ⟨rfl, q⟩
        · cases e
        · cases e
      | @rule r2 p2 m ms h2 =>
        refine .inl ⟨rfl, ?_⟩
        obtain ⟨dx, t, g1, g2⟩ := id h1.ex
        obtain ⟨dy, u, g3, g4⟩ := id h2.ex
        refine ⟨_, rfl, r2, C, dy, _, _, rfl, g3, T.cl, T.nP, rfl, _, rfl, r, C, dx, _, _, rfl, g1, T.cl, T.nP, rfl, rfl, _, rfl, ?_⟩
        by_cases hp : p2 = p
        · subst hp
          rw [decide_eq_true rfl]
          refine iteF ?_
          refine ⟨_, rfl, r, C, dx, _, _, rfl, g1, T.cl, T.nL, rfl, _, rfl, r2, C, dy, _, _, rfl, g3, T.cl, T.nL, rfl, _, _, rfl, rfl, _, _, rfl, rfl, _, rfl, ?_⟩
          by_cases h8 : n + m ≤ 8
          · rw [decide_eq_false (show ¬ (8 : Int) < (n : Int) + (m : Int) by omega)]
            refine iteF ?_
            rcases q with ⟨p', n', ns', m', ms', e1, e2, okA, okB, _, go⟩ | ⟨e | e, _⟩ | ⟨_, _, _, _, _, _, e1, e2, ne, _⟩ | ⟨_, _, _, _, _, e1, e2, h9, _⟩
            · cases e1
              cases e2
              have hpr := okA.least
              have lA : ns.length ≤ 256 := by rw [okA.len]; exact pow8 okA.eight
              have lB : ms.length ≤ 256 := by rw [okB.len]; exact pow8 okB.eight
              refine ⟨_, rfl, r, C, dx, _, _, rfl, g1, T.cl, T.nP, rfl, _, rfl, r, C, dx, _, _, rfl, g1, T.cl, T.nT, rfl, t, rfl, ⟨_, SqT.of g2⟩, fun D hD => ?_⟩
              refine go_walk (walk_tup (K := K) (a := t) (xs := ns.map V.int)) (fun i H' => H' = upd H D (.lst (((ns.take i).flatMap fun x => ms.map fun y => (x * y).fmod p2).map V.int))) rfl ?_ ?_ ?_
              · rintro i H' _ rfl
                exact SqT.of (new_same hD _ _ g2)
              · rintro i z H' H'' hi rfl ⟨rfl, hz⟩
                obtain ⟨x, rfl, hx⟩ := at_ints hz
                have hxf := okA.field x (List.mem_of_getElem? hx)
                refine ⟨rfl, tyes ?_⟩
                refine ⟨_, rfl, r2, C, dy, _, _, rfl, new_same hD _ _ g3, T.cl, T.nT, rfl, u, rfl, ⟨_, SqT.of (new_same hD _ _ g4)⟩, ?_⟩
                refine go_walk (walk_tup (K := K) (a := u) (xs := ms.map V.int)) (fun j H2 => H2 = upd H D (.lst ((((ns.take i).flatMap fun x => ms.map fun y => (x * y).fmod p2) ++ (ms.take j).map fun y => (x * y).fmod p2).map V.int))) ?_ ?_ ?_ ?_
                · rw [List.take_zero, List.map_nil, List.append_nil]
                · rintro j H2 _ rfl
                  exact SqT.of (new_same hD _ _ g4)
                · rintro j z2 H2 H3 hj rfl ⟨rfl, hz2⟩
                  obtain ⟨y, rfl, hy⟩ := at_ints hz2
                  refine ⟨rfl, tyes ?_⟩
                  refine ⟨_, rfl, _, rfl, x, y, rfl, rfl, .inl ⟨by omega, by omega⟩, _, rfl, r, C, dx, _, _, rfl, new_same hD _ _ g1, T.cl, T.nP, rfl, _, _, rfl, rfl, by omega, _, upd_same, ?_, ?_⟩
                  · rw [List.length_map, List.length_append, flat_len, List.length_map, List.length_take, List.length_take, sizeLine_eq]
                    have : min i ns.length * ms.length ≤ 256 * 256 := Nat.mul_le_mul (by omega) lB
                    omega
                  · rw [upd_upd, take_more hy, List.map_append (f := fun y => (x * y).fmod p2), ← List.append_assoc, List.map_append (f := V.int) (l₂ := List.map (fun y => (x * y).fmod p2) [y])]
                    rfl
                · rintro H2 rfl
                  rw [List.length_map, List.take_length, flat_more hx]
              · rintro H' rfl
                rw [List.length_map, List.take_length]
                exact made (bes_ok okA okB h8) upd_same fun H' q0 s' r' => go H' q0 (fun b o z => s' b o (new_same hD b o z)) r'
            · cases e
            · cases e
            · cases e1
              cases e2
              exact absurd rfl ne
            · cases e1
              cases e2
              omega
          · rw [decide_eq_true (show (8 : Int) < (n : Int) + (m : Int) by omega)]
            refine iteT ?_
            rcases q with ⟨p', n', ns', m', ms', e1, e2, okA, okB, h9, go⟩ | ⟨e | e, _⟩ | ⟨_, _, _, _, _, _, e1, e2, ne, _⟩ | ⟨_, _, _, _, _, e1, e2, h9, go⟩
            · cases e1
              cases e2
              exact absurd h9 h8
            · cases e
            · cases e
            · cases e1
              cases e2
              exact absurd rfl ne
            · exact ⟨_, rfl, fun _ _ _ _ => fmt_eight, fun d hd => go d hd⟩
        · rw [decide_eq_false fun z => hp (by injection z)]
          refine iteT ?_
          rcases q with ⟨p', n', ns', m', ms', e1, e2, okA, okB, h9, go⟩ | ⟨e | e, _⟩ | ⟨_, _, _, _, _, _, e1, e2, ne, go⟩ | ⟨_, _, _, _, _, e1, e2, h9, _⟩
          · cases e1
            cases e2
            exact absurd rfl hp
          · cases e
          · cases e
          · exact ⟨_, rfl, fun _ _ _ _ => fmt_str (by decide), fun d hd => go d hd⟩
          · cases e1
            cases e2
            exact absurd rfl hp
end
end K
end
section
set_option linter.all false
set_option maxRecDepth 100000
set_option maxHeartbeats 4000000
namespace K
open PySem PySem.Spec PyProof.Rows L2 Ob
def behF (n l : Nat) : List Int := (List.range (n - 1)).map fun k => (((l : Int) + 1) + ((0 : Int) + (k : Nat))).fmod n
/-- the legs from behind l on, all bits at them -/
def rowIdx (n l : Nat) : List Int := idxF n (behF n l) 0
def rowF (ns : List Int) (n l : Nat) : List (Int × Int) := (rowIdx n l).map fun z => (pickF ns z, pickF ns (z + maskF n l))
def rowB (n l : Nat) : Bool := (behF n l).all (fun x => decide (0 ≤ (n : Int) - 1 - x ∧ (n : Int) - 1 - x ≤ 60)) && (rowIdx n l).all fun z => decide (0 ≤ z ∧ 0 ≤ z + maskF n l ∧ z < ((2 ^ n : Nat) : Int) ∧ z + maskF n l < ((2 ^ n : Nat) : Int))
theorem row_all : ∀ n : Nat, n ≤ 8 → ∀ l : Nat, l < n → rowB n l = true := by
  have h : ∀ n : Nat, n < 9 → ∀ l : Nat, l < n → rowB n l = true := by decide +kernel
  exact fun n hn => h n (by omega)
theorem row_ok {n l : Nat} (h8 : n ≤ 8) (hl : l < n) : (behF n l).length = n - 1 ∧ legsOk n (behF n l) ∧ ∀ z ∈ rowIdx n l, 0 ≤ z ∧ 0 ≤ z + maskF n l ∧ z < ((2 ^ n : Nat) : Int) ∧ z + maskF n l < ((2 ^ n : Nat) : Int) := by
  have h := row_all n h8 l hl
  unfold rowB at h
  simp only [Bool.and_eq_true, List.all_eq_true, decide_eq_true_eq] at h
  have e : (behF n l).length = n - 1 := by
    unfold behF
    rw [List.length_map, List.length_range]
  exact ⟨e, ⟨by rw [e]; omega, h.1⟩, h.2⟩
theorem rowIdx_len {n l : Nat} : (rowIdx n l).length = 2 ^ (n - 1) := by
  unfold rowIdx idxF behF
  rw [sums_len, List.length_map, List.length_map, List.length_range]
/-- pairs of numbers, in a list -/
def PairsAt (H : Hp) (q : Addr) (prs : List (Int × Int)) : Prop := ∃ ts : List Addr, ts.length = prs.length ∧ H q = some (.lst (ts.map V.ref)) ∧ ∀ (i : Nat) (t : Addr), ts[i]? = some t → ∃ pr, prs[i]? = some pr ∧ H t = some (.tup [.int pr.1, .int pr.2])
theorem PairsAt.same {H H' : Hp} {q : Addr} {prs : List (Int × Int)} (s : ∀ b o, H b = some o → H' b = some o) (h : PairsAt H q prs) : PairsAt H' q prs := by
  obtain ⟨ts, a, b, c⟩ := h
  exact ⟨ts, a, s _ _ b, fun i t e => let ⟨pr, x, y⟩ := c i t e; ⟨pr, x, s _ _ y⟩⟩
section
variable {P : Program} {w : World} {K : PySem.W.Frag} {mg : Str → Option Value} {base : Heap} {C CN fI : Addr} {fdI : FuncData}
def spBehind : Sp := fun vs H Q _ => ∃ n l : Nat, vs = [.int n, .int l] ∧ l < n ∧ n ≤ 8 ∧ ∀ H' q, Same H H' → H' q = some (.lst ((behF n l).map V.int)) → Q (.ref q) H'
theorem scBehind : FnScope ["many", "leg", "k"] ["many", "leg"] (defScope sBehind) := ⟨rfl, rfl, rfl, by decide +kernel, rfl, by decide +kernel, by decide +kernel⟩
theorem ok_behind {f : Addr} {fd : FuncData} (F : Fun K "behind" "behind" sBehind f fd) (B : Bts mg) : FnOk P w K mg base CX0 1 f fd ["many", "leg"] spBehind := by
  refine F.ok scBehind (fun vs H Q E h => ?_) (fun cdv A outer s H vs Q E hr h => ?_)
  · obtain ⟨n, l, rfl, _⟩ := h
    rfl
  · obtain ⟨n, l, rfl, hl, h8, k⟩ := h
    refine ⟨_, PSs.nox (pss_one (ps_ret (pe_lc (own := [("k", 2)]) (g := gName 2) (tt := tYes) rfl scBehind.nd (pi_range1 (by rfl) B.range (pa_cons (pe_op op_sub (pv 0) pe_int) pa_nil)) (blkOk_by (N := ["many", "leg", "k"]) (sc := defScope sBehind) (by decide +kernel)) (fun _ _ _ _ _ => pg_name (i := 2) scBehind.nd rfl (Or.inl rfl)) (fun _ _ _ _ _ => pts_nil)
      (fun _ _ _ _ _ => pe_op op_modN (pe_op op_add (pe_op op_add (pv 1) pe_int) (pv 2)) (pv 0))))), ?_⟩
    refine ⟨_, rfl, _, _, rfl, rfl, _, rfl, by omega, by omega, fun D hD => lc_it walk_range (fun i H' => H' = upd H D (.lst (((List.range i).map fun k => (((l : Int) + 1) + ((0 : Int) + (k : Nat))).fmod n).map V.int))) rfl (fun _ _ _ _ => trivial) ?_ ?_⟩
    · rintro i y H' H'' hi rfl ⟨rfl, rfl⟩
      refine ⟨rfl, tyes ?_⟩
      refine ⟨_, rfl, _, _, rfl, rfl, _, rfl, _, _, rfl, rfl, _, rfl, _, _, rfl, rfl, by omega, _, upd_same, ?_, ?_⟩
      · rw [List.length_map, List.length_map, List.length_range, sizeLine_eq]
        omega
      · rw [upd_upd, List.range_succ, List.map_append, List.map_append]
        rfl
    · rintro H' rfl
      have e : ((n : Int) - 1).toNat = n - 1 := by omega
      rw [e]
      exact k _ D (new_same hD) upd_same
def spRows (C : Addr) : Sp := fun vs H Q _ => ∃ r p n ns, ∃ l : Nat, vs = [.ref r, .int l] ∧ RuleAt C H r p n ns ∧ RuleOk p n ns ∧ l < n ∧ ∀ H' q, Same H H' → PairsAt H' q (rowF ns n l) → Q (.ref q) H'
theorem scRows : FnScope ["rule", "leg", "mask", "zeros", "k"] ["rule", "leg"] (defScope sRowsByBit) := ⟨rfl, rfl, rfl, by decide +kernel, rfl, by decide +kernel, by decide +kernel⟩
theorem ok_rows {f fB : Addr} {fd fdB : FuncData} (F : Fun K "rows_by_bit" "rows_by_bit" sRowsByBit f fd) (L : Low P w K mg base C CN fI fdI) (GB : FnOk P w K mg base CX0 1 fB fdB ["many", "leg"] spBehind) (bB : Binds K fdB ["many", "leg"] []) (gB : mg "behind" = some (.ref fB)) (kB : PySem.W.keepIn K (.ref fB) = true) :
    FnOk P w K mg base CX0 3 f fd ["rule", "leg"] (spRows C) := by
  have T := L.MR.T
  obtain ⟨fM, dM, GM, bM, gM, kM⟩ := L.mask
  obtain ⟨fS, dS, GS, bS, gS, kS⟩ := L.sums
  refine F.ok scRows (fun vs H Q E h => ?_) (fun cdv A outer s H vs Q E hr h => ?_)
  · obtain ⟨r, p, n, ns, l, rfl, _⟩ := h
    rfl
  · obtain ⟨r, p, n, ns, l, rfl, hR, ok, hl, k⟩ := h
    obtain ⟨dx, t, h1, h2⟩ := id hR.ex
    have h8 := ok.eight
    obtain ⟨o1, o2, o3⟩ := row_ok h8 hl
    refine ⟨_, PSs.nox (pss_cons (ps_set (i := 2) scRows.nd rfl (Or.inr rfl) (pe_call GM (hr.mono (by decide)) rfl gM kM bM .nil pass0 (pa_cons (pe_fld (pv 0) rfl) (pa_cons (pv 1) pa_nil))))
      (pss_cons (ps_set (i := 3) scRows.nd rfl (Or.inl rfl) (pe_call GS (hr.mono (by decide)) rfl gS kS bS .nil pass0 (pa_cons (pe_fld (pv 0) rfl) (pa_cons (pe_call GB (hr.mono (by decide)) rfl gB kB bB .nil pass0 (pa_cons (pe_fld (pv 0) rfl) (pa_cons (pv 1) pa_nil))) (pa_cons pe_int pa_nil)))))
      (pss_one (ps_ret (pe_lc (own := [("k", 4)]) (g := gName 4) (tt := tYes) rfl scRows.nd (pi_list (pv 3)) (blkOk_by (N := ["rule", "leg", "mask", "zeros", "k"]) (sc := defScope sRowsByBit) (by decide +kernel)) (fun _ _ _ _ _ => pg_name (i := 4) scRows.nd rfl (Or.inl rfl)) (fun _ _ _ _ _ => pts_nil)
        (fun _ _ _ _ _ => pe_tup (pa_cons (pe_ix (ix_tup : IxR _ (rIxT K)) (by exact (show PE _ _ (tFld K (tVar 0) "table") from pe_fld (pv 0) rfl)) (pv 4) (fun _ _ => rfl)) (pa_cons (pe_ix (ix_tup : IxR _ (rIxT K)) (by exact (show PE _ _ (tFld K (tVar 0) "table") from pe_fld (pv 0) rfl)) (pe_op op_add (pv 4) (pv 2)) (fun _ _ => rfl)) pa_nil)))))))), ?_⟩
    refine ⟨_, rfl, r, C, dx, _, _, rfl, h1, T.cl, T.nL, rfl, _, rfl, n, l, rfl, by omega, by omega, ?_⟩
    refine ⟨_, rfl, r, C, dx, _, _, rfl, h1, T.cl, T.nL, rfl, _, rfl, r, C, dx, _, _, rfl, h1, T.cl, T.nL, rfl, _, rfl, n, l, rfl, hl, h8, fun H1 q s1 hq => ?_⟩
    refine ⟨n, q, behF n l, 0, rfl, SqL.of hq, o2, fun H2 z s2 hz => ?_⟩
    have s02 : ∀ b o, H b = some o → H2 b = some o := fun b o e => s2 b o (s1 b o e)
    refine ⟨_, rfl, z, rfl, ⟨_, SqL.of hz⟩, fun D hD => lc_list (K := K) (a := z) (xs := (rowIdx n l).map V.int) (fun i H' => ∃ ts : List Addr, ts.length = i ∧ (∀ b o, H2 b = some o → H' b = some o) ∧ H' D = some (.lst (ts.map V.ref)) ∧
        ∀ (k : Nat) (t : Addr), ts[k]? = some t → ∃ x, (rowIdx n l)[k]? = some x ∧ H' t = some (.tup [.int (pickF ns x), .int (pickF ns (x + maskF n l))])) ⟨[], rfl, new_same hD, upd_same, fun k t e => by simp at e⟩ ?_ ?_ ?_⟩
    · rintro i H' _ ⟨ts, _, sm, _⟩
      exact SqL.of (sm _ _ hz)
    · rintro i x H' hx ⟨ts, tl, sm, hL, hb⟩
      obtain ⟨y, rfl, hy⟩ := at_ints hx
      obtain ⟨y0, y1, y2, y3⟩ := o3 y (List.mem_of_getElem? hy)
      have hi := (List.getElem?_eq_some_iff.mp hy).1
      rw [rowIdx_len] at hi
      have p8 : (2 : Nat) ^ (n - 1) ≤ 256 := pow8 (by omega)
      refine ⟨rfl, tyes ?_⟩
      refine ⟨_, rfl, r, C, dx, _, _, rfl, sm _ _ (s02 _ _ h1), T.cl, T.nT, rfl, _, rfl, t, _, y, _, rfl, rfl, SqT.of (sm _ _ (s02 _ _ h2)), at_pick y0 (by rw [ok.len]; exact y2), ?_⟩
      refine ⟨_, rfl, r, C, dx, _, _, rfl, sm _ _ (s02 _ _ h1), T.cl, T.nT, rfl, _, rfl, _, rfl, _, _, rfl, rfl, t, _, _, _, rfl, rfl, SqT.of (sm _ _ (s02 _ _ h2)), at_pick y1 (by rw [ok.len]; exact y3), ?_⟩
      refine ⟨(show 2 ≤ sizeLine by rw [sizeLine_eq]; decide), fun u hu => ?_⟩
      have su := new_same (o := .tup [.int (pickF ns y), .int (pickF ns (y + maskF n l))]) hu
      have nuD : u ≠ D := fun e => by rw [e, hL] at hu; cases hu
      refine ⟨_, su _ _ hL, ?_, ts ++ [u], by rw [List.length_append, tl]; rfl, ?_, ?_, ?_⟩
      · rw [List.length_map, tl, sizeLine_eq]
        omega
      · intro b o e
        rw [upd_ne (ne_of_none e hD)]
        exact su _ _ (sm _ _ e)
      · rw [upd_same, List.map_append]
        rfl
      · intro k v hk
        by_cases hk2 : k < ts.length
        · rw [List.getElem?_append_left hk2] at hk
          obtain ⟨x, e1, e2⟩ := hb k v hk
          refine ⟨x, e1, ?_⟩
          have nv : v ≠ D := fun e => by rw [e, hL] at e2; cases e2
          rw [upd_ne nv]
          exact su _ _ e2
        · have hk3 : k = i := by
            have := (List.getElem?_eq_some_iff.mp hk).1
            rw [List.length_append] at this
            simp at this
            omega
          subst hk3
          rw [List.getElem?_append_right (by omega), tl, Nat.sub_self] at hk
          obtain rfl : u = v := by simpa using hk
          refine ⟨y, hy, ?_⟩
          rw [upd_ne nuD]
          exact upd_same
    · rintro H' ⟨ts, tl, sm, hL, hb⟩
      rw [List.length_map] at tl
      refine k _ D (fun b o e => sm b o (s02 b o e)) ⟨ts, by unfold rowF; rw [List.length_map]; exact tl, hL, fun i t e => ?_⟩
      obtain ⟨x, e1, e2⟩ := hb i t e
      refine ⟨(pickF ns x, pickF ns (x + maskF n l)), ?_, e2⟩
      unfold rowF
      rw [List.getElem?_map, e1]
      rfl
end
end K
end
section
set_option linter.all false
set_option maxRecDepth 100000
set_option maxHeartbeats 4000000
namespace K
open PySem PySem.Spec PyProof.Rows L2 Ob
def closeLegs (l m i : Nat) : List Int := ((List.range i).map fun k => (0 : Int) + (k : Nat)).filter fun k => !(decide (k = (l : Int)) || decide (k = (m : Int)))
theorem close_yes {l m i : Nat} (h1 : i ≠ l) (h2 : i ≠ m) : closeLegs l m (i + 1) = closeLegs l m i ++ [(0 : Int) + (i : Nat)] := by
  unfold closeLegs
  rw [List.range_succ, List.map_append, List.filter_append]
  have e1 : ¬ ((0 : Int) + (i : Nat) = (l : Int)) := by omega
  have e2 : ¬ ((0 : Int) + (i : Nat) = (m : Int)) := by omega
  rw [List.map_singleton, List.filter_cons, decide_eq_false e1, decide_eq_false e2]
  rfl
theorem close_no {l m i : Nat} (h : i = l ∨ i = m) : closeLegs l m (i + 1) = closeLegs l m i := by
  unfold closeLegs
  rw [List.range_succ, List.map_append, List.filter_append, List.map_singleton, List.filter_cons]
  have e : (decide ((0 : Int) + (i : Nat) = (l : Int)) || decide ((0 : Int) + (i : Nat) = (m : Int))) = true := by
    rw [Bool.or_eq_true, decide_eq_true_eq, decide_eq_true_eq]
    omega
  rw [e]
  simp
theorem close_len (l m i : Nat) : (closeLegs l m i).length ≤ i := by
  unfold closeLegs
  exact Nat.le_trans (List.length_filter_le _ _) (by simp)
def bothF (n l m : Nat) : Int := maskF n l + maskF n m
def closeIdx (n l m : Nat) : List Int := idxF n (closeLegs l m n) 0
def closeF (p : Int) (ns : List Int) (n l m : Nat) : List Int := (closeIdx n l m).map fun z => (pickF ns z + pickF ns (z + bothF n l m)).fmod p
def closeB (n l m : Nat) : Bool := decide ((closeLegs l m n).length = n - 2) && (closeLegs l m n).all (fun x => decide (0 ≤ (n : Int) - 1 - x ∧ (n : Int) - 1 - x ≤ 60)) && (closeIdx n l m).all fun z => decide (0 ≤ z ∧ 0 ≤ z + bothF n l m ∧ z < ((2 ^ n : Nat) : Int) ∧ z + bothF n l m < ((2 ^ n : Nat) : Int))
theorem close_all : ∀ n : Nat, n ≤ 8 → ∀ l : Nat, l < n → ∀ m : Nat, m < n → l ≠ m → closeB n l m = true := by
  have h : ∀ n : Nat, n < 9 → ∀ l : Nat, l < n → ∀ m : Nat, m < n → l ≠ m → closeB n l m = true := by decide +kernel
  exact fun n hn => h n (by omega)
theorem close_ok {n l m : Nat} (h8 : n ≤ 8) (hl : l < n) (hm : m < n) (ne : l ≠ m) : (closeLegs l m n).length = n - 2 ∧ legsOk n (closeLegs l m n) ∧ ∀ z ∈ closeIdx n l m, 0 ≤ z ∧ 0 ≤ z + bothF n l m ∧ z < ((2 ^ n : Nat) : Int) ∧ z + bothF n l m < ((2 ^ n : Nat) : Int) := by
  have h := close_all n h8 l hl m hm ne
  unfold closeB at h
  simp only [Bool.and_eq_true, List.all_eq_true, decide_eq_true_eq] at h
  exact ⟨h.1.1, ⟨by rw [h.1.1]; omega, h.1.2⟩, h.2⟩
theorem closeF_ok {p : Int} {n l m : Nat} {ns : List Int} (ok : RuleOk p n ns) (hl : l < n) (hm : m < n) (ne : l ≠ m) : RuleOk p (n - 2) (closeF p ns n l m) := by
  have hp := ok.least
  obtain ⟨c1, _, _⟩ := close_ok ok.eight hl hm ne
  have := ok.eight
  refine ⟨ok.prime, by omega, ?_, fun x hx => ?_⟩
  · unfold closeF closeIdx idxF
    rw [List.length_map, sums_len, List.length_map, c1]
  · obtain ⟨y, _, rfl⟩ := List.mem_map.mp hx
    rw [Int.fmod_eq_emod_of_nonneg _ (by omega)]
    exact ⟨Int.emod_nonneg _ (by omega), Int.emod_lt_of_pos _ (by omega)⟩
theorem within_yes {l n : Nat} (h : l < n) : within (some (l : Int)) 0 ((n : Int) - 1) = true := by
  unfold within
  simp only [Option.any_some, Bool.and_eq_true, decide_eq_true_eq]
  omega
end K
end
section
set_option linter.all false
set_option maxRecDepth 100000
set_option maxHeartbeats 4000000
/-! want_two_legs -/
namespace K
open PySem PySem.Spec PyProof.Rows L2 Ob
section
variable {P : Program} {w : World} {K : PySem.W.Frag} {mg : Str → Option Value} {base : Heap} {C CN : Addr}
def spWantTwo (K : PySem.W.Frag) (C CN : Addr) : Sp := fun vs H Q E => ∃ r y z oy p n ns, vs = [.ref r, y, z] ∧ RuleAt C H r p n ns ∧ Thing K H y oy ∧
  ((within oy 0 ((n : Int) - 1) = false ∧ Raised CN "part" (.str "leg") H E) ∨
   (∃ l : Nat, ∃ oz, oy = some (l : Int) ∧ l < n ∧ Thing K H z oz ∧
    ((within oz 0 ((n : Int) - 1) = false ∧ Raised CN "part" (.str "other") H E) ∨
     (oz = some (l : Int) ∧ Raised CN "part" (.str "other") H E) ∨
     (∃ m : Nat, oz = some (m : Int) ∧ m < n ∧ l ≠ m ∧ Q .non H))))
theorem scWantTwo : FnScope ["rule", "leg", "other"] ["rule", "leg", "other"] (defScope sWantTwoLegs) := ⟨rfl, rfl, rfl, by decide +kernel, rfl, by decide +kernel, by decide +kernel⟩
theorem ok_want_two {f fL : Addr} {fd fdL : FuncData} (F : Fun K "want_two_legs" "want_two_legs" sWantTwoLegs f fd) (TN : Err P K mg "BadNumber" CN "part")
    (GL : FnOk P w K mg base (L2.CX P w) 3 fL fdL ["rule", "leg", "part"] (spWantLeg K C CN)) (bL : Binds K fdL ["rule", "leg", "part"] []) (gL : mg "want_leg" = some (.ref fL)) (kL : PySem.W.keepIn K (.ref fL) = true) :
    FnOk P w K mg base (L2.CX P w) 4 f fd ["rule", "leg", "other"] (spWantTwo K C CN) := by
  refine F.okX scWantTwo (fun vs H Q E h => ?_) (fun cdv A outer s H vs Q E hr h => ?_)
  · obtain ⟨r, y, z, oy, p, n, ns, rfl, _⟩ := h
    rfl
  · obtain ⟨r, y, z, oy, p, n, ns, rfl, hR, hy, q⟩ := h
    refine ⟨_, pss_cons (ps_expr (pe_call (E := E) GL hr rfl gL kL bL .nil (passE (takes_of rfl rfl rfl rfl)) (by exact pa_cons (pv 0) (pa_cons (pv 1) (pa_cons pe_str pa_nil)))))
      (pss_cons (ps_expr (pe_call (E := E) GL hr rfl gL kL bL .nil (passE (takes_of rfl rfl rfl rfl)) (by exact pa_cons (pv 0) (pa_cons (pv 2) (pa_cons pe_str pa_nil)))))
      (pss_one (ps_if (pt_cmpR op_eq (pv 2) (pv 1) (nomark _)) (pss_one (ps_raise rfl (takes_of rfl rfl rfl rfl) (pmk_err TN (hr.mono (by decide)) rfl (by exact pa_cons pe_str pa_nil)))) pss_nil))), ?_⟩
    refine ⟨_, rfl, _, rfl, r, y, oy, "leg", p, n, ns, rfl, hR, hy, by decide, ?_⟩
    rcases q with ⟨e, q⟩ | ⟨l, oz, rfl, hl, hz, q⟩
    · exact .inr ⟨e, q⟩
    refine .inl ⟨within_yes hl, ?_⟩
    refine ⟨_, rfl, _, rfl, r, z, oz, "other", p, n, ns, rfl, hR, hz, by decide, ?_⟩
    cases hy with
    | num =>
    rcases q with ⟨e, q⟩ | ⟨rfl, q⟩ | ⟨m, rfl, hm, ne, k⟩
    · exact .inr ⟨e, q⟩
    · refine .inl ⟨within_yes hl, ?_⟩
      cases hz with
      | num =>
      refine ⟨_, rfl, _, rfl, rfl, _, rfl, ?_⟩
      rw [decide_eq_true rfl]
      exact iteT ⟨_, rfl, fun _ _ _ _ => fmt_str (by decide), fun d hd => q d hd⟩
    refine .inl ⟨within_yes hm, ?_⟩
    cases hz with
    | num =>
    refine ⟨_, rfl, _, rfl, rfl, _, rfl, ?_⟩
    rw [decide_eq_false fun z => ne (by injection z with z; omega)]
    exact iteF k
end
end K
end
section
set_option linter.all false
set_option maxRecDepth 100000
set_option maxHeartbeats 4000000
namespace K
open PySem PySem.Spec PyProof.Rows L2 Ob
section
variable {P : Program} {w : World} {K : PySem.W.Frag} {mg : Str → Option Value} {base : Heap} {C CN CR fI : Addr} {fdI : FuncData}
def spClosed (K : PySem.W.Frag) (C CN CR : Addr) : Sp := fun vs H Q E => ∃ x y z o1, vs = [x, y, z] ∧ RArg K C H x o1 ∧
  ((o1 = none ∧ Raised CR "part" .non H E) ∨
   (∃ p n ns oy, o1 = some (p, n, ns) ∧ Thing K H y oy ∧
    ((within oy 0 ((n : Int) - 1) = false ∧ Raised CN "part" (.str "leg") H E) ∨
     (∃ l : Nat, ∃ oz, oy = some (l : Int) ∧ l < n ∧ Thing K H z oz ∧
      ((within oz 0 ((n : Int) - 1) = false ∧ Raised CN "part" (.str "other") H E) ∨
       (oz = some (l : Int) ∧ Raised CN "part" (.str "other") H E) ∨
       (∃ m : Nat, oz = some (m : Int) ∧ m < n ∧ l ≠ m ∧ RuleOk p n ns ∧ ∀ H' q, Same H H' → RuleAt C H' q p (n - 2) (closeF p ns n l m) → Q (.ref q) H'))))))
theorem scClosed : FnScope ["rule", "leg", "other", "others", "both", "zeros", "k"] ["rule", "leg", "other"] (defScope sClosed) := ⟨rfl, rfl, rfl, by decide +kernel, rfl, by decide +kernel, by decide +kernel⟩
theorem ok_closed {f fW : Addr} {fd fdW : FuncData} (F : Fun K "closed" "closed" sClosed f fd) (L : Low P w K mg base C CN fI fdI)
    (GW : FnOk P w K mg base (L2.CX P w) 3 fW fdW ["rule"] (spWant K C CR)) (bW : Binds K fdW ["rule"] []) (gW : mg "want_rule" = some (.ref fW)) (kW : PySem.W.keepIn K (.ref fW) = true)
    {fT : Addr} {fdT : FuncData} (GT : FnOk P w K mg base (L2.CX P w) 4 fT fdT ["rule", "leg", "other"] (spWantTwo K C CN)) (bT : Binds K fdT ["rule", "leg", "other"] []) (gT : mg "want_two_legs" = some (.ref fT)) (kT : PySem.W.keepIn K (.ref fT) = true) :
    FnOk P w K mg base (L2.CX P w) 8 f fd ["rule", "leg", "other"] (spClosed K C CN CR) := by
  have T := L.MR.T
  obtain ⟨fL, dL, GL, bL, gL, kL⟩ := L.leg
  obtain ⟨fM, dM, GM, bM, gM, kM⟩ := L.mask
  obtain ⟨fS, dS, GS, bS, gS, kS⟩ := L.sums
  refine F.okX scClosed (fun vs H Q E h => ?_) (fun cdv A outer s H vs Q E hr h => ?_)
  · obtain ⟨x, y, z, o1, rfl, _⟩ := h
    rfl
  · obtain ⟨x, y, z, o1, rfl, a1, q⟩ := h
    refine ⟨_, pss_cons (ps_expr (pe_call (E := E) GW (hr.mono (by decide)) rfl gW kW bW .nil (passE (takes_of rfl rfl rfl rfl)) (pa_cons (pv 0) pa_nil)))
      (pss_cons (ps_expr (pe_call (E := E) GT (hr.mono (by decide)) rfl gT kT bT .nil (passE (takes_of rfl rfl rfl rfl)) (by exact pa_cons (pv 0) (pa_cons (pv 1) (pa_cons (pv 2) pa_nil)))))
      (pss_cons (ps_setLc (i := 3) (own := [("k", 6)]) (g := gName 6) rfl scClosed.nd rfl rfl (sw_true rfl rfl rfl (by decide +kernel)) (pi_range1 (by rfl) L.B.range (pa_cons (pe_fld (pv 0) rfl) pa_nil)) (blkOk_by (N := ["rule", "leg", "other", "others", "both", "zeros", "k"]) (sc := defScope sClosed) (by decide +kernel)) (fun _ _ _ _ _ => pg_name (i := 6) scClosed.nd rfl (Or.inl rfl))
          (fun _ _ _ _ _ => pts_one (pt_cmpR (op_notIn_seq : OpR _ _ (rIn K true)) (pv 6) (pe_tup (pa_cons (pv 1) (pa_cons (pv 2) pa_nil))) (by rfl))) (fun _ _ _ _ _ => pv 6))
      (pss_cons (ps_set (i := 4) scClosed.nd rfl (Or.inr rfl) (pe_op op_add (pe_call GM (hr.mono (by decide)) rfl gM kM bM .nil pass0 (pa_cons (pe_fld (pv 0) rfl) (pa_cons (pv 1) pa_nil))) (pe_call GM (hr.mono (by decide)) rfl gM kM bM .nil pass0 (pa_cons (pe_fld (pv 0) rfl) (pa_cons (pv 2) pa_nil)))))
      (pss_cons (ps_set (i := 5) scClosed.nd rfl (Or.inl rfl) (pe_call GS (hr.mono (by decide)) rfl gS kS bS .nil pass0 (pa_cons (pe_fld (pv 0) rfl) (pa_cons (pv 3) (pa_cons pe_int pa_nil)))))
      (pss_one (ps_ret (pe_make L.MR.M L.MR.G hr rfl T.g L.MR.b .nil pass0 (by exact pa_cons (pe_fld (pv 0) rfl) (pa_cons
        (pe_lc (own := [("k", 6)]) (g := gName 6) (tt := tYes) rfl scClosed.nd (pi_list (pv 5)) (blkOk_by (N := ["rule", "leg", "other", "others", "both", "zeros", "k"]) (sc := defScope sClosed) (by decide +kernel)) (fun _ _ _ _ _ => pg_name (i := 6) scClosed.nd rfl (Or.inl rfl)) (fun _ _ _ _ _ => pts_nil)
          (fun _ _ _ _ _ => pe_op op_modN (pe_op op_add (pe_ix (ix_tup : IxR _ (rIxT K)) (by exact (show PE _ _ (tFld K (tVar 0) "table") from pe_fld (pv 0) rfl)) (pv 6) (fun _ _ => rfl))
            (pe_ix (ix_tup : IxR _ (rIxT K)) (by exact (show PE _ _ (tFld K (tVar 0) "table") from pe_fld (pv 0) rfl)) (pe_op op_add (pv 6) (pv 4)) (fun _ _ => rfl))) (by exact (show PE _ _ (tFld K (tVar 0) "prime") from pe_fld (pv 0) rfl)))) pa_nil))))))))), ?_⟩
    refine ⟨_, rfl, x, o1, rfl, a1, ?_⟩
    rcases q with ⟨e, q⟩ | ⟨p, n, ns, oy, rfl, hy, q⟩
    · exact .inr ⟨e, q⟩
    refine .inl ⟨rfl, ?_⟩
    cases a1 with
    | @rule r p n ns hR =>
    obtain ⟨dx, t, h1, h2⟩ := id hR.ex
    refine ⟨_, rfl, _, rfl, _, rfl, r, y, z, oy, p, n, ns, rfl, hR, hy, ?_⟩
    rcases q with ⟨e, q⟩ | ⟨l, oz, rfl, hl, hz, q⟩
    · exact .inl ⟨e, q⟩
    refine .inr ⟨l, oz, rfl, hl, hz, ?_⟩
    rcases q with ⟨e, q⟩ | ⟨rfl, q⟩ | ⟨m, rfl, hm, ne, ok, k⟩
    · exact .inl ⟨e, q⟩
    · exact .inr (.inl ⟨rfl, q⟩)
    refine .inr (.inr ⟨m, rfl, hm, ne, ?_⟩)
    cases hy with
    | num =>
    cases hz with
    | num =>
    have h8 := ok.eight
    have hp := ok.least
    obtain ⟨c1, c2, c3⟩ := close_ok h8 hl hm ne
    refine ⟨_, rfl, r, C, dx, _, _, rfl, h1, T.cl, T.nL, rfl, n, rfl, by omega, by omega, fun D hD => lc_it walk_range (fun i H' => (∀ b o, H b = some o → H' b = some o) ∧ H' D = some (.lst ((closeLegs l m i).map V.int))) ⟨new_same hD, upd_same⟩ (fun _ _ _ _ => trivial) ?_ ?_⟩
    · rintro i z H' H'' hi ⟨sm, hL⟩ ⟨rfl, rfl⟩
      have hi : i < n := by omega
      refine ⟨rfl, ?_⟩
      refine ⟨_, rfl, _, rfl, _, rfl, (show 2 ≤ sizeLine by rw [sizeLine_eq]; decide), fun u hu => ?_⟩
      have su := new_same (o := .tup [.int (l : Int), .int (m : Int)]) hu
      have smu : ∀ b o, H b = some o → upd H'' u (.tup [.int (l : Int), .int (m : Int)]) b = some o := fun b o e => su b o (sm b o e)
      refine ⟨u, _, rfl, .inr (SqT.of upd_same), rfl, rfl, _, rfl, ?_⟩
      by_cases e : i = l ∨ i = m
      · have eN : (!inV (V.int ((0 : Int) + (i : Nat))) [V.int (l : Int), V.int (m : Int)]) = false := by
          unfold inV
          simp only [List.any_cons, List.any_nil, eqV, Bool.or_false, Bool.not_eq_false', Bool.or_eq_true, beq_iff_eq]
          omega
        rw [if_pos rfl, eN]
        refine iteF ⟨smu, ?_⟩
        rw [close_no e]
        exact su _ _ hL
      · have eN : (!inV (V.int ((0 : Int) + (i : Nat))) [V.int (l : Int), V.int (m : Int)]) = true := by
          unfold inV
          simp only [List.any_cons, List.any_nil, eqV, Bool.or_false, Bool.not_eq_true', Bool.or_eq_false_iff, beq_eq_false_iff_ne]
          omega
        rw [if_pos rfl, eN]
        refine iteT ⟨_, rfl, _, su _ _ hL, ?_, fun b o e => ?_, ?_⟩
        · rw [List.length_map, sizeLine_eq]
          have := close_len l m i
          omega
        · rw [upd_ne (ne_of_none e hD)]
          exact smu b o e
        · rw [upd_same, close_yes (fun z => e (.inl z)) (fun z => e (.inr z)), List.map_append]
          rfl
    rintro H1 ⟨s1, hL⟩
    rw [Int.toNat_natCast] at hL
    refine ⟨_, rfl, r, C, dx, _, _, rfl, s1 _ _ h1, T.cl, T.nL, rfl, _, rfl, n, l, rfl, by omega, by omega, _, rfl, r, C, dx, _, _, rfl, s1 _ _ h1, T.cl, T.nL, rfl, _, rfl, n, m, rfl, by omega, by omega, _, _, rfl, rfl, ?_⟩
    refine ⟨_, rfl, r, C, dx, _, _, rfl, s1 _ _ h1, T.cl, T.nL, rfl, _, rfl, n, D, closeLegs l m n, 0, rfl, SqL.of hL, c2, fun H2 z s2 hz => ?_⟩
    have s02 : ∀ b o, H b = some o → H2 b = some o := fun b o e => s2 b o (s1 b o e)
    refine ⟨_, rfl, r, C, dx, _, _, rfl, s02 _ _ h1, T.cl, T.nP, rfl, _, rfl, z, rfl, ⟨_, SqL.of hz⟩, fun D2 hD2 => lc_list (K := K) (a := z) (xs := (closeIdx n l m).map V.int) (fun i H' => H' = upd H2 D2 (.lst ((((closeIdx n l m).take i).map fun z => (pickF ns z + pickF ns (z + bothF n l m)).fmod p).map V.int))) rfl ?_ ?_ ?_⟩
    · rintro i H' _ rfl
      exact SqL.of (new_same hD2 _ _ hz)
    · rintro i x H' hx rfl
      obtain ⟨y, rfl, hy⟩ := at_ints hx
      obtain ⟨y0, y1, y2, y3⟩ := c3 y (List.mem_of_getElem? hy)
      have hi := (List.getElem?_eq_some_iff.mp hy).1
      have cl : (closeIdx n l m).length = 2 ^ (n - 2) := by
        unfold closeIdx idxF
        rw [sums_len, List.length_map, c1]
      have p8 : (2 : Nat) ^ (n - 2) ≤ 256 := pow8 (by omega)
      refine ⟨rfl, tyes ?_⟩
      refine ⟨_, rfl, r, C, dx, _, _, rfl, new_same hD2 _ _ (s02 _ _ h1), T.cl, T.nT, rfl, _, rfl, t, _, y, _, rfl, rfl, SqT.of (new_same hD2 _ _ (s02 _ _ h2)), at_pick y0 (by rw [ok.len]; exact y2), ?_⟩
      refine ⟨_, rfl, r, C, dx, _, _, rfl, new_same hD2 _ _ (s02 _ _ h1), T.cl, T.nT, rfl, _, rfl, _, rfl, _, _, rfl, rfl, t, _, _, _, rfl, rfl, SqT.of (new_same hD2 _ _ (s02 _ _ h2)), at_pick y1 (by rw [ok.len]; exact y3), _, _, rfl, rfl, ?_⟩
      refine ⟨_, rfl, r, C, dx, _, _, rfl, new_same hD2 _ _ (s02 _ _ h1), T.cl, T.nP, rfl, _, _, rfl, rfl, by omega, _, upd_same, ?_, ?_⟩
      · rw [List.length_map, List.length_map, List.length_take, sizeLine_eq]
        omega
      · rw [upd_upd, take_more hy, List.map_append, List.map_append]
        rfl
    · rintro H' rfl
      rw [List.length_map, List.take_length]
      exact made (closeF_ok ok hl hm ne) upd_same fun H' q0 s' r' => k H' q0 (fun b o e => s' b o (new_same hD2 b o (s02 b o e))) r'
end
end K
end
section
set_option linter.all false
set_option maxRecDepth 100000
set_option maxHeartbeats 4000000
namespace K
open PySem PySem.Spec PyProof.Rows L2 Ob
def joinF (p : Int) (a b : List (Int × Int)) : List Int := a.flatMap fun x => b.map fun y => (x.1 * y.1 + x.2 * y.2).fmod p
theorem rowF_len {ns : List Int} {n l : Nat} : (rowF ns n l).length = 2 ^ (n - 1) := by
  unfold rowF
  rw [List.length_map, rowIdx_len]
theorem joinF_ok {p : Int} {n m l s : Nat} {ns ms : List Int} (a : RuleOk p n ns) (b : RuleOk p m ms) (hl : l < n) (hs : s < m) (h : n + m ≤ 10) : RuleOk p (n + m - 2) (joinF p (rowF ns n l) (rowF ms m s)) := by
  have hp := a.least
  refine ⟨a.prime, by omega, ?_, fun x hx => ?_⟩
  · unfold joinF
    rw [flat_len, rowF_len, rowF_len, ← Nat.pow_add]
    exact congrArg (fun k => 2 ^ k) (by omega)
  · obtain ⟨y, _, hy⟩ := List.mem_flatMap.mp hx
    obtain ⟨z, _, rfl⟩ := List.mem_map.mp hy
    rw [Int.fmod_eq_emod_of_nonneg _ (by omega)]
    exact ⟨Int.emod_nonneg _ (by omega), Int.emod_lt_of_pos _ (by omega)⟩
theorem row_field {p : Int} {n l : Nat} {ns : List Int} (ok : RuleOk p n ns) (hl : l < n) : ∀ x ∈ rowF ns n l, (0 ≤ x.1 ∧ x.1 < p) ∧ 0 ≤ x.2 ∧ x.2 < p := by
  intro x hx
  obtain ⟨z, hz, rfl⟩ := List.mem_map.mp hx
  obtain ⟨_, _, o3⟩ := row_ok ok.eight hl
  obtain ⟨z0, z1, z2, z3⟩ := o3 z hz
  exact ⟨ok.field _ (pick_mem z0 (by rw [ok.len]; exact z2)), ok.field _ (pick_mem z1 (by rw [ok.len]; exact z3))⟩
theorem pairs_at {H : Hp} {q : Addr} {prs : List (Int × Int)} (h : PairsAt H q prs) : ∃ ts : List Addr, ts.length = prs.length ∧ H q = some (.lst (ts.map V.ref)) ∧ ∀ (i : Nat) (x : V), (ts.map V.ref)[i]? = some x → ∃ t pr, x = V.ref t ∧ prs[i]? = some pr ∧ H t = some (.tup [.int pr.1, .int pr.2]) := by
  obtain ⟨ts, a, b, c⟩ := h
  refine ⟨ts, a, b, fun i x hx => ?_⟩
  rw [List.getElem?_map] at hx
  cases e : ts[i]? with
  | none =>
    rw [e] at hx
    cases hx
  | some t =>
    rw [e] at hx
    obtain ⟨pr, e1, e2⟩ := c i t e
    exact ⟨t, pr, (Option.some.inj hx).symm, e1, e2⟩
section
variable {P : Program} {w : World} {K : PySem.W.Frag} {mg : Str → Option Value} {base : Heap} {C CN CR CT fI : Addr} {fdI : FuncData}
/-- the comprehension, its state a letter -/
theorem join_comp {mg : Str → Option Value} {σ : L2.St} {H3 : Hp} {r q1 q2 dx t : Addr} {p : Int} {n : Nat} {A B : List (Int × Int)} {Q : VK} (T : RuleC K mg C) (hl : σ.length = 10) (v0 : Sl σ 0 (.ref r)) (v4 : Sl σ 4 (.ref q1)) (v5 : Sl σ 5 (.ref q2))
    (h1 : H3 r = some (.ins C dx [("prime", .int p), ("legs", .int n), ("table", .ref t)])) (hp : 3 ≤ p ∧ p ≤ 97) (p1 : PairsAt H3 q1 A) (p2 : PairsAt H3 q2 B) (lA : A.length ≤ 256) (lB : B.length ≤ 256) (fA : ∀ x ∈ A, (0 ≤ x.1 ∧ x.1 < p) ∧ 0 ≤ x.2 ∧ x.2 < p) (fB : ∀ x ∈ B, (0 ≤ x.1 ∧ x.1 < p) ∧ 0 ≤ x.2 ∧ x.2 < p)
    (k : ∀ D, H3 D = none → Q (.ref D) (upd H3 D (.lst ((joinF p A B).map V.int)))) :
    tLc2 (iList K (tVar 4)) (gTup K 2 (gCons (gName 6) (gCons (gName 7) gNil))) tYes (iList K (tVar 5)) (gTup K 2 (gCons (gName 8) (gCons (gName 9) gNil))) tYes
      (tOp (rI (fun _ j => j ≠ 0) fun i j => V.int (i.fmod j)) (tOp (rI0 fun i j => V.int (i + j)) (tOp (rI CMul fun i j => V.int (i * j)) (tVar 6) (tVar 8)) (tOp (rI CMul fun i j => V.int (i * j)) (tVar 7) (tVar 9))) (tFld K (tVar 0) "prime")) [6, 7, 8, 9] [8, 9] σ H3 Q := by
  obtain ⟨ts, tl, tat, tb⟩ := pairs_at p1
  obtain ⟨us, ul, uat, ub⟩ := pairs_at p2
  refine ⟨_, v4, q1, rfl, ⟨_, SqL.of tat⟩, fun D hD => ?_⟩
  refine go_walk (walk_list (K := K) (a := q1) (xs := ts.map V.ref)) (fun i H' => H' = upd H3 D (.lst (((A.take i).flatMap fun x => B.map fun y => (x.1 * y.1 + x.2 * y.2).fmod p).map V.int))) rfl ?_ ?_ ?_
  · rintro i H' _ rfl
    exact SqL.of (new_same hD _ _ tat)
  · rintro i z H' H'' hi rfl ⟨rfl, hz⟩
    obtain ⟨t', pr, rfl, hpr, ht'⟩ := tb i z hz
    have fx := fA pr (List.mem_of_getElem? hpr)
    refine ⟨t', _, rfl, SqT.of (new_same hD _ _ ht'), rfl, _, _, rfl, _, _, rfl, rfl, ?_⟩
    refine ⟨wipe_2, tyes ?_⟩
    have w0 : Sl (((wipe σ [6, 7, 8, 9]).set 6 (some (V.int pr.1))).set 7 (some (V.int pr.2))) 0 (.ref r) := v0.out.put.put
    have w5 : Sl (((wipe σ [6, 7, 8, 9]).set 6 (some (V.int pr.1))).set 7 (some (V.int pr.2))) 5 (.ref q2) := v5.out.put.put
    have w6 : Sl (((wipe σ [6, 7, 8, 9]).set 6 (some (V.int pr.1))).set 7 (some (V.int pr.2))) 6 (.int pr.1) := (Sl.here (by rw [wipe_length]; omega)).put
    have w7 : Sl (((wipe σ [6, 7, 8, 9]).set 6 (some (V.int pr.1))).set 7 (some (V.int pr.2))) 7 (.int pr.2) := Sl.here (by rw [List.length_set, wipe_length]; omega)
    have wl : (((wipe σ [6, 7, 8, 9]).set 6 (some (V.int pr.1))).set 7 (some (V.int pr.2))).length = 10 := set_len (set_len (wipe_len hl))
    show iList K (tVar 5) (((wipe σ [6, 7, 8, 9]).set 6 (some (V.int pr.1))).set 7 (some (V.int pr.2))) _ _
    generalize ((wipe σ [6, 7, 8, 9]).set 6 (some (V.int pr.1))).set 7 (some (V.int pr.2)) = τ at w0 w5 w6 w7 wl ⊢
    refine ⟨_, w5, q2, rfl, ⟨_, SqL.of (new_same hD _ _ uat)⟩, ?_⟩
    refine go_walk (walk_list (K := K) (a := q2) (xs := us.map V.ref)) (fun j H2 => H2 = upd H3 D (.lst ((((A.take i).flatMap fun x => B.map fun y => (x.1 * y.1 + x.2 * y.2).fmod p) ++ (B.take j).map fun y => (pr.1 * y.1 + pr.2 * y.2).fmod p).map V.int))) ?_ ?_ ?_ ?_
    · rw [List.take_zero, List.map_nil, List.append_nil]
    · rintro j H2 _ rfl
      exact SqL.of (new_same hD _ _ uat)
    · rintro j z2 H2 H4 hj rfl ⟨rfl, hz2⟩
      obtain ⟨u', pw, rfl, hpw, hu'⟩ := ub j z2 hz2
      have fy := fB pw (List.mem_of_getElem? hpw)
      refine ⟨u', _, rfl, SqT.of (new_same hD _ _ hu'), rfl, _, _, rfl, _, _, rfl, rfl, ?_⟩
      refine ⟨wipe_2, tyes ?_⟩
      refine ⟨_, w6.out.put.put, _, (Sl.here (by rw [wipe_length]; omega)).put, _, _, rfl, rfl, .inl ⟨by omega, by omega⟩, _, w7.out.put.put, _, Sl.here (by rw [List.length_set, wipe_length]; omega), _, _, rfl, rfl, .inl ⟨by omega, by omega⟩, _, _, rfl, rfl, _, w0.out.put.put, r, C, dx, _, _, rfl, new_same hD _ _ h1, T.cl, T.nP, rfl, _, _, rfl, rfl, by omega, _, upd_same, ?_, ?_⟩
      · rw [List.length_map, List.length_append, flat_len, List.length_map, List.length_take, List.length_take, sizeLine_eq]
        have : min i A.length * B.length ≤ 256 * 256 := Nat.mul_le_mul (by omega) lB
        omega
      · rw [upd_upd, take_more hpw, List.map_append (f := fun y : Int × Int => (pr.1 * y.1 + pr.2 * y.2).fmod p), ← List.append_assoc, List.map_append (f := V.int) (l₂ := List.map (fun y : Int × Int => (pr.1 * y.1 + pr.2 * y.2).fmod p) [pw])]
        rfl
    · rintro H2 rfl
      rw [List.length_map, ul, List.take_length, flat_more hpr]
  · rintro H' rfl
    rw [List.length_map, tl, List.take_length]
    exact k D hD
def spJoined (K : PySem.W.Frag) (C CN CR CT : Addr) : Sp := fun vs H Q E => ∃ x y z u o1, vs = [x, y, z, u] ∧ RArg K C H x o1 ∧
  ((o1 = none ∧ Raised CR "part" .non H E) ∨
   (∃ p n ns o2, o1 = some (p, n, ns) ∧ RArg K C H z o2 ∧
    ((o2 = none ∧ Raised CR "part" .non H E) ∨
     (∃ p2 m ms oy, o2 = some (p2, m, ms) ∧ Thing K H y oy ∧
      ((within oy 0 ((n : Int) - 1) = false ∧ Raised CN "part" (.str "leg") H E) ∨
       (∃ l : Nat, oy = some (l : Int) ∧ l < n ∧
        ((p2 ≠ p ∧ Raised CR "part" (.str "other") H E) ∨
         (p2 = p ∧ ∃ ou, Thing K H u ou ∧
          ((within ou 0 ((m : Int) - 1) = false ∧ Raised CN "part" (.str "place") H E) ∨
           (∃ s : Nat, ou = some (s : Int) ∧ s < m ∧
            ((10 < n + m ∧ Raised CT "most" (.int 8) H E) ∨
             (n + m ≤ 10 ∧ RuleOk p n ns ∧ RuleOk p m ms ∧ ∀ H' q, Same H H' → RuleAt C H' q p (n + m - 2) (joinF p (rowF ns n l) (rowF ms m s)) → Q (.ref q) H'))))))))))))
theorem scJoined : FnScope ["rule", "leg", "other", "place", "firsts", "seconds", "x", "y", "v", "w"] ["rule", "leg", "other", "place"] (defScope sJoined) := ⟨rfl, rfl, rfl, by decide +kernel, rfl, by decide +kernel, by decide +kernel⟩
theorem ok_joined {f fW fR : Addr} {fd fdW fdR : FuncData} (F : Fun K "joined" "joined" sJoined f fd) (L : Low P w K mg base C CN fI fdI) (TR : Err P K mg "BadRule" CR "part") (TT : Err P K mg "TooMany" CT "most")
    (GW : FnOk P w K mg base (L2.CX P w) 3 fW fdW ["rule"] (spWant K C CR)) (bW : Binds K fdW ["rule"] []) (gW : mg "want_rule" = some (.ref fW)) (kW : PySem.W.keepIn K (.ref fW) = true)
    (GR : FnOk P w K mg base CX0 3 fR fdR ["rule", "leg"] (spRows C)) (bR : Binds K fdR ["rule", "leg"] []) (gR : mg "rows_by_bit" = some (.ref fR)) (kR : PySem.W.keepIn K (.ref fR) = true) :
    FnOk P w K mg base (L2.CX P w) 8 f fd ["rule", "leg", "other", "place"] (spJoined K C CN CR CT) := by
  have T := L.MR.T
  obtain ⟨fL, dL, GL, bL, gL, kL⟩ := L.leg
  obtain ⟨tM, gM⟩ := L.most
  refine F.okX scJoined (fun vs H Q E h => ?_) (fun cdv A outer s H vs Q E hr h => ?_)
  · obtain ⟨x, y, z, u, o1, rfl, _⟩ := h
    rfl
  · obtain ⟨x, y, z, u, o1, rfl, a1, q⟩ := h
    refine ⟨_, pss_cons (ps_expr (pe_call (E := E) GW (hr.mono (by decide)) rfl gW kW bW .nil (passE (takes_of rfl rfl rfl rfl)) (pa_cons (pv 0) pa_nil)))
      (pss_cons (ps_expr (pe_call (E := E) GW (hr.mono (by decide)) rfl gW kW bW .nil (passE (takes_of rfl rfl rfl rfl)) (pa_cons (pv 2) pa_nil)))
      (pss_cons (ps_expr (pe_call (E := E) GL (hr.mono (by decide)) rfl gL kL bL .nil (passE (takes_of rfl rfl rfl rfl)) (by exact pa_cons (pv 0) (pa_cons (pv 1) (pa_cons pe_str pa_nil)))))
      (pss_cons (ps_if (pt_cmpR op_ne (pe_fld (pv 2) rfl) (pe_fld (pv 0) rfl) (nomark _)) (pss_one (ps_raise rfl (takes_of rfl rfl rfl rfl) (pmk_err TR (hr.mono (by decide)) rfl (by exact pa_cons pe_str pa_nil)))) pss_nil)
      (pss_cons (ps_expr (pe_call (E := E) GL (hr.mono (by decide)) rfl gL kL bL .nil (passE (takes_of rfl rfl rfl rfl)) (by exact pa_cons (pv 2) (pa_cons (pv 3) (pa_cons pe_str pa_nil)))))
      (pss_cons (ps_if (pt_cmpR op_gt (pe_op op_sub (pe_op op_add (pe_fld (pv 0) rfl) (pe_fld (pv 2) rfl)) pe_int) (pe_glob (v := .int 8) (by rfl) gM ⟨_, rfl⟩) (nomark _))
        (pss_one (ps_raise rfl (takes_of rfl rfl rfl rfl) (pmk_err TT (hr.mono (by decide)) rfl (by exact pa_cons (pe_glob (v := .int 8) (by rfl) gM ⟨_, rfl⟩) pa_nil)))) pss_nil)
      (pss_cons (ps_asg (pe_tup (pa_cons (pe_call GR (hr.mono (by decide)) rfl gR kR bR .nil pass0 (pa_cons (pv 0) (pa_cons (pv 1) pa_nil))) (pa_cons (pe_call GR (hr.mono (by decide)) rfl gR kR bR .nil pass0 (pa_cons (pv 2) (pa_cons (pv 3) pa_nil))) pa_nil)))
        (pg_tup rfl (pgs_cons (pg_name (i := 4) scJoined.nd rfl (Or.inl rfl)) (pgs_cons (pg_name (i := 5) scJoined.nd rfl (Or.inr rfl)) pgs_nil))))
      (pss_one (ps_ret (pe_make L.MR.M L.MR.G hr rfl T.g L.MR.b .nil pass0 (by exact pa_cons (pe_fld (pv 0) rfl) (pa_cons
        (pe_lc2 (own := [("x", 6), ("y", 7), ("v", 8), ("w", 9)]) (vs1 := [8, 9]) (g := gTup K 2 (gCons (gName 6) (gCons (gName 7) gNil))) (g1 := gTup K 2 (gCons (gName 8) (gCons (gName 9) gNil))) (tt := tYes) (tt1 := tYes) (wi1 := iList K (tVar 5)) rfl scJoined.nd (pi_list (pv 4)) (blkOk_by (N := ["rule", "leg", "other", "place", "firsts", "seconds", "x", "y", "v", "w"]) (sc := defScope sJoined) (by decide +kernel)) (by decide)
          (fun _ _ _ _ _ => by exact pg_tup rfl (pgs_cons (pg_name (i := 6) scJoined.nd rfl (Or.inl rfl)) (pgs_cons (pg_name (i := 7) scJoined.nd rfl (Or.inl rfl)) pgs_nil))) (fun _ _ _ _ _ => pts_nil) (fun _ _ _ _ _ => by exact pi_list (pv 5)) (fun _ _ _ _ _ => by exact pg_tup rfl (pgs_cons (pg_name (i := 8) scJoined.nd rfl (Or.inl rfl)) (pgs_cons (pg_name (i := 9) scJoined.nd rfl (Or.inl rfl)) pgs_nil))) (fun _ _ _ _ _ => pts_nil)
          (fun _ _ _ _ _ => pe_op op_modN (pe_op op_add (pe_op op_mul (pv 6) (pv 8)) (pe_op op_mul (pv 7) (pv 9))) (by exact (show PE _ _ (tFld K (tVar 0) "prime") from pe_fld (pv 0) rfl)))) pa_nil))))))))))), ?_⟩
    refine ⟨_, rfl, x, o1, rfl, a1, ?_⟩
    rcases q with ⟨e, q⟩ | ⟨p, n, ns, o2, rfl, a2, q⟩
    · exact .inr ⟨e, q⟩
    refine .inl ⟨rfl, ?_⟩
    refine ⟨_, rfl, z, o2, rfl, a2, ?_⟩
    rcases q with ⟨e, q⟩ | ⟨p2, m, ms, oy, rfl, hy, q⟩
    · exact .inr ⟨e, q⟩
    refine .inl ⟨rfl, ?_⟩
    cases a1 with
    | @rule r p n ns hR =>
    cases a2 with
    | @rule r2 p2 m ms hR2 =>
    obtain ⟨dx, t, h1, h2⟩ := id hR.ex
    obtain ⟨dy, t2, h3, h4⟩ := id hR2.ex
    refine ⟨_, rfl, _, rfl, r, y, oy, "leg", p, n, ns, rfl, hR, hy, by decide, ?_⟩
    rcases q with ⟨e, q⟩ | ⟨l, rfl, hl, q⟩
    · exact .inr ⟨e, q⟩
    refine .inl ⟨within_yes hl, ?_⟩
    refine ⟨_, rfl, r2, C, dy, _, _, rfl, h3, T.cl, T.nP, rfl, _, rfl, r, C, dx, _, _, rfl, h1, T.cl, T.nP, rfl, rfl, _, rfl, ?_⟩
    rcases q with ⟨ne, q⟩ | ⟨rfl, ou, hu, q⟩
    · rw [decide_eq_false fun z => ne (by injection z)]
      exact iteT ⟨_, rfl, fun _ _ _ _ => fmt_str (by decide), fun d hd => q d hd⟩
    rw [decide_eq_true rfl]
    refine iteF ?_
    refine ⟨_, rfl, _, rfl, r2, u, ou, "place", p2, m, ms, rfl, hR2, hu, by decide, ?_⟩
    rcases q with ⟨e, q⟩ | ⟨s', rfl, hs, q⟩
    · exact .inr ⟨e, q⟩
    refine .inl ⟨within_yes hs, ?_⟩
    refine ⟨_, rfl, r, C, dx, _, _, rfl, h1, T.cl, T.nL, rfl, _, rfl, r2, C, dy, _, _, rfl, h3, T.cl, T.nL, rfl, _, _, rfl, rfl, _, _, rfl, rfl, _, _, rfl, rfl, _, rfl, ?_⟩
    rcases q with ⟨h10, q⟩ | ⟨h10, okA, okB, k⟩
    · rw [decide_eq_true (show (8 : Int) < (n : Int) + (m : Int) - 2 by omega)]
      exact iteT ⟨_, rfl, fun _ _ _ _ => fmt_eight, fun d hd => q d hd⟩
    rw [decide_eq_false (show ¬ (8 : Int) < (n : Int) + (m : Int) - 2 by omega)]
    refine iteF ?_
    have hp := okA.least
    cases hy with
    | num =>
    cases hu with
    | num =>
    refine ⟨_, rfl, _, rfl, r, p2, n, ns, l, rfl, hR, okA, hl, fun H1 q1 s1 hq1 => ?_⟩
    refine ⟨_, rfl, _, rfl, r2, p2, m, ms, s', rfl, hR2.same s1, okB, hs, fun H2 q2 s2 hq2 => ?_⟩
    refine ⟨(show 2 ≤ sizeLine by rw [sizeLine_eq]; decide), fun v hv => ?_⟩
    have sv := new_same (o := .tup [.ref q1, .ref q2]) hv
    have av : upd H2 v (.tup [.ref q1, .ref q2]) v = some _ := upd_same
    have s03 : ∀ b o, H b = some o → upd H2 v (.tup [.ref q1, .ref q2]) b = some o := fun b o e => sv b o (s2 b o (s1 b o e))
    have p1 : PairsAt (upd H2 v (.tup [.ref q1, .ref q2])) q1 (rowF ns n l) := hq1.same fun b o e => sv b o (s2 b o e)
    have p2' : PairsAt (upd H2 v (.tup [.ref q1, .ref q2])) q2 (rowF ms m s') := hq2.same sv
    generalize upd H2 v (.tup [.ref q1, .ref q2]) = H3 at s03 av p1 p2' ⊢
    refine ⟨v, _, rfl, SqT.of av, rfl, _, _, rfl, _, _, rfl, rfl, ?_⟩
    have lA : (rowF ns n l).length ≤ 256 := by rw [rowF_len]; exact pow8 (by have := okA.eight; omega)
    have lB : (rowF ms m s').length ≤ 256 := by rw [rowF_len]; exact pow8 (by have := okB.eight; omega)
    have fA := row_field okA hl
    have fB := row_field okB hs
    refine ⟨_, rfl, r, C, dx, _, _, rfl, s03 _ _ h1, T.cl, T.nP, rfl, ?_⟩
    refine join_comp T rfl rfl rfl rfl (s03 _ _ h1) hp p1 p2' lA lB fA fB fun D hD => ?_
    exact made (joinF_ok okA okB hl hs h10) upd_same fun H' q0 s' r' => k H' q0 (fun b o e => s' b o (new_same hD b o (s03 b o e))) r'
end
end K
end
section
set_option linter.all false
set_option maxRecDepth 100000
set_option maxHeartbeats 8000000
namespace K
open PySem PySem.Spec PyProof.Rows L2 Ob
section
variable {P : Program} {w : World} {K : PySem.W.Frag} {mg : Str → Option Value} {base : Heap} {C : Addr}
def numF (bs : List Int) : Int := bs.foldl (fun f b => 2 * f + b) 0
def spNumber (K : PySem.W.Frag) : Sp := fun vs H Q _ => ∃ (a : Addr) (bs : List Int), vs = [.ref a] ∧ (SqL K H a (bs.map V.int) ∨ SqT K H a (bs.map V.int)) ∧ Q (.int (numF bs)) H
theorem scNumber : FnScope ["bits", "found", "bit"] ["bits"] (defScope sLNumber) := ⟨rfl, rfl, rfl, by decide +kernel, rfl, by decide +kernel, by decide +kernel⟩
theorem num_more {bs : List Int} {i : Nat} {b : Int} (h : bs[i]? = some b) : numF (bs.take (i + 1)) = 2 * numF (bs.take i) + b := by
  rw [take_more h]
  unfold numF
  rw [List.foldl_append]
  rfl
theorem ok_number {f : Addr} {fd : FuncData} (F : Fun K "_law_number" "_law_number" sLNumber f fd) : FnOk P w K mg base CX0 1 f fd ["bits"] (spNumber K) := by
  refine F.ok scNumber (fun vs H Q E h => ?_) (fun cdv A outer s H vs Q E hr h => ?_)
  · obtain ⟨a, bs, rfl, _⟩ := h
    rfl
  · obtain ⟨a, bs, rfl, hS, k⟩ := h
    refine ⟨_, PSs.nox (pss_cons (ps_set (i := 1) scNumber.nd rfl (Or.inl rfl) pe_int)
      (pss_cons (ps_for PassesOwn.never rfl (pi_or (pi_list (pv 0)) (pi_tup (pv 0))) (pg_name (i := 2) scNumber.nd rfl (Or.inl rfl)) (pss_one (ps_set (i := 1) scNumber.nd rfl (Or.inl rfl) (pe_op op_add (pe_op op_mul pe_int (pv 1)) (pv 2)))))
      (pss_one (ps_ret (pv 1))))), ?_⟩
    have turn : ∀ (i : Nat) (x : V) (σ : L2.St) (H1 H2 : Hp), i < (bs.map V.int).length → (∃ v2, σ = [some (.ref a), some (.int (numF (bs.take i))), v2] ∧ H1 = H) → YAt (bs.map V.int) i H1 x H2 → ∀ D : Ends,
        (∀ σ' H', (∃ v2, σ' = [some (.ref a), some (.int (numF (bs.take (i + 1)))), v2] ∧ H' = H) → D.nx σ' H') → gName 2 x σ H2 fun σ2 H2 => tAsg (tOp (rI0 fun i j => V.int (i + j)) (tOp (rI (fun i j => -(2 ^ 64) < i ∧ i < 2 ^ 64 ∨ -(2 ^ 64) < j ∧ j < 2 ^ 64) fun i j => V.int (i * j)) (tC (.int 2)) (tVar 1)) (tVar 2)) (gName 1) D σ2 H2 := by
      rintro i x σ H1 H2 hi ⟨v2, rfl, rfl⟩ ⟨rfl, hx⟩ D hD
      obtain ⟨z, rfl, hz⟩ := at_ints hx
      refine ⟨_, rfl, 2, _, rfl, rfl, .inl ⟨by decide, by decide⟩, _, rfl, _, _, rfl, rfl, ?_⟩
      refine hD _ _ ⟨some (.int z), ?_, rfl⟩
      rw [num_more hz]
      rfl
    have fin : ∀ (σ : L2.St) (H1 : Hp), (∃ v2, σ = [some (.ref a), some (.int (numF (bs.take (bs.map V.int).length))), v2] ∧ H1 = H) → ∃ v, σ[1]? = some (some v) ∧ Q v H1 := by
      rintro σ H1 ⟨v2, rfl, rfl⟩
      rw [List.length_map, List.take_length]
      exact ⟨_, rfl, k⟩
    rcases hS with hS | hS
    · exact .inl ⟨_, rfl, a, rfl, ⟨_, hS⟩, for_it (walk_list (K := K) (a := a) (xs := bs.map V.int)) (fun i σ H' => ∃ v2, σ = [some (.ref a), some (.int (numF (bs.take i))), v2] ∧ H' = H) ⟨none, rfl, rfl⟩ (fun i σ H' _ ⟨_, _, e⟩ => e ▸ hS) (fun i x σ H1 H2 hi p y => turn i x σ H1 H2 hi p y _ fun σ' H' q => q) fin⟩
    · exact .inr ⟨_, rfl, a, rfl, ⟨_, hS⟩, for_it (walk_tup (K := K) (a := a) (xs := bs.map V.int)) (fun i σ H' => ∃ v2, σ = [some (.ref a), some (.int (numF (bs.take i))), v2] ∧ H' = H) ⟨none, rfl, rfl⟩ (fun i σ H' _ ⟨_, _, e⟩ => e ▸ hS) (fun i x σ H1 H2 hi p y => turn i x σ H1 H2 hi p y _ fun σ' H' q => q) fin⟩
end
end K
end
section
set_option linter.all false
set_option maxRecDepth 100000
set_option maxHeartbeats 8000000
/-! sums gathered step by step in a list of zeros -/
namespace K
open PySem PySem.Spec PyProof.Rows L2 Ob
def addAt (p : Int) (acc : List Int) (i : Nat) (v : Int) : List Int := acc.set i ((acc.getD i 0 + v).fmod p)
def runF {α : Type} (p : Int) (val : α → Int) (N : Nat) (ops : List (Nat × α)) : List Int := ops.foldl (fun acc op => addAt p acc op.1 (val op.2)) (List.replicate N 0)
theorem run_more {α : Type} {p : Int} {val : α → Int} {N : Nat} {ops : List (Nat × α)} {op : Nat × α} : runF p val N (ops ++ [op]) = addAt p (runF p val N ops) op.1 (val op.2) := by
  unfold runF
  rw [List.foldl_append]
  rfl
theorem run_len {α : Type} {p : Int} {val : α → Int} {N : Nat} (ops : List (Nat × α)) : (runF p val N ops).length = N := by
  have key : ∀ (ops : List (Nat × α)) (acc : List Int), (ops.foldl (fun acc op => addAt p acc op.1 (val op.2)) acc).length = acc.length := by
    intro ops
    induction ops with
    | nil => intro acc; rfl
    | cons o ops ih =>
      intro acc
      rw [List.foldl_cons, ih]
      unfold addAt
      rw [List.length_set]
  unfold runF
  rw [key, List.length_replicate]
def sumF {α : Type} (p : Int) (val : α → Int) (xs : List α) : Int := xs.foldl (fun a x => (a + val x).fmod p) 0
/-- what stands at a place: the sum of what was led there -/
theorem run_get {α : Type} {p : Int} {val : α → Int} {N : Nat} (ops : List (Nat × α)) (i : Nat) (hi : i < N) : (runF p val N ops).getD i 0 = sumF p val ((ops.filter fun o => o.1 == i).map (·.2)) := by
  have key : ∀ (ops : List (Nat × α)) (acc : List Int), i < acc.length → (ops.foldl (fun acc op => addAt p acc op.1 (val op.2)) acc).getD i 0 = ((ops.filter fun o => o.1 == i).map (·.2)).foldl (fun a x => (a + val x).fmod p) (acc.getD i 0) := by
    intro ops
    induction ops with
    | nil => intro acc _; rfl
    | cons o ops ih =>
      intro acc hl
      rw [List.foldl_cons, ih _ (by unfold addAt; rw [List.length_set]; exact hl), List.filter_cons]
      by_cases e : o.1 = i
      · rw [if_pos (by rw [e]; exact beq_self_eq_true i), List.map_cons, List.foldl_cons]
        congr 1
        unfold addAt
        rw [e, List.getD_eq_getElem?_getD, List.getElem?_set_self hl]
        rfl
      · rw [if_neg (by rw [beq_iff_eq]; exact e)]
        congr 1
        unfold addAt
        rw [List.getD_eq_getElem?_getD, List.getElem?_set_ne e, ← List.getD_eq_getElem?_getD]
  unfold runF sumF
  rw [key ops _ (by rw [List.length_replicate]; exact hi)]
  congr 1
  rw [List.getD_eq_getElem?_getD, List.getElem?_replicate, if_pos hi]
  rfl
theorem run_eq {α : Type} {p : Int} {val : α → Int} {N : Nat} {ops : List (Nat × α)} {gr : List (List α)} (h : (List.range N).map (fun i => (ops.filter fun o => o.1 == i).map (·.2)) = gr) : runF p val N ops = gr.map (sumF p val) := by
  rw [← h]
  refine List.ext_getElem (by rw [run_len, List.length_map, List.length_map, List.length_range]) fun i h1 h2 => ?_
  have hi : i < N := by rw [run_len] at h1; exact h1
  rw [List.getElem_map, List.getElem_map, List.getElem_range]
  have e := run_get (p := p) (val := val) ops i hi
  rw [List.getD_eq_getElem?_getD, List.getElem?_eq_getElem h1] at e
  exact e
theorem fmod_add2 {p a b : Int} : ((((0 : Int) + a).fmod p) + b).fmod p = (a + b).fmod p := by
  rw [Int.zero_add, Int.fmod_add_fmod]
/-! ### two legs of one rule -/
def closeNum (n l m : Nat) (k : Nat) : Int := numF ((bitsF n k).take l ++ ((bitsF n k).take m).drop (l + 1) ++ (bitsF n k).drop (m + 1))
def closeCond (n l m k : Nat) : Bool := decide (pickF (bitsF n (k : Nat)) (l : Nat) = pickF (bitsF n (k : Nat)) (m : Nat))
def closeOps (n l m i : Nat) : List (Nat × Int) := ((List.range i).filter (closeCond n l m)).map fun k => ((closeNum n l m k).toNat, (k : Int))
theorem closeOps_yes {n l m i : Nat} (h : closeCond n l m i = true) : closeOps n l m (i + 1) = closeOps n l m i ++ [((closeNum n l m i).toNat, (i : Int))] := by
  unfold closeOps
  rw [List.range_succ, List.filter_append, List.map_append, List.filter_cons, if_pos h]
  rfl
theorem closeOps_no {n l m i : Nat} (h : closeCond n l m i = false) : closeOps n l m (i + 1) = closeOps n l m i := by
  unfold closeOps
  rw [List.range_succ, List.filter_append, List.map_append, List.filter_cons, h]
  simp
def closeGr (n l m : Nat) : List (List Int) := (closeIdx n l m).map fun z => [z, z + bothF n l m]
theorem close_dec : ∀ n : Nat, n < 5 → ∀ m : Nat, m < n → ∀ l : Nat, l < m → (List.range (2 ^ (n - 2))).map (fun i => ((closeOps n l m (2 ^ n)).filter fun o => o.1 == i).map (·.2)) = closeGr n l m := by decide +kernel
theorem closeNum_dec : ∀ n : Nat, n < 5 → ∀ m : Nat, m < n → ∀ l : Nat, l < m → ((List.range (2 ^ n)).all fun k => decide (0 ≤ closeNum n l m k ∧ closeNum n l m k < ((2 ^ (n - 2) : Nat) : Int))) = true := by decide +kernel
theorem close_run {p : Int} {n l m : Nat} {ns : List Int} (hn : n < 5) (hm : m < n) (hl : l < m) : runF p (pickF ns) (2 ^ (n - 2)) (closeOps n l m (2 ^ n)) = closeF p ns n l m := by
  rw [run_eq (close_dec n hn m hm l hl)]
  unfold closeGr closeF
  rw [List.map_map]
  refine List.map_congr_left fun z _ => ?_
  exact fmod_add2
/-! ### legs of two rules -/
def joinNum (n l m s : Nat) (k j : Nat) : Int := numF ((bitsF n k).drop (l + 1) ++ (bitsF n k).take l ++ (bitsF m j).drop (s + 1) ++ (bitsF m j).take s)
def joinCond (n l m s k j : Nat) : Bool := decide (pickF (bitsF n (k : Nat)) (l : Nat) = pickF (bitsF m (j : Nat)) (s : Nat))
def joinRow (n l m s k j : Nat) : List (Nat × (Int × Int)) := ((List.range j).filter (joinCond n l m s k)).map fun (j : Nat) => ((joinNum n l m s k j).toNat, ((k : Int), (j : Int)))
def joinOps (n l m s i : Nat) : List (Nat × (Int × Int)) := (List.range i).flatMap fun k => joinRow n l m s k (2 ^ m)
theorem joinRow_yes {n l m s k j : Nat} (h : joinCond n l m s k j = true) : joinRow n l m s k (j + 1) = joinRow n l m s k j ++ [((joinNum n l m s k j).toNat, ((k : Int), (j : Int)))] := by
  unfold joinRow
  rw [List.range_succ, List.filter_append, List.map_append, List.filter_cons, if_pos h]
  rfl
theorem joinRow_no {n l m s k j : Nat} (h : joinCond n l m s k j = false) : joinRow n l m s k (j + 1) = joinRow n l m s k j := by
  unfold joinRow
  rw [List.range_succ, List.filter_append, List.map_append, List.filter_cons, h]
  simp
theorem joinOps_more {n l m s i : Nat} : joinOps n l m s (i + 1) = joinOps n l m s i ++ joinRow n l m s i (2 ^ m) := by
  unfold joinOps
  rw [List.range_succ, List.flatMap_append]
  simp
def joinGr (n l m s : Nat) : List (List (Int × Int)) := (rowIdx n l).flatMap fun z => (rowIdx m s).map fun y => [(z, y), (z + maskF n l, y + maskF m s)]
def joinB (n l m s : Nat) : Bool := (List.range (2 ^ (n + m - 2))).map (fun i => ((joinOps n l m s (2 ^ n)).filter fun o => o.1 == i).map (·.2)) == joinGr n l m s
theorem joinB_dec : ∀ n : Nat, n < 5 → ∀ l : Nat, l < n → ∀ m : Nat, m < 5 → ∀ s : Nat, s < m → joinB n l m s = true := by decide +kernel
theorem join_dec {n l m s : Nat} (hn : n < 5) (hl : l < n) (hm : m < 5) (hs : s < m) : (List.range (2 ^ (n + m - 2))).map (fun i => ((joinOps n l m s (2 ^ n)).filter fun o => o.1 == i).map (·.2)) = joinGr n l m s := eq_of_beq (joinB_dec n hn l hl m hm s hs)
theorem joinNum_dec : ∀ n : Nat, n < 5 → ∀ l : Nat, l < n → ∀ m : Nat, m < 5 → ∀ s : Nat, s < m → ((List.range (2 ^ n)).all fun k => (List.range (2 ^ m)).all fun j => decide (0 ≤ joinNum n l m s k j ∧ joinNum n l m s k j < ((2 ^ (n + m - 2) : Nat) : Int))) = true := by decide +kernel
def mulF (ns ms : List Int) (z : Int × Int) : Int := pickF ns z.1 * pickF ms z.2
theorem join_run {p : Int} {n l m s : Nat} {ns ms : List Int} (hn : n < 5) (hl : l < n) (hm : m < 5) (hs : s < m) : runF p (mulF ns ms) (2 ^ (n + m - 2)) (joinOps n l m s (2 ^ n)) = joinF p (rowF ns n l) (rowF ms m s) := by
  rw [run_eq (join_dec hn hl hm hs)]
  unfold joinGr joinF rowF
  rw [List.map_flatMap, List.flatMap_map]
  refine congrArg (fun f => List.flatMap f (rowIdx n l)) (funext fun z => ?_)
  rw [List.map_map, List.map_map]
  refine List.map_congr_left fun y _ => ?_
  exact fmod_add2
/-! ### turned, beside, closed -/
def wayB (n l m s : Nat) : Bool := ((rowIdx n l).flatMap fun z => (rowIdx m s).map fun y => ((z, y), (z + maskF n l, y + maskF m s))) ==
  (closeIdx (n + m) (n - 1) n).map fun z => ((pickF (idxF n (turnOrder n ((l + 1) % n)) 0) (z / (2 ^ m : Nat)), pickF (idxF m (turnOrder m s) 0) (z % (2 ^ m : Nat))),
    (pickF (idxF n (turnOrder n ((l + 1) % n)) 0) ((z + bothF (n + m) (n - 1) n) / (2 ^ m : Nat)), pickF (idxF m (turnOrder m s) 0) ((z + bothF (n + m) (n - 1) n) % (2 ^ m : Nat))))
theorem way_dec : ∀ n : Nat, n < 5 → ∀ l : Nat, l < n → ∀ m : Nat, m < 5 → ∀ s : Nat, s < m → wayB n l m s = true := by decide +kernel
end K
end
section
set_option linter.all false
set_option maxRecDepth 100000
set_option maxHeartbeats 8000000
namespace K
open PySem PySem.Spec PyProof.Rows L2 Ob
theorem pick_map {ns idx : List Int} {i : Int} (h0 : 0 ≤ i) (h1 : i < (idx.length : Int)) : pickF (idx.map (pickF ns)) i = pickF ns (pickF idx i) := by
  obtain ⟨k, rfl⟩ := Int.eq_ofNat_of_zero_le h0
  have hk : k < idx.length := by omega
  show (idx.map (pickF ns)).getD ((k : Int)).toNat 0 = pickF ns (idx.getD ((k : Int)).toNat 0)
  rw [Int.toNat_natCast, List.getD_eq_getElem?_getD, List.getD_eq_getElem?_getD, List.getElem?_map, List.getElem?_eq_getElem hk]
  rfl
theorem map_getD (f : Int → Int) (ms : List Int) : ms.map f = (List.range ms.length).map fun k => f (ms.getD k 0) := by
  refine List.ext_getElem (by simp) fun i h1 h2 => ?_
  rw [List.length_map] at h1
  rw [List.getElem_map, List.getElem_map, List.getElem_range, List.getD_eq_getElem?_getD, List.getElem?_eq_getElem h1]
  rfl
theorem bes_range {p : Int} {ms : List Int} : ∀ ns : List Int, besF p ns ms = (List.range (ns.length * ms.length)).map fun k => (ns.getD (k / ms.length) 0 * ms.getD (k % ms.length) 0).fmod p
  | [] => by
    rw [List.length_nil, Nat.zero_mul]
    rfl
  | x :: ns => by
    have ih := bes_range (p := p) (ms := ms) ns
    unfold besF at ih ⊢
    rw [List.flatMap_cons, ih, List.length_cons, Nat.succ_mul, Nat.add_comm, List.range_add, List.map_append, map_getD (fun y => (x * y).fmod p) ms]
    by_cases hm : ms.length = 0
    · rw [hm]
      simp
    · have hp : 0 < ms.length := by omega
      congr 1
      · refine List.map_congr_left fun k hk => ?_
        have hk := List.mem_range.mp hk
        rw [Nat.div_eq_of_lt hk, Nat.mod_eq_of_lt hk]
        rfl
      · rw [List.map_map]
        refine List.map_congr_left fun k hk => ?_
        show _ = ((x :: ns).getD ((ms.length + k) / ms.length) 0 * ms.getD ((ms.length + k) % ms.length) 0).fmod p
        rw [Nat.add_div_left _ hp, Nat.add_mod_left]
        rfl
theorem bes_pick {p : Int} {n m : Nat} {ns ms : List Int} (hn : ns.length = 2 ^ n) (hm : ms.length = 2 ^ m) {z : Int} (h0 : 0 ≤ z) (h1 : z < ((2 ^ (n + m) : Nat) : Int)) : pickF (besF p ns ms) z = (pickF ns (z / (2 ^ m : Nat)) * pickF ms (z % (2 ^ m : Nat))).fmod p := by
  obtain ⟨k, rfl⟩ := Int.eq_ofNat_of_zero_le h0
  have hk : k < 2 ^ n * 2 ^ m := by rw [← Nat.pow_add]; omega
  rw [bes_range, hn, hm]
  unfold pickF
  rw [Int.toNat_natCast, List.getD_eq_getElem?_getD, List.getElem?_map, List.getElem?_range hk]
  rw [← Int.natCast_ediv, ← Int.natCast_emod, Int.toNat_natCast, Int.toNat_natCast]
  rfl
theorem way_eq {p : Int} {n l m s : Nat} {ns ms : List Int} (okA : RuleOk p n ns) (okB : RuleOk p m ms) (hn : n < 5) (hl : l < n) (hm : m < 5) (hs : s < m) :
    closeF p (besF p ((idxF n (turnOrder n ((l + 1) % n)) 0).map (pickF ns)) ((idxF m (turnOrder m s) 0).map (pickF ms))) (n + m) (n - 1) n = joinF p (rowF ns n l) (rowF ms m s) := by
  have hw := eq_of_beq (way_dec n hn l hl m hm s hs)
  have l1 : (idxF n (turnOrder n ((l + 1) % n)) 0).length = 2 ^ n := by
    unfold idxF
    rw [sums_len, List.length_map]
    unfold turnOrder
    rw [List.length_map, List.length_range]
  have l2 : (idxF m (turnOrder m s) 0).length = 2 ^ m := by
    unfold idxF
    rw [sums_len, List.length_map]
    unfold turnOrder
    rw [List.length_map, List.length_range]
  have g : joinF p (rowF ns n l) (rowF ms m s) = ((rowIdx n l).flatMap fun z => (rowIdx m s).map fun y => ((z, y), (z + maskF n l, y + maskF m s))).map fun (q : (Int × Int) × (Int × Int)) => (pickF ns q.1.1 * pickF ms q.1.2 + pickF ns q.2.1 * pickF ms q.2.2).fmod p := by
    unfold joinF rowF
    rw [List.map_flatMap, List.flatMap_map]
    refine congrArg (fun f => List.flatMap f (rowIdx n l)) (funext fun z => ?_)
    rw [List.map_map, List.map_map]
    rfl
  rw [g, hw]
  unfold closeF
  rw [List.map_map]
  obtain ⟨_, _, c3⟩ := close_ok (n := n + m) (l := n - 1) (m := n) (by omega) (by omega) (by omega) (by omega)
  refine List.map_congr_left fun z hz => ?_
  obtain ⟨z0, z1, z2, z3⟩ := c3 z hz
  have pm : (0 : Int) < ((2 ^ m : Nat) : Int) := Int.ofNat_lt.mpr (Nat.two_pow_pos _)
  have e1 : ((2 ^ (n + m) : Nat) : Int) = ((2 ^ n : Nat) : Int) * ((2 ^ m : Nat) : Int) := by rw [Nat.pow_add]; exact Int.natCast_mul ..
  have hdiv : ∀ z : Int, 0 ≤ z → z < ((2 ^ (n + m) : Nat) : Int) → (0 ≤ z / ((2 ^ m : Nat) : Int) ∧ z / ((2 ^ m : Nat) : Int) < ((2 ^ n : Nat) : Int)) ∧ 0 ≤ z % ((2 ^ m : Nat) : Int) ∧ z % ((2 ^ m : Nat) : Int) < ((2 ^ m : Nat) : Int) := fun z h0 h1 => by
    refine ⟨⟨Int.ediv_nonneg h0 (by omega), ?_⟩, Int.emod_nonneg _ (by omega), Int.emod_lt_of_pos _ pm⟩
    exact Int.ediv_lt_of_lt_mul pm (by rw [← e1]; exact h1)
  obtain ⟨⟨a1, a2⟩, a3, a4⟩ := hdiv z z0 z2
  obtain ⟨⟨b1, b2⟩, b3, b4⟩ := hdiv _ z1 z3
  show (pickF _ z + pickF _ (z + bothF (n + m) (n - 1) n)).fmod p = _
  rw [bes_pick (n := n) (m := m) (by rw [List.length_map, l1]) (by rw [List.length_map, l2]) z0 z2, bes_pick (n := n) (m := m) (by rw [List.length_map, l1]) (by rw [List.length_map, l2]) z1 z3, Int.fmod_add_fmod, Int.add_fmod_fmod]
  rw [pick_map a1 (by rw [l1]; exact a2), pick_map a3 (by rw [l2]; exact a4), pick_map b1 (by rw [l1]; exact b2), pick_map b3 (by rw [l2]; exact b4)]
  rfl
/-- all ones, joined with a leg put through -/
theorem wide_row : (rowF (List.replicate 256 1) 8 3) = List.replicate 128 (1, 1) := by decide +kernel
theorem wide_row2 : rowF [1, 0, 0, 1] 2 0 = [(1, 0), (0, 1)] := by decide +kernel
theorem wide_join {p : Int} (h : 3 ≤ p) : joinF p (rowF (List.replicate 256 1) 8 3) (rowF [1, 0, 0, 1] 2 0) = List.replicate 256 1 := by
  rw [wide_row, wide_row2]
  have e : (1 : Int).fmod p = 1 := by
    rw [Int.fmod_eq_emod_of_nonneg _ (by omega)]
    exact Int.emod_eq_of_lt (by omega) (by omega)
  have key : ∀ k : Nat, joinF p (List.replicate k (1, 1)) [(1, 0), (0, 1)] = List.replicate (2 * k) 1 := by
    intro k
    induction k with
    | zero => rfl
    | succ k ih =>
      unfold joinF at ih ⊢
      rw [List.replicate_succ, List.flatMap_cons, ih]
      show (1 * 1 + 1 * 0 : Int).fmod p :: (1 * 0 + 1 * 1 : Int).fmod p :: List.replicate (2 * k) 1 = _
      have e2 : (1 * 1 + 1 * 0 : Int) = 1 := by decide
      have e3 : (1 * 0 + 1 * 1 : Int) = 1 := by decide
      rw [e2, e3, e, show 2 * (k + 1) = 2 * k + 1 + 1 by omega, List.replicate_succ, List.replicate_succ]
  exact key 128
end K
end
section
set_option linter.all false
set_option maxRecDepth 100000
set_option maxHeartbeats 4000000
namespace K
open PySem PySem.Spec PyProof.Rows L2 Ob
section
variable {P : Program} {w : World} {K : PySem.W.Frag} {mg : Str → Option Value} {base : Heap} {C CN fI : Addr} {fdI : FuncData}
def spTurned (K : PySem.W.Frag) (C CN : Addr) : Sp := fun vs H Q E => ∃ r x o p n ns, vs = [.ref r, x] ∧ RuleAt C H r p n ns ∧ RuleOk p n ns ∧ Thing K H x o ∧
  ((∃ m : Nat, o = some (m : Int) ∧ m ≤ 8 ∧ ∀ H' q, Same H H' → RuleAt C H' q p n ((idxF n (turnOrder n m) 0).map (pickF ns)) → Q (.ref q) H') ∨ (within o 0 8 = false ∧ Raised CN "part" (.str "many") H E))
theorem scTurned : FnScope ["rule", "many", "k"] ["rule", "many"] (defScope sTurned) := ⟨rfl, rfl, rfl, by decide +kernel, rfl, by decide +kernel, by decide +kernel⟩
theorem ok_turned {f fG : Addr} {fd fdG : FuncData} (F : Fun K "turned" "turned" sTurned f fd) (L : Low P w K mg base C CN fI fdI) (GG : FnOk P w K mg base CX0 8 fG fdG ["rule", "order"] (spRegrouped K C)) (bG : Binds K fdG ["rule", "order"] []) (gG : mg "regrouped" = some (.ref fG)) (kG : PySem.W.keepIn K (.ref fG) = true) :
    FnOk P w K mg base (L2.CX P w) 9 f fd ["rule", "many"] (spTurned K C CN) := by
  have T := L.MR.T
  obtain ⟨fW, dW, GW, bW, gW, kW⟩ := L.want
  obtain ⟨fR, dR, GR, bR, gR, kR⟩ := L.from_
  obtain ⟨tM, gM⟩ := L.most
  refine F.okX scTurned (fun vs H Q E h => ?_) (fun cdv A outer s H vs Q E hr h => ?_)
  · obtain ⟨r, x, o, p, n, ns, rfl, _⟩ := h
    rfl
  · obtain ⟨r, x, o, p, n, ns, rfl, hR, ok, ht, q⟩ := h
    obtain ⟨dx, t, h1, h2⟩ := id hR.ex
    refine ⟨_, pss_cons (ps_expr (pe_call GW (hr.mono (by decide)) rfl gW kW bW .nil pass0 (pa_cons (pv 0) pa_nil)))
      (pss_cons (ps_if (pt_not (pt_val (pe_call GR (hr.mono (by decide)) rfl gR kR bR .nil pass0 (pa_cons (pv 1) (pa_cons pe_int (pa_cons (pe_glob (v := .int 8) (by rfl) gM ⟨_, rfl⟩) pa_nil))))))
        (pss_one (ps_raise rfl (takes_of rfl rfl rfl rfl) (pmk_err L.TN (hr.mono (by decide)) rfl (by exact pa_cons pe_str pa_nil)))) pss_nil)
      (pss_one (ps_ret (pe_call GG hr rfl gG kG bG .nil pass0 (pa_cons (pv 0) (pa_cons
        (pe_lc (own := [("k", 2)]) (g := gName 2) (tt := tYes) rfl scTurned.nd (pi_range1 (by rfl) L.B.range (pa_cons (pe_fld (pv 0) rfl) pa_nil)) (blkOk_by (N := ["rule", "many", "k"]) (sc := defScope sTurned) (by decide +kernel)) (fun _ _ _ _ _ => pg_name (i := 2) scTurned.nd rfl (Or.inl rfl)) (fun _ _ _ _ _ => pts_nil)
          (fun _ _ _ _ _ => pe_op op_modN (pe_op op_add (pv 2) (pv 1)) (by exact (show PE _ _ (tFld K (tVar 0) "legs") from pe_fld (pv 0) rfl)))) pa_nil)))))), ?_⟩
    refine ⟨_, rfl, r, p, n, ns, rfl, hR, ?_⟩
    refine ⟨_, rfl, x, o, 0, 8, rfl, ht, _, rfl, ?_⟩
    rcases q with ⟨m, rfl, m8, q⟩ | ⟨e, q⟩
    · have e : within (some (m : Int)) 0 8 = true := by
        unfold within
        simp only [Option.any_some, Bool.and_eq_true, decide_eq_true_eq]
        omega
      rw [e]
      refine iteF ?_
      cases ht with
      | num =>
        have n5 := ok.eight
        refine ⟨_, rfl, _, rfl, r, C, dx, _, _, rfl, h1, T.cl, T.nL, rfl, n, rfl, by omega, by omega, fun D hD => lc_it walk_range (fun i H' => H' = upd H D (.lst (((List.range i).map fun k => (((0 : Int) + (k : Nat)) + (m : Int)).fmod n).map V.int))) rfl (fun _ _ _ _ => trivial) ?_ ?_⟩
        · rintro i y H' H'' hi rfl ⟨rfl, rfl⟩
          have hi : i < n := by omega
          refine ⟨rfl, ?_⟩
          unfold tYes
          dsimp only
          rw [if_pos rfl]
          refine ⟨_, rfl, _, rfl, _, _, rfl, rfl, _, rfl, r, C, dx, _, _, rfl, new_same hD _ _ h1, T.cl, T.nL, rfl, _, _, rfl, rfl, by omega, _, upd_same, ?_, ?_⟩
          · rw [List.length_map, List.length_map, List.length_range, sizeLine_eq]
            omega
          · rw [upd_upd, List.range_succ, List.map_append, List.map_append]
            rfl
        · rintro H' rfl
          obtain ⟨o1, o2, o3⟩ := order_ok n5 (turn_all n n5 m m8)
          refine ⟨r, D, p, n, ns, turnOrder n m, rfl, hR.same (new_same hD), ok, SqL.of (upd_same.trans ?_), o1, o2, o3, fun H' q0 s' r' => q H' q0 (fun b o z => s' b o (new_same hD b o z)) r'⟩
          rw [Int.toNat_natCast]
          rfl
    · rw [e]
      refine iteT ?_
      exact ⟨_, rfl, fun _ _ _ _ => fmt_str (by decide), fun d hd => q d hd⟩
end
end K
end
section
set_option linter.all false
set_option maxRecDepth 100000
set_option maxHeartbeats 8000000
namespace K
open PySem PySem.Spec PyProof.Rows L2 LamX Ob
abbrev NL : List Str := ["script", "draw", "turn", "prime_here", "many", "more", "first", "second", "rule", "other", "due", "leg", "spot", "k", "bits", "index", "j", "one", "two", "wide", "work", "caught"]
theorem scL : FnScope NL ["script"] (defScope sLaw) := ⟨rfl, rfl, rfl, by decide +kernel, rfl, by decide +kernel, by decide +kernel⟩
/-- the law's own context -/
abbrev LX (P : Program) (w : World) (K : PySem.W.Frag) (mg : Str → Option Value) (base : Heap) (f c : Addr) (A : Around) (outer : List Env) (s : Shared) (H0 : Hp) (E : XK) : Cx := (cxOf CX0 P w K mg base NL "law" (defScope sLaw) f (.ref c) A outer s H0 E).nox
structure LD (P : Program) (w : World) (K : PySem.W.Frag) (mg : Str → Option Value) (base : Heap) (C CN CR CT CB fI : Addr) (fdI : FuncData) : Prop where
  MR : MkRule P w K mg base C fI fdI
  B : Bts mg
  begun : Df P w K mg base CX0 1 "_law_begun" ["script"] (spBegun K)
  take : Df P w K mg base CX0 2 "_law_take" ["draw", "amount"] spTake
  prime : Df P w K mg base CX0 4 "_law_prime" ["draw"] spPrime
  numbers : Df P w K mg base CX0 4 "_law_numbers" ["draw", "prime_here", "many"] spNumbers
  bits : Df P w K mg base CX0 1 "_law_bits" ["number", "many"] spBits
  number : Df P w K mg base CX0 1 "_law_number" ["bits"] (spNumber K)
  isRule : DfG P w K mg base 1 "_law_is_rule" ["thing", "prime_here", "table_here"] (spIsRule K C)
  turned : DfK P w K mg base (L2.CX P w) 9 "turned" ["rule", "many"] (spTurned K C CN)
  beside : DfK P w K mg base (L2.CX P w) 8 "beside" ["rule", "other"] (spBeside K C CR CT)
  closed : DfK P w K mg base (L2.CX P w) 8 "closed" ["rule", "leg", "other"] (spClosed K C CN CR)
  joined : DfK P w K mg base (L2.CX P w) 8 "joined" ["rule", "leg", "other", "place"] (spJoined K C CN CR CT)
  eq : ∃ f fd, NeC K C f ∧ FnOk P w K mg base CX0 1 f fd ["self", "other"] (spREq C) ∧ Binds K fd ["self", "other"] []
  mn : mg "min" = none
  caught : CaughtD K mg CB
  eT : ErrC K CB CT "most"
  gT : mg "TooMany" = some (.ref CT)
/-- one turn's own things -/
structure TD where
  p : Int
  n : Nat
  m : Nat
  ns : List Int
  ms : List Int
  a : Addr
  b : Addr
  r : Addr
  o : Addr
structure TI (C : Addr) (T : List (Addr × Str)) (d l c : Addr) (t : TD) (H : Hp) : Prop where
  draw : DrawAt H d l c
  tabs : Tabs T H
  r : RuleAt C H t.r t.p t.n t.ns
  o : RuleAt C H t.o t.p t.m t.ms
  a : H t.a = some (.lst (t.ns.map V.int))
  b : H t.b = some (.lst (t.ms.map V.int))
  al : t.a ≠ l
  bl : t.b ≠ l
  okA : RuleOk t.p t.n t.ns
  okB : RuleOk t.p t.m t.ms
  n4 : t.n < 5
  m4 : t.m < 5
section
variable {C d l c : Addr} {T : List (Addr × Str)} {t : TD} {H H' : Hp}
theorem TI.kept (I : TI C T d l c t H) (D : DrawAt H' d l c) (k : Kept H H' d l) : TI C T d l c t H' :=
  ⟨D, tabs_kept I.draw k I.tabs, rule_kept I.draw k I.r, rule_kept I.draw k I.o, lst_kept I.draw k I.a I.al, lst_kept I.draw k I.b I.bl, I.al, I.bl, I.okA, I.okB, I.n4, I.m4⟩
theorem TI.same (I : TI C T d l c t H) (s : ∀ b o, H b = some o → H' b = some o) : TI C T d l c t H' := I.kept (draw_same I.draw s) (kept_same s)
theorem TI.ext (I : TI C T d l c t H) (e : ExtN H H') (tb : Tabs T H') : TI C T d l c t H' :=
  ⟨draw_ext I.draw e, tb, rule_ext I.r e, rule_ext I.o e, lst_ext I.a e, lst_ext I.b e, I.al, I.bl, I.okA, I.okB, I.n4, I.m4⟩
end
structure Vars (σ : L2.St) (d : Addr) (t : TD) : Prop where
  draw : Sl σ 1 (.ref d)
  prime : Sl σ 3 (.int t.p)
  many : Sl σ 4 (.int t.n)
  more : Sl σ 5 (.int t.m)
  first : Sl σ 6 (.ref t.a)
  second : Sl σ 7 (.ref t.b)
  rule : Sl σ 8 (.ref t.r)
  other : Sl σ 9 (.ref t.o)
theorem Vars.put {σ : L2.St} {d : Addr} {t : TD} {i : Nat} {y : Option V} (h : Vars σ d t) (hi : i ∉ [1, 3, 4, 5, 6, 7, 8, 9] := by decide) : Vars (σ.set i y) d t := by
  simp only [List.mem_cons, List.not_mem_nil, not_or, or_false] at hi
  obtain ⟨h1, h3, h4, h5, h6, h7, h8, h9⟩ := hi
  exact ⟨h.draw.put h1, h.prime.put h3, h.many.put h4, h.more.put h5, h.first.put h6, h.second.put h7, h.rule.put h8, h.other.put h9⟩
/-- all that a turn stands on -/
def GT (C : Addr) (T : List (Addr × Str)) (d l c : Addr) (t : TD) : L2.St → Hp → Prop := fun σ H => Vars σ d t ∧ TI C T d l c t H
def Due (σ : L2.St) (H : Hp) (xs : List Int) : Prop := ∃ q, Sl σ 10 (.ref q) ∧ H q = some (.lst (xs.map V.int))
section
variable {P : Program} {w : World} {K : PySem.W.Frag} {mg : Str → Option Value} {base : Heap} {f c : Addr} {A : Around} {outer : List Env} {s : Shared} {H0 : Hp} {E : XK} {C CN CR CT CB fI : Addr} {fdI : FuncData} {T : List (Addr × Str)} {d l c0 : Addr}
def stT (i : Nat) : Stmt := (defBody sLaw).getD i noStmt
def stB (i : Nat) : Stmt := (forBody (stT 1)).getD i noStmt
def A0 (T : List (Addr × Str)) (d l c0 : Addr) : L2.St → Hp → Prop := fun σ H => Sl σ 1 (.ref d) ∧ DrawAt H d l c0 ∧ Tabs T H
def A1 (T : List (Addr × Str)) (d l c0 : Addr) : L2.St → Hp → Prop := fun σ H => Sl σ 1 (.ref d) ∧ DrawAt H d l c0 ∧ Tabs T H ∧ ∃ (p : Int) (n m : Nat), Sl σ 3 (.int p) ∧ Sl σ 4 (.int n) ∧ Sl σ 5 (.int m) ∧ primeB p = true ∧ n < 5 ∧ m < 5
/-- prime_here, many, more = .. -/
theorem st0 (L : LD P w K mg base C CN CR CT CB fI fdI) (hr : Room 10 (LX P w K mg base f c A outer s H0 E).A) : PS (LX P w K mg base f c A outer s H0 E) (stB 0) (tTri (A0 T d l c0) (A1 T d l c0)) := by
  refine tri (ps_asg (pe_tup (pa_cons (pe_df L.prime hr (by decide) rfl pass0 (pa_cons (pv 1) pa_nil)) (pa_cons (pe_df L.take hr (by decide) rfl pass0 (pa_cons (pv 1) (pa_cons pe_int pa_nil))) (pa_cons (pe_df L.take hr (by decide) rfl pass0 (pa_cons (pv 1) (pa_cons pe_int pa_nil))) pa_nil))))
    (pg_tup rfl (pgs_cons (pg_name (i := 3) scL.nd rfl (Or.inr rfl)) (pgs_cons (pg_name (i := 4) scL.nd rfl (Or.inl rfl)) (pgs_cons (pg_name (i := 5) scL.nd rfl (Or.inl rfl)) pgs_nil))))) fun D σ H hl ⟨a1, a2, a3⟩ k => ?_
  have hl : σ.length = 22 := hl
  refine ⟨_, a1, d, l, c0, rfl, a2, fun p H1 hp D1 k1 => ?_⟩
  refine ⟨_, a1, d, l, c0, 5, rfl, D1, by decide, by decide, fun n H2 n0 n1 D2 k2 => ?_⟩
  refine ⟨_, a1, d, l, c0, 5, rfl, D2, by decide, by decide, fun m H3 m0 m1 D3 k3 => ?_⟩
  refine ⟨(show 3 ≤ sizeLine by rw [sizeLine_eq]; decide), fun t ht => ?_⟩
  refine ⟨t, _, rfl, SqT.of upd_same, rfl, _, _, rfl, _, _, rfl, _, _, rfl, rfl, ?_⟩
  have sm := new_same (o := .tup [.int p, .int n, .int m]) ht
  obtain ⟨n, rfl⟩ := Int.eq_ofNat_of_zero_le n0
  obtain ⟨m, rfl⟩ := Int.eq_ofNat_of_zero_le m0
  exact k _ _ ⟨a1.put.put.put, draw_same D3 sm, tabs_kept a2 (kept_trans k1 (kept_trans k2 (kept_trans k3 (kept_same sm)))) a3, p, n, m, (Sl.here (by omega)).put.put, (Sl.here (by rw [List.length_set]; omega)).put, Sl.here (by rw [List.length_set, List.length_set]; omega), primes_ok p hp, by omega, by omega⟩
def A2 (T : List (Addr × Str)) (d l c0 : Addr) : L2.St → Hp → Prop := fun σ H => Sl σ 1 (.ref d) ∧ DrawAt H d l c0 ∧ Tabs T H ∧ ∃ (p : Int) (n m : Nat) (a b : Addr) (ns ms : List Int), Sl σ 3 (.int p) ∧ Sl σ 4 (.int n) ∧ Sl σ 5 (.int m) ∧ Sl σ 6 (.ref a) ∧ Sl σ 7 (.ref b) ∧ RuleOk p n ns ∧ RuleOk p m ms ∧ n < 5 ∧ m < 5 ∧
  H a = some (.lst (ns.map V.int)) ∧ a ≠ l ∧ H b = some (.lst (ms.map V.int)) ∧ b ≠ l
theorem shl1 (n : Nat) : (1 : Int) * 2 ^ ((n : Int)).toNat = ((2 ^ n : Nat) : Int) := by
  rw [Int.one_mul, Int.toNat_natCast]
  norm_cast
/-- first, second = .. -/
theorem st1 (L : LD P w K mg base C CN CR CT CB fI fdI) (hr : Room 10 (LX P w K mg base f c A outer s H0 E).A) : PS (LX P w K mg base f c A outer s H0 E) (stB 1) (tTri (A1 T d l c0) (A2 T d l c0)) := by
  refine tri (ps_asg (pe_tup (pa_cons (pe_df L.numbers hr (by decide) rfl pass0 (pa_cons (pv 1) (pa_cons (pv 3) (pa_cons (pe_op op_shl pe_int (pv 4)) pa_nil)))) (pa_cons (pe_df L.numbers hr (by decide) rfl pass0 (pa_cons (pv 1) (pa_cons (pv 3) (pa_cons (pe_op op_shl pe_int (pv 5)) pa_nil)))) pa_nil)))
    (pg_tup rfl (pgs_cons (pg_name (i := 6) scL.nd rfl (Or.inr rfl)) (pgs_cons (pg_name (i := 7) scL.nd rfl (Or.inr rfl)) pgs_nil)))) fun D σ H hl ⟨a1, a2, a3, p, n, m, v3, v4, v5, hp, hn, hm⟩ k => ?_
  have hl : σ.length = 22 := hl
  have hpr := prime_range hp
  have pn := pow8 (n := n) (by omega)
  have pm := pow8 (n := m) (by omega)
  refine ⟨_, a1, _, v3, _, v4, 1, n, rfl, rfl, ⟨by omega, by omega, by decide⟩, ?_⟩
  refine ⟨d, l, c0, p, 2 ^ n, (by show [V.ref d, .int p, .int (1 * 2 ^ ((n : Int)).toNat)] = [V.ref d, .int p, .int ((2 ^ n : Nat) : Int)]; rw [shl1]), a2, hpr.1, hpr.2, by omega, fun ns H1 q hlen hf D1 k1 hq ql hl1 => ?_⟩
  refine ⟨_, a1, _, v3, _, v5, 1, m, rfl, rfl, ⟨by omega, by omega, by decide⟩, ?_⟩
  refine ⟨d, l, c0, p, 2 ^ m, (by show [V.ref d, .int p, .int (1 * 2 ^ ((m : Int)).toNat)] = [V.ref d, .int p, .int ((2 ^ m : Nat) : Int)]; rw [shl1]), D1, hpr.1, hpr.2, by omega, fun ms H2 q2 hlen2 hf2 D2 k2 hq2 ql2 hl2 => ?_⟩
  refine ⟨(show 2 ≤ sizeLine by rw [sizeLine_eq]; decide), fun t ht => ?_⟩
  refine ⟨t, _, rfl, SqT.of upd_same, rfl, _, _, rfl, _, _, rfl, rfl, ?_⟩
  have sm := new_same (o := .tup [.ref q, .ref q2]) ht
  exact k _ _ ⟨a1.put.put, draw_same D2 sm, tabs_kept a2 (kept_trans k1 (kept_trans k2 (kept_same sm))) a3, p, n, m, q, q2, ns, ms, v3.put.put, v4.put.put, v5.put.put, (Sl.here (by omega)).put, Sl.here (by rw [List.length_set]; omega), ⟨hp, by omega, hlen, hf⟩, ⟨hp, by omega, hlen2, hf2⟩, hn, hm, sm _ _ (lst_kept D1 k2 hl1 ql), ql, sm _ _ hl2, ql2⟩
/-- rule, other = .. -/
theorem st2 (L : LD P w K mg base C CN CR CT CB fI fdI) (hr : Room 10 (LX P w K mg base f c A outer s H0 E).A) : PS (LX P w K mg base f c A outer s H0 E) (stB 2) (tTri (A2 T d l c0) (fun σ H => ∃ t, GT C T d l c0 t σ H)) := by
  refine tri (ps_par (i := 8) (j := 9) (by rfl) scL.nd rfl rfl (by decide) rfl rfl (pa_cons (pe_rule L.MR hr (by decide) rfl (by exact pa_cons (pv 3) (pa_cons (pv 6) pa_nil))) (pa_cons (pe_rule L.MR hr (by decide) rfl (by exact pa_cons (pv 3) (pa_cons (pv 7) pa_nil))) pa_nil)) (by rfl)) fun D σ H hl ⟨a1, a2, a3, p, n, m, a, b, ns, ms, v3, v4, v5, v6, v7, okA, okB, hn, hm, ha, al, hb, bl⟩ k => ?_
  have hl : σ.length = 22 := hl
  refine ⟨_, v3, _, v6, ?_⟩
  refine made okA ha fun H1 r s1 hR => ?_
  refine ⟨_, v3, _, v7, ?_⟩
  refine made okB (s1 _ _ hb) fun H2 o s2 hO => ?_
  refine ⟨_, _, rfl, ?_⟩
  have al' : ∀ b o', H b = some o' → H2 b = some o' := fun b o' e => s2 b o' (s1 b o' e)
  exact k _ _ ⟨⟨p, n, m, ns, ms, a, b, r, o⟩, ⟨a1.put.put, v3.put.put, v4.put.put, v5.put.put, v6.put.put, v7.put.put, (Sl.here (by omega)).put, Sl.here (by rw [List.length_set]; omega)⟩,
    draw_same a2 al', tabs_same a3 al', hR.same s2, hO, al' _ _ ha, al' _ _ hb, al, bl, okA, okB, hn, hm⟩
end
end K
end
section
set_option linter.all false
set_option maxRecDepth 100000
set_option maxHeartbeats 8000000
namespace K
open PySem PySem.Spec PyProof.Rows L2 LamX Ob
theorem zfdiv {i M : Nat} : ((0 : Int) + (i : Nat)).fdiv ((M : Nat) : Int) = ((i / M : Nat) : Int) := by
  rw [Int.zero_add, Int.fdiv_eq_ediv_of_nonneg _ (by omega)]
  rfl
theorem zfmod {i M : Nat} : ((0 : Int) + (i : Nat)).fmod ((M : Nat) : Int) = ((i % M : Nat) : Int) := by
  rw [Int.zero_add, Int.fmod_eq_emod_of_nonneg _ (by omega)]
  rfl
theorem pick_nat {ns : List Int} {k : Nat} : pickF ns ((k : Nat) : Int) = ns.getD k 0 := by
  unfold pickF
  rw [Int.toNat_natCast]
section
variable {P : Program} {w : World} {K : PySem.W.Frag} {mg : Str → Option Value} {base : Heap} {f c : Addr} {A : Around} {outer : List Env} {s : Shared} {H0 : Hp} {E : XK} {C CN CR CT CB fI : Addr} {fdI : FuncData} {T : List (Addr × Str)} {d l c0 : Addr}
/-- due = [first[k // len(second)] * second[k % len(second)] % prime_here for ..] -/
theorem st3 (L : LD P w K mg base C CN CR CT CB fI fdI) (t : TD) : PS (LX P w K mg base f c A outer s H0 E) (stB 3) (tTri (GT C T d l c0 t) (fun σ H => GT C T d l c0 t σ H ∧ Due σ H (besF t.p t.ns t.ms))) := by
  have B := L.B
  refine tri (ps_setLc (i := 10) (own := [("k", 13)]) (g := gName 13) (tt := tYes) rfl scL.nd rfl rfl (sw_true rfl rfl rfl (by decide +kernel)) (pi_range1 (by rfl) B.range (pa_cons (pe_op op_mul (pe_callB (r := rLenS K) (by exact call_len_seq) (by rfl) B.len PySem.boot_len (pa_cons (pv 6) pa_nil)) (pe_callB (r := rLenS K) (by exact call_len_seq) (by rfl) B.len PySem.boot_len (pa_cons (pv 7) pa_nil))) pa_nil))
    (blkOk_by (N := NL) (sc := defScope sLaw) (by decide +kernel)) (fun _ _ _ _ _ => pg_name (i := 13) scL.nd rfl (Or.inl rfl)) (fun _ _ _ _ _ => pts_nil)
    (fun _ _ _ _ _ => pe_op op_modN (pe_op op_mul (pe_ix (ix_list : IxR _ (rIxL K)) (pv 6) (pe_op op_fdivN (pv 13) (pe_callB (r := rLenS K) (by exact call_len_seq) (by rfl) B.len PySem.boot_len (pa_cons (pv 7) pa_nil))) (fun _ _ => rfl))
      (pe_ix (ix_list : IxR _ (rIxL K)) (pv 7) (pe_op op_modN (pv 13) (pe_callB (r := rLenS K) (by exact call_len_seq) (by rfl) B.len PySem.boot_len (pa_cons (pv 7) pa_nil))) (fun _ _ => rfl))) (pv 3))) fun D σ H hl ⟨vr, I⟩ go => ?_
  have hl : σ.length = 22 := hl
  have hp := I.okA.least
  have lA : t.ns.length ≤ 16 := by rw [I.okA.len]; exact Nat.le_trans (Nat.pow_le_pow_right (by decide) (show t.n ≤ 4 by have := I.n4; omega)) (by decide)
  have lB : t.ms.length ≤ 16 := by rw [I.okB.len]; exact Nat.le_trans (Nat.pow_le_pow_right (by decide) (show t.m ≤ 4 by have := I.m4; omega)) (by decide)
  have pB : 0 < t.ms.length := by rw [I.okB.len]; exact Nat.two_pow_pos _
  have lAB : t.ns.length * t.ms.length ≤ 16 * 16 := Nat.mul_le_mul lA lB
  refine ⟨_, vr.first, t.a, _, rfl, .inl (SqL.of I.a), _, vr.second, t.b, _, rfl, .inl (SqL.of I.b), _, _, rfl, rfl, ?_⟩
  rw [List.length_map, List.length_map]
  refine ⟨.inl ⟨by omega, by omega⟩, ((t.ns.length * t.ms.length : Nat) : Int), by rw [Int.natCast_mul], by omega, by omega, fun q hq => ?_⟩
  rw [Int.toNat_natCast]
  refine lc_it walk_range (fun i H' => H' = upd H q (.lst (((List.range i).map fun k => (t.ns.getD (k / t.ms.length) 0 * t.ms.getD (k % t.ms.length) 0).fmod t.p).map V.int))) rfl (fun _ _ _ _ => trivial) ?_ ?_
  · rintro i y H' H'' hi rfl ⟨rfl, rfl⟩
    have hi : i < t.ns.length * t.ms.length := hi
    have d1 : i / t.ms.length < t.ns.length := Nat.div_lt_of_lt_mul (by rw [Nat.mul_comm]; exact hi)
    have d2 : i % t.ms.length < t.ms.length := Nat.mod_lt _ pB
    refine ⟨wipe_it, tyes ?_⟩
    refine ⟨_, vr.first.in1, _, Sl.it (i := 13) (by omega), _, vr.second.in1, t.b, _, rfl, .inl (SqL.of (new_same hq _ _ I.b)), _, _, rfl, rfl, ?_⟩
    rw [List.length_map]
    refine ⟨⟨by omega, by rw [Int.natAbs_natCast]; omega⟩, ?_⟩
    dsimp only
    rw [zfdiv]
    refine ⟨t.a, _, _, _, rfl, rfl, SqL.of (new_same hq _ _ I.a), at_pick (Int.natCast_nonneg _) (Int.ofNat_lt.mpr d1), ?_⟩
    refine ⟨_, vr.second.in1, _, Sl.it (i := 13) (by omega), _, vr.second.in1, t.b, _, rfl, .inl (SqL.of (new_same hq _ _ I.b)), _, _, rfl, rfl, ?_⟩
    rw [List.length_map]
    refine ⟨by omega, ?_⟩
    dsimp only
    rw [zfmod]
    have f1 := I.okA.field _ (pick_mem (ns := t.ns) (i := ((i / t.ms.length : Nat) : Int)) (Int.natCast_nonneg _) (Int.ofNat_lt.mpr d1))
    refine ⟨t.b, _, _, _, rfl, rfl, SqL.of (new_same hq _ _ I.b), at_pick (Int.natCast_nonneg _) (Int.ofNat_lt.mpr d2), _, _, rfl, rfl, .inl ⟨by omega, by omega⟩, _, vr.prime.in1, _, _, rfl, rfl, (show t.p ≠ 0 by omega), _, upd_same, ?_, ?_⟩
    · rw [List.length_map, List.length_map, List.length_range, sizeLine_eq]
      omega
    · rw [upd_upd, List.range_succ, List.map_append, List.map_append, pick_nat, pick_nat]
      rfl
  · rintro H' rfl
    rw [← bes_range]
    exact go _ _ ⟨⟨vr.put, I.same (new_same hq)⟩, q, Sl.here (by omega), upd_same⟩
/-- the check of beside -/
theorem st4 (L : LD P w K mg base C CN CR CT CB fI fdI) (hG : (LX P w K mg base f c A outer s H0 E).A.guards = some []) (hr : Room 10 (LX P w K mg base f c A outer s H0 E).A) (t : TD) :
    PS (LX P w K mg base f c A outer s H0 E) (stB 4) (tTri (fun σ H => GT C T d l c0 t σ H ∧ Due σ H (besF t.p t.ns t.ms)) (GT C T d l c0 t)) := by
  obtain ⟨fE, dE, NE, GE, bE⟩ := L.eq
  refine tri (ps_if (pw_or (pt_not (pt_val (pe_dfg hG L.isRule hr (by decide) (by rfl) (pa_cons (pe_df L.beside.df hr (by decide) (by rfl) passL (pa_cons (pv 8) (pa_cons (pv 9) pa_nil))) (pa_cons (pv 3) (pa_cons (pv 10) pa_nil))))))
      (pw_or1 (pt_cmpR (op_neR NE GE bE pass0 (hr.mono (by decide))) (pe_dfk L.beside hr (by decide) (by rfl) passL (pk_cons (pv 9) (pk_cons (pv 8) pk_nil))) (pe_rule L.MR hr (by decide) (by rfl) (by exact pa_cons (pv 3) (pa_cons (pv 10) pa_nil))) (nomark _)))).pt
    (pss_one (ps_ret pe_bl)) pss_nil) fun D σ H hl ⟨⟨vr, I⟩, due, v10, hdue⟩ go => ?_
  have okS := bes_ok I.okA I.okB (by have := I.n4; have := I.m4; omega)
  have n8 : t.n + t.m ≤ 8 := by have := I.n4; have := I.m4; omega
  refine ⟨_, vr.rule, _, vr.other, _, _, _, _, rfl, .rule I.r, .rule I.o, .inl ⟨t.p, t.n, t.ns, t.m, t.ms, rfl, rfl, I.okA, I.okB, n8, fun H1 q1 s1 r1 => ?_⟩⟩
  refine ⟨_, vr.prime, _, v10, q1, due, t.p, t.n + t.m, _, rfl, r1, okS, s1 _ _ hdue, fun H2 s2 => ⟨_, rfl, iteF ?_⟩⟩
  have s02 : ∀ b o, H b = some o → H2 b = some o := fun b o z => s2 b o (s1 b o z)
  refine ⟨_, vr.other, _, vr.rule, _, _, _, _, rfl, .rule (I.r.same s02), .rule (I.o.same s02), .inl ⟨t.p, t.n, t.ns, t.m, t.ms, rfl, rfl, I.okA, I.okB, n8, fun H3 q3 s3 r3 => ?_⟩⟩
  have s03 : ∀ b o, H b = some o → H3 b = some o := fun b o z => s3 b o (s02 b o z)
  refine ⟨_, vr.prime, _, v10, ?_⟩
  refine made okS (s03 _ _ hdue) fun H4 q4 s4 r4 => ?_
  refine neR_false (r3.same s4) r4 ⟨_, rfl, iteF ?_⟩
  exact go _ _ ⟨vr, I.same fun b o z => s4 b o (s03 b o z)⟩
end
end K
end
section
set_option linter.all false
set_option maxRecDepth 100000
set_option maxHeartbeats 8000000
/-! parts of tuples of numbers; lists of zeros; an item set -/
namespace K
open PySem PySem.Spec PyProof.Rows L2 LamX Ob
theorem cut_lo {bs : List Int} {l : Nat} (h : l ≤ bs.length) : cutV (bs.map V.int) none (some (l : Int)) = (bs.take l).map V.int := by
  unfold cutV
  rw [HT.sIx_none, HT.sIx_nat, List.length_map, List.drop_zero, Nat.min_eq_left h, Nat.sub_zero, List.map_take]
theorem cut_hi {bs : List Int} {l : Nat} (h : l + 1 ≤ bs.length) : cutV (bs.map V.int) (some ((l : Int) + 1)) none = (bs.drop (l + 1)).map V.int := by
  unfold cutV
  rw [show ((l : Int) + 1) = ((l + 1 : Nat) : Int) from rfl, HT.sIx_none, HT.sIx_nat, List.length_map, Nat.min_eq_left h, List.map_drop, List.take_of_length_le (by rw [List.length_drop, List.length_map]; omega)]
theorem catA_any {K : PySem.W.Frag} {H : Hp} {a b : Addr} {xs ys : List V} {Q : VK} (ha : SqT K H a xs) (hb : SqT K H b ys) (hz : xs.length + ys.length ≤ sizeLine) (k : ∀ H' q, (∀ b o, H b = some o → H' b = some o) → SqT K H' q (xs ++ ys) → Q (.ref q) H') : rCatA K (.ref a) (.ref b) H Q :=
  ⟨a, b, xs, ys, rfl, rfl, ha, hb, hz, fun e => k H b (fun _ _ z => z) (by rw [e]; exact hb), fun _ e => k H a (fun _ _ z => z) (by rw [e, List.append_nil]; exact ha), fun _ _ p hp => k _ p (new_same hp) (SqT.of upd_same)⟩
theorem slA_new {K : PySem.W.Frag} {H : Hp} {a : Addr} {xs : List V} {lo hi : Option Int} {Q : VK} (ha : SqT K H a xs) (hw : ¬ (HT.sIx xs.length 0 lo = 0 ∧ HT.sIx xs.length xs.length hi = xs.length)) (k : ∀ H' q, (∀ b o, H b = some o → H' b = some o) → SqT K H' q (cutV xs lo hi) → Q (.ref q) H') : rSlA K (.ref a) lo hi H Q :=
  ⟨a, xs, rfl, ha, fun w => absurd w hw, fun _ p hp => k _ p (new_same hp) (SqT.of upd_same)⟩
theorem sqT_same {K : PySem.W.Frag} {H H' : Hp} {a : Addr} {xs : List V} (s : ∀ b o, H b = some o → H' b = some o) (h : SqT K H a xs) : SqT K H' a xs :=
  h.elim (fun h => .inl (h.elim (fun h => .inl (s _ _ h)) fun ⟨o, h⟩ => .inr ⟨o, s _ _ h⟩)) fun h => .inr h
theorem cut_mid {bs : List Int} {l m : Nat} (h : m ≤ bs.length) (h2 : l + 1 ≤ bs.length) : cutV (bs.map V.int) (some ((l : Int) + 1)) (some (m : Int)) = ((bs.take m).drop (l + 1)).map V.int := by
  unfold cutV
  rw [show ((l : Int) + 1) = ((l + 1 : Nat) : Int) from rfl, HT.sIx_nat, HT.sIx_nat, List.length_map, Nat.min_eq_left h2, Nat.min_eq_left h, List.drop_take, List.map_take, List.map_drop]
theorem flat_zeros (N : Nat) : (List.replicate N [V.int 0]).flatten = (List.replicate N (0 : Int)).map V.int := by
  induction N with
  | zero => rfl
  | succ N ih =>
    rw [List.replicate_succ, List.flatten_cons, ih, List.replicate_succ]
    rfl
theorem shlN {z : Int} {k : Nat} (h : z = (k : Int)) : (1 : Int) * 2 ^ z.toNat = ((2 ^ k : Nat) : Int) := by
  rw [h, Int.one_mul, Int.toNat_natCast]
  norm_cast
theorem ixN_ok {n : Nat} {z : Int} (h0 : 0 ≤ z) (h1 : z < (n : Int)) : ixN n z = some z.toNat := by
  unfold ixN
  rw [if_pos h0, if_pos h1]
theorem dec_int {a b : Int} : decide (V.int a = V.int b) = decide (a = b) := by
  by_cases h : a = b
  · rw [h]
    simp
  · rw [decide_eq_false h]
    exact decide_eq_false fun z => h (by injection z)
end K
end
section
set_option linter.all false
set_option maxRecDepth 100000
set_option maxHeartbeats 8000000
namespace K
open PySem PySem.Spec PyProof.Rows L2 LamX Ob
def sLeg : Stmt := (forBody (stB 5)).getD 0 noStmt
def sSpot (i : Nat) : Stmt := (forBody sLeg).getD i noStmt
def sSum (i : Nat) : Stmt := (forBody (sSpot 1)).getD i noStmt
def sAdd (i : Nat) : Stmt := (ifBody (sSum 1)).getD i noStmt
section
variable {C : Addr} {T : List (Addr × Str)} {d l c0 : Addr}
def GL (C : Addr) (T : List (Addr × Str)) (d l c0 : Addr) (t : TD) (g h : Nat) : L2.St → Hp → Prop := fun σ H => GT C T d l c0 t σ H ∧ Sl σ 11 (.int (g : Nat)) ∧ Sl σ 12 (.int (h : Nat)) ∧ g < h ∧ h < t.n
/-- in the middle of the sum -/
def RL (C : Addr) (T : List (Addr × Str)) (d l c0 : Addr) (t : TD) (g h i : Nat) : L2.St → Hp → Prop := fun σ H => ∃ HB q, Vars σ d t ∧ TI C T d l c0 t HB ∧ HB q = none ∧ Same HB H ∧ Sl σ 10 (.ref q) ∧ Sl σ 11 (.int (g : Nat)) ∧ Sl σ 12 (.int (h : Nat)) ∧ g < h ∧ h < t.n ∧
  H q = some (.lst ((runF t.p (pickF t.ns) (2 ^ (t.n - 2)) (closeOps t.n g h i)).map V.int))
theorem rl_same {t : TD} {g h i : Nat} {σ : L2.St} {H H' : Hp} (R : RL C T d l c0 t g h i σ H) (sm : ∀ b o, H b = some o → H' b = some o) : RL C T d l c0 t g h i σ H' := by
  obtain ⟨HB, q, a1, a2, a3, a4, a5, a6, a7, a8, a9, a10⟩ := R
  exact ⟨HB, q, a1, a2, a3, fun b o e => sm b o (a4 b o e), a5, a6, a7, a8, a9, sm _ _ a10⟩
theorem rl_put {t : TD} {g h i j : Nat} {y : Option V} {σ : L2.St} {H : Hp} (R : RL C T d l c0 t g h i σ H) (hi : j ∉ [1, 3, 4, 5, 6, 7, 8, 9] := by decide) (h10 : j ≠ 10 := by decide) (h11 : j ≠ 11 := by decide) (h12 : j ≠ 12 := by decide) : RL C T d l c0 t g h i (σ.set j y) H := by
  obtain ⟨HB, q, a1, a2, a3, a4, a5, a6, a7, a8, a9, a10⟩ := R
  exact ⟨HB, q, a1.put hi, a2, a3, a4, a5.put h10, a6.put h11, a7.put h12, a8, a9, a10⟩
end
section
variable {P : Program} {w : World} {K : PySem.W.Frag} {mg : Str → Option Value} {base : Heap} {f c : Addr} {A : Around} {outer : List Env} {s : Shared} {H0 : Hp} {E : XK} {C CN CR CT CB fI : Addr} {fdI : FuncData} {T : List (Addr × Str)} {d l c0 : Addr}
/-- due = [0] * (1 << (many - 2)) -/
theorem leg0 (t : TD) (g h : Nat) : PS (LX P w K mg base f c A outer s H0 E) (sSpot 0) (tTri (GL C T d l c0 t g h) (RL C T d l c0 t g h 0)) := by
  refine tri (ps_set (i := 10) scL.nd rfl (Or.inl rfl) (pe_op op_rep (pe_lst (pa_cons pe_int pa_nil)) (pe_op op_shl pe_int (pe_op op_sub (pv 4) pe_int)))) fun D σ H hl ⟨⟨vr, I⟩, h11, h12, hg, hh⟩ go => ?_
  have hl : σ.length = 22 := hl
  have n4 := I.n4
  have pn := pow8 (n := t.n - 2) (by omega)
  have c1 : ((2 ^ (t.n - 2) : Nat) : Int) ≤ 256 := Int.ofNat_le.mpr pn
  have c2 : (0 : Int) ≤ ((2 ^ (t.n - 2) : Nat) : Int) := Int.natCast_nonneg _
  refine ⟨(show 1 ≤ sizeLine by rw [sizeLine_eq]; decide), fun p0 hp0 => ?_⟩
  have s0 := new_same (o := .lst [V.int 0]) hp0
  refine ⟨_, vr.many, _, _, rfl, rfl, 1, (t.n : Int) - 2, rfl, rfl, ⟨by omega, by omega, by decide⟩, ?_⟩
  dsimp only
  rw [shlN (show (t.n : Int) - 2 = ((t.n - 2 : Nat) : Int) by omega)]
  refine ⟨p0, _, _, rfl, rfl, upd_same, by omega, by omega, ?_, fun q hq => ?_⟩
  · rw [Int.toNat_natCast, sizeLine_eq]
    show 1 * _ ≤ _
    omega
  · rw [Int.toNat_natCast, flat_zeros]
    exact go _ _ ⟨upd H p0 (.lst [V.int 0]), q, vr.put, I.same s0, hq, new_same hq, Sl.here (by omega), h11.put, h12.put, hg, hh, upd_same⟩
def RB (C : Addr) (T : List (Addr × Str)) (d l c0 : Addr) (t : TD) (g h i : Nat) : L2.St → Hp → Prop := fun σ H => RL C T d l c0 t g h i σ H ∧ Sl σ 13 (.int (i : Nat)) ∧ i < 2 ^ t.n ∧ ∃ tb, Sl σ 14 (.ref tb) ∧ H tb = some (.tup ((bitsF t.n (i : Nat)).map V.int))
/-- bits = .. -/
theorem sum0 (L : LD P w K mg base C CN CR CT CB fI fdI) (hr : Room 10 (LX P w K mg base f c A outer s H0 E).A) (t : TD) (g h i : Nat) :
    PS (LX P w K mg base f c A outer s H0 E) (sSum 0) (tTri (fun σ H => RL C T d l c0 t g h i σ H ∧ Sl σ 13 (.int (i : Nat)) ∧ i < 2 ^ t.n) (RB C T d l c0 t g h i)) := by
  refine tri (ps_set (i := 14) scL.nd rfl (Or.inl rfl) (pe_df L.bits hr (by decide) rfl pass0 (pa_cons (pv 13) (pa_cons (pv 4) pa_nil)))) fun D σ H hl ⟨R, h13, hi⟩ go => ?_
  have hl : σ.length = 22 := hl
  obtain ⟨HB, q, vr, I, a3, a4, a5, a6, a7, a8, a9, a10⟩ := id R
  have n4 := I.n4
  refine ⟨_, h13, _, vr.many, (i : Int), t.n, rfl, by omega, fun H1 tb s1 n1 h1 => ?_⟩
  exact go _ _ ⟨rl_put (rl_same R s1), h13.put, hi, tb, Sl.here (by omega), h1⟩
/-- index = .. -/
theorem add0 (L : LD P w K mg base C CN CR CT CB fI fdI) (hr : Room 10 (LX P w K mg base f c A outer s H0 E).A) (t : TD) (g h i : Nat) :
    PS (LX P w K mg base f c A outer s H0 E) (sAdd 0) (tTri (fun σ H => RB C T d l c0 t g h i σ H ∧ closeCond t.n g h i = true) (fun σ H => (RB C T d l c0 t g h i σ H ∧ Sl σ 15 (.int (closeNum t.n g h i))) ∧ closeCond t.n g h i = true)) := by
  refine tri (ps_set (i := 15) scL.nd rfl (Or.inl rfl) (pe_df L.number hr (by decide) rfl pass0 (pa_cons
    (pe_op (op_catA : OpR _ _ (rCatA K)) (pe_op (op_catA : OpR _ _ (rCatA K)) (pe_slice (sl_tupA : SlR _ (rSlA K)) (pv 14) po_none (po_some (pv 11))) (pe_slice (sl_tupA : SlR _ (rSlA K)) (pv 14) (po_some (pe_op op_add (pv 11) pe_int)) (po_some (pv 12))))
      (pe_slice (sl_tupA : SlR _ (rSlA K)) (pv 14) (po_some (pe_op op_add (pv 12) pe_int)) po_none)) pa_nil))) fun D σ H hl ⟨⟨R, h13, hi, tb, h14, hb⟩, hc⟩ go => ?_
  have hl : σ.length = 22 := hl
  obtain ⟨HB, q, vr, I, a3, a4, a5, h11, h12, hg, hh, a10⟩ := id R
  have n4 := I.n4
  have bl := bits_len (n := t.n) (x := (i : Nat))
  refine ⟨_, h14, _, h11, g, rfl, slA_new (SqT.of hb) ?_ fun H2 q2 s2 hq2 => ?_⟩
  · rw [HT.sIx_nat, List.length_map, bl]
    omega
  rw [cut_lo (by omega)] at hq2
  refine ⟨_, h14, _, h11, _, _, rfl, rfl, _, rfl, _, h12, h, rfl, slA_new (SqT.of (s2 _ _ hb)) ?_ fun H3 q3 s3 hq3 => ?_⟩
  · rw [show ((g : Int) + 1) = ((g + 1 : Nat) : Int) from rfl, HT.sIx_nat, List.length_map, bl]
    omega
  rw [cut_mid (by omega) (by omega)] at hq3
  refine catA_any (sqT_same s3 hq2) hq3 ?_ fun H4 q4 s4 hq4 => ?_
  · rw [List.length_map, List.length_map, List.length_take, List.length_drop, List.length_take, sizeLine_eq]
    omega
  refine ⟨_, h14, _, h12, _, _, rfl, rfl, _, rfl, ?_⟩
  dsimp only [tNoPart]
  refine slA_new (SqT.of (s4 _ _ (s3 _ _ (s2 _ _ hb)))) ?_ fun H5 q5 s5 hq5 => ?_
  · rw [show ((h : Int) + 1) = ((h + 1 : Nat) : Int) from rfl, HT.sIx_nat, List.length_map, bl]
    omega
  rw [cut_hi (by omega)] at hq5
  refine catA_any (sqT_same s5 hq4) hq5 ?_ fun H6 q6 s6 hq6 => ?_
  · rw [List.length_append, List.length_map, List.length_map, List.length_map, List.length_take, List.length_drop, List.length_take, List.length_drop, sizeLine_eq]
    omega
  have s26 : ∀ b o, H b = some o → H6 b = some o := fun b o e => s6 b o (s5 b o (s4 b o (s3 b o (s2 b o e))))
  refine ⟨q6, (bitsF t.n (i : Nat)).take g ++ ((bitsF t.n (i : Nat)).take h).drop (g + 1) ++ (bitsF t.n (i : Nat)).drop (h + 1), rfl, .inr (by rw [List.map_append, List.map_append]; exact hq6), ?_⟩
  exact go _ _ ⟨⟨⟨rl_put (rl_same R s26), h13.put, hi, tb, h14.put, s26 _ _ hb⟩, Sl.here (by omega)⟩, hc⟩
theorem set_ints {xs : List Int} {j : Nat} {z : Int} : (xs.map V.int).set j (V.int z) = (xs.set j z).map V.int := by
  rw [List.map_set]
/-- due[index] = (due[index] + first[k]) % prime_here -/
theorem add1 (t : TD) (g h i : Nat) :
    PS (LX P w K mg base f c A outer s H0 E) (sAdd 1) (tTri (fun σ H => (RB C T d l c0 t g h i σ H ∧ Sl σ 15 (.int (closeNum t.n g h i))) ∧ closeCond t.n g h i = true) (RL C T d l c0 t g h (i + 1))) := by
  refine tri (ps_asg (pe_op op_modN (pe_op op_add (pe_ix (ix_list : IxR _ (rIxL K)) (pv 10) (pv 15) (fun _ _ => rfl)) (pe_ix (ix_list : IxR _ (rIxL K)) (pv 6) (pv 13) (fun _ _ => rfl))) (pv 3)) (pg_sub (pv 10) (pv 15) set_list)) fun D σ H hl ⟨⟨⟨R, h13, hi, _⟩, h15⟩, hc⟩ go => ?_
  obtain ⟨HB, q, vr, I, a3, a4, h10, h11, h12, hg, hh, hq⟩ := id R
  have hp := I.okA.least
  have hn := closeNum_dec t.n I.n4 h hh g hg
  have hk := of_decide_eq_true (List.all_eq_true.mp hn i (List.mem_range.mpr hi))
  obtain ⟨k0, k1⟩ := hk
  have rl := run_len (p := t.p) (val := pickF t.ns) (N := 2 ^ (t.n - 2)) (closeOps t.n g h i)
  refine ⟨_, h10, _, h15, q, _, _, _, rfl, rfl, SqL.of hq, at_pick k0 (by rw [rl]; exact k1), _, vr.first, _, h13, t.a, _, _, _, rfl, rfl, SqL.of (a4 _ _ I.a), at_pick (by omega) (by rw [I.okA.len]; omega), _, _, rfl, rfl, _, vr.prime, _, _, rfl, rfl, (show t.p ≠ 0 by omega), ?_⟩
  refine ⟨_, h10, _, h15, q, _, _, _, rfl, rfl, hq, ixN_ok k0 (by rw [List.length_map, rl]; exact k1), ?_⟩
  refine go _ _ ⟨HB, q, vr, I, a3, fun b o e => ?_, h10, h11, h12, hg, hh, ?_⟩
  · rw [upd_ne (ne_of_none e a3)]
    exact a4 b o e
  · rw [upd_same, closeOps_yes hc, run_more, set_ints]
    rfl
/-- if bits[leg] == bits[spot]: .. -/
theorem sum1 (L : LD P w K mg base C CN CR CT CB fI fdI) (hr : Room 10 (LX P w K mg base f c A outer s H0 E).A) (t : TD) (g h i : Nat) :
    PS (LX P w K mg base f c A outer s H0 E) (sSum 1) (tTri (RB C T d l c0 t g h i) (RL C T d l c0 t g h (i + 1))) := by
  refine tri (ps_if (pt_cmpR op_eq (pe_ix (ix_tup : IxR _ (rIxT K)) (pv 14) (pv 11) (fun _ _ => rfl)) (pe_ix (ix_tup : IxR _ (rIxT K)) (pv 14) (pv 12) (fun _ _ => rfl)) (nomark _))
      (tri_cons (add0 (C := C) (T := T) (d := d) (l := l) (c0 := c0) L hr t g h i) (tri_last (add1 t g h i))) pss_nil) fun D σ H hl ⟨R, h13, hi, tb, h14, hb⟩ go => ?_
  obtain ⟨HB, q, vr, I, a3, a4, h10, h11, h12, hg, hh, hq⟩ := id R
  have bl := bits_len (n := t.n) (x := (i : Nat))
  refine ⟨_, h14, _, h11, tb, _, g, _, rfl, rfl, SqT.of hb, at_pick (by omega) (by omega), _, h14, _, h12, tb, _, h, _, rfl, rfl, SqT.of hb, at_pick (by omega) (by omega), rfl, _, rfl, ?_⟩
  rw [dec_int]
  cases hc : closeCond t.n g h i with
  | true =>
    rw [show decide (pickF (bitsF t.n (i : Nat)) (g : Nat) = pickF (bitsF t.n (i : Nat)) (h : Nat)) = true from hc]
    exact iteT ⟨⟨⟨R, h13, hi, tb, h14, hb⟩, rfl⟩, go⟩
  | false =>
    rw [show decide (pickF (bitsF t.n (i : Nat)) (g : Nat) = pickF (bitsF t.n (i : Nat)) (h : Nat)) = false from hc]
    refine iteF (go _ _ ⟨HB, q, vr, I, a3, a4, h10, h11, h12, hg, hh, ?_⟩)
    rw [closeOps_no hc]
    exact hq
end
end K
end
section
set_option linter.all false
set_option maxRecDepth 100000
set_option maxHeartbeats 8000000
namespace K
open PySem PySem.Spec PyProof.Rows L2 LamX Ob
theorem closeF_comm {p : Int} {ns : List Int} {n g h : Nat} : closeF p ns n h g = closeF p ns n g h := by
  have e1 : closeLegs h g n = closeLegs g h n := by
    unfold closeLegs
    congr 1
    funext k
    rw [Bool.or_comm]
  have e2 : bothF n h g = bothF n g h := Int.add_comm _ _
  unfold closeF closeIdx
  rw [e1, e2]
section
variable {C : Addr} {T : List (Addr × Str)} {d l c0 : Addr}
theorem gt_put {t : TD} {i : Nat} {y : Option V} {σ : L2.St} {H : Hp} (h : GT C T d l c0 t σ H) (hi : i ∉ [1, 3, 4, 5, 6, 7, 8, 9] := by decide) : GT C T d l c0 t (σ.set i y) H := ⟨h.1.put hi, h.2⟩
theorem gt_same {t : TD} {σ : L2.St} {H H' : Hp} (h : GT C T d l c0 t σ H) (s : ∀ b o, H b = some o → H' b = some o) : GT C T d l c0 t σ H' := ⟨h.1, h.2.same s⟩
theorem gt_kept {t : TD} {σ : L2.St} {H H' : Hp} (h : GT C T d l c0 t σ H) (D : DrawAt H' d l c0) (k : Kept H H' d l) : GT C T d l c0 t σ H' := ⟨h.1, h.2.kept D k⟩
theorem gt_ext {t : TD} {σ : L2.St} {H H' : Hp} (h : GT C T d l c0 t σ H) (e : ExtN H H') (tb : Tabs T H') : GT C T d l c0 t σ H' := ⟨h.1, h.2.ext e tb⟩
end
section
variable {P : Program} {w : World} {K : PySem.W.Frag} {mg : Str → Option Value} {base : Heap} {f c : Addr} {A : Around} {outer : List Env} {s : Shared} {H0 : Hp} {E : XK} {C CN CR CT CB fI : Addr} {fdI : FuncData} {T : List (Addr × Str)} {d l c0 : Addr}
/-- for k in range(1 << many): .. -/
theorem spot1 (L : LD P w K mg base C CN CR CT CB fI fdI) (hr : Room 10 (LX P w K mg base f c A outer s H0 E).A) (t : TD) (g h : Nat) :
    PS (LX P w K mg base f c A outer s H0 E) (sSpot 1) (tTri (RL C T d l c0 t g h 0) (fun σ H => GL C T d l c0 t g h σ H ∧ Due σ H (closeF t.p t.ns t.n g h))) := by
  have B := L.B
  refine tri (ps_for PassesOwn.never rfl (pi_range1 (by rfl) B.range (pa_cons (pe_op op_shl pe_int (pv 4)) pa_nil)) (pg_name (i := 13) scL.nd rfl (Or.inl rfl))
    (triP (n := 22) (ι := Nat) (A := fun i σ H => RL C T d l c0 t g h i σ H ∧ Sl σ 13 (.int (i : Nat)) ∧ i < 2 ^ t.n) (B := fun i => RL C T d l c0 t g h (i + 1)) rfl fun i => by exact tri_cons (sum0 L hr t g h i) (tri_last (sum1 L hr t g h i)))) fun D σ H hl R go => ?_
  obtain ⟨HB, q, vr, I, _⟩ := id R
  have n4 := I.n4
  have pn := pow8 (n := t.n) (by omega)
  have c1 : ((2 ^ t.n : Nat) : Int) ≤ 256 := Int.ofNat_le.mpr pn
  have c2 : (0 : Int) ≤ ((2 ^ t.n : Nat) : Int) := Int.natCast_nonneg _
  refine ⟨_, vr.many, 1, t.n, rfl, rfl, ⟨by omega, by omega, by decide⟩, ?_⟩
  dsimp only
  rw [shl1]
  refine ⟨_, rfl, by omega, by omega, for_it walk_range (fun i σ H' => RL C T d l c0 t g h i σ H') R (fun _ _ _ _ _ => trivial) ?_ ?_⟩
  · rintro i x σ H' H'' hi h1 ⟨rfl, rfl⟩
    rw [Int.toNat_natCast] at hi
    refine ⟨i, fun hl2 => ⟨rl_put h1, ?_, hi⟩, fun σ' H3 h3 => h3⟩
    show Sl (σ.set 13 (some (V.int ((0 : Int) + (i : Nat))))) 13 (V.int (i : Nat))
    rw [Int.zero_add]
    exact Sl.here (by rw [List.length_set] at hl2; omega)
  · rintro σ H' R
    rw [Int.toNat_natCast] at R
    obtain ⟨HB, q, vr, I, a3, a4, h10, h11, h12, hg, hh, hq⟩ := R
    rw [close_run I.n4 hh hg] at hq
    exact go _ _ ⟨⟨⟨vr, I.same a4⟩, h11, h12, hg, hh⟩, q, h10, hq⟩
/-- the check of closed -/
theorem spot2 (L : LD P w K mg base C CN CR CT CB fI fdI) (hG : (LX P w K mg base f c A outer s H0 E).A.guards = some []) (hr : Room 10 (LX P w K mg base f c A outer s H0 E).A) (t : TD) (g h : Nat) :
    PS (LX P w K mg base f c A outer s H0 E) (sSpot 2) (tTri (fun σ H => GL C T d l c0 t g h σ H ∧ Due σ H (closeF t.p t.ns t.n g h)) (GL C T d l c0 t g h)) := by
  obtain ⟨fE, dE, NE, GE, bE⟩ := L.eq
  refine tri (ps_if (pw_or (pt_not (pt_val (pe_dfg hG L.isRule hr (by decide) (by rfl) (pa_cons (pe_df L.closed.df hr (by decide) (by rfl) passL (pa_cons (pv 8) (pa_cons (pv 11) (pa_cons (pv 12) pa_nil)))) (pa_cons (pv 3) (pa_cons (pv 10) pa_nil))))))
      (pw_or1 (pt_cmpR (op_neR NE GE bE pass0 (hr.mono (by decide))) (pe_dfk L.closed hr (by decide) (by rfl) passL (pk_cons (pv 11) (pk_cons (pv 12) (pk_cons (pv 8) pk_nil)))) (pe_rule L.MR hr (by decide) (by rfl) (by exact pa_cons (pv 3) (pa_cons (pv 10) pa_nil))) (nomark _)))).pt
    (pss_one (ps_ret pe_bl)) pss_nil) fun D σ H hl ⟨⟨⟨vr, I⟩, h11, h12, hg, hh⟩, due, v10, hdue⟩ go => ?_
  have okS := closeF_ok I.okA (show g < t.n by omega) hh (show g ≠ h by omega)
  refine ⟨_, vr.rule, _, h11, _, h12, _, _, _, _, rfl, .rule I.r, .inr ⟨_, _, _, _, rfl, .num g, .inr ⟨g, some (h : Nat), rfl, by omega, .num h, .inr (.inr ⟨h, rfl, hh, by omega, I.okA, fun H1 q1 s1 r1 => ?_⟩)⟩⟩⟩
  refine ⟨_, vr.prime, _, v10, q1, due, t.p, t.n - 2, _, rfl, r1, okS, s1 _ _ hdue, fun H2 s2 => ⟨_, rfl, iteF ?_⟩⟩
  have s02 : ∀ b o, H b = some o → H2 b = some o := fun b o z => s2 b o (s1 b o z)
  refine ⟨_, h11, _, h12, _, vr.rule, _, _, _, _, rfl, .rule (I.r.same s02), .inr ⟨_, _, _, _, rfl, .num h, .inr ⟨h, some (g : Nat), rfl, hh, .num g, .inr (.inr ⟨g, rfl, by omega, by omega, I.okA, fun H3 q3 s3 r3 => ?_⟩)⟩⟩⟩
  have s03 : ∀ b o, H b = some o → H3 b = some o := fun b o z => s3 b o (s02 b o z)
  rw [closeF_comm] at r3
  refine ⟨_, vr.prime, _, v10, ?_⟩
  refine made okS (s03 _ _ hdue) fun H4 q4 s4 r4 => ?_
  refine neR_false (r3.same s4) r4 ⟨_, rfl, iteF ?_⟩
  exact go _ _ ⟨⟨vr, I.same fun b o z => s4 b o (s03 b o z)⟩, h11, h12, hg, hh⟩
/-- for spot in range(leg + 1, many): .. -/
theorem legs0 (L : LD P w K mg base C CN CR CT CB fI fdI) (hG : (LX P w K mg base f c A outer s H0 E).A.guards = some []) (hr : Room 10 (LX P w K mg base f c A outer s H0 E).A) (t : TD) (g : Nat) :
    PS (LX P w K mg base f c A outer s H0 E) sLeg (tTri (fun σ H => GT C T d l c0 t σ H ∧ Sl σ 11 (.int (g : Nat)) ∧ g < t.n) (fun σ H => GT C T d l c0 t σ H ∧ Sl σ 11 (.int (g : Nat)) ∧ g < t.n)) := by
  have B := L.B
  refine tri (ps_for PassesOwn.never rfl (pi_range2 (by rfl) B.range (pa_cons (pe_op op_add (pv 11) pe_int) (pa_cons (pv 4) pa_nil))) (pg_name (i := 12) scL.nd rfl (Or.inl rfl))
    (triP (n := 22) (ι := Nat) (A := GL C T d l c0 t g) (B := GL C T d l c0 t g) rfl fun h => by exact tri_cons (leg0 t g h) (tri_cons (spot1 L hr t g h) (tri_last (spot2 L hG hr t g h))))) fun D σ H hl ⟨⟨vr, I⟩, h11, hg⟩ go => ?_
  have n4 := I.n4
  refine ⟨_, h11, _, _, rfl, rfl, _, vr.many, _, _, rfl, ⟨by omega, by omega, by omega, by omega⟩, for_it walk_range (fun i σ H' => GT C T d l c0 t σ H' ∧ Sl σ 11 (.int (g : Nat)) ∧ g < t.n) ⟨⟨vr, I⟩, h11, hg⟩ (fun _ _ _ _ _ => trivial) ?_ (fun σ H' h => go _ _ h)⟩
  rintro i x σ H' H'' hi ⟨h1, h2, h3⟩ ⟨rfl, rfl⟩
  refine ⟨g + 1 + i, fun hl2 => ⟨gt_put h1, h2.put, ?_, by omega, by omega⟩, fun σ' H3 h3 => ⟨h3.1, h3.2.1, hg⟩⟩
  show Sl (σ.set 12 (some (V.int (((g : Int) + 1) + (i : Nat))))) 12 (V.int ((g + 1 + i : Nat) : Int))
  rw [show ((g : Int) + 1) + (i : Nat) = ((g + 1 + i : Nat) : Int) by omega]
  exact Sl.here (by rw [List.length_set] at hl2; omega)
/-- for leg in range(many): .. -/
theorem st5 (L : LD P w K mg base C CN CR CT CB fI fdI) (hG : (LX P w K mg base f c A outer s H0 E).A.guards = some []) (hr : Room 10 (LX P w K mg base f c A outer s H0 E).A) (t : TD) :
    PS (LX P w K mg base f c A outer s H0 E) (stB 5) (tTri (GT C T d l c0 t) (GT C T d l c0 t)) := by
  have B := L.B
  refine tri (ps_for PassesOwn.never rfl (pi_range1 (by rfl) B.range (pa_cons (pv 4) pa_nil)) (pg_name (i := 11) scL.nd rfl (Or.inl rfl))
    (triP (n := 22) (ι := Nat) (A := fun g σ H => GT C T d l c0 t σ H ∧ Sl σ 11 (.int (g : Nat)) ∧ g < t.n) (B := fun g σ H => GT C T d l c0 t σ H ∧ Sl σ 11 (.int (g : Nat)) ∧ g < t.n) rfl fun g => by exact tri_last (legs0 L hG hr t g))) fun D σ H hl h go => ?_
  have n4 := h.2.n4
  refine ⟨_, h.1.many, t.n, rfl, by omega, by omega, for_it walk_range (fun i σ H' => GT C T d l c0 t σ H') h (fun _ _ _ _ _ => trivial) ?_ (fun σ H' h => go _ _ h)⟩
  rintro i x σ H' H'' hi h1 ⟨rfl, rfl⟩
  rw [Int.toNat_natCast] at hi
  refine ⟨i, fun hl2 => ⟨gt_put h1, ?_, hi⟩, fun σ' H3 h3 => h3.1⟩
  show Sl (σ.set 11 (some (V.int ((0 : Int) + (i : Nat))))) 11 (V.int (i : Nat))
  rw [Int.zero_add]
  exact Sl.here (by rw [List.length_set] at hl2; omega)
end
end K
end
section
set_option linter.all false
set_option maxRecDepth 100000
set_option maxHeartbeats 8000000
namespace K
open PySem PySem.Spec PyProof.Rows L2 LamX Ob
def sTwo (i : Nat) : Stmt := (ifBody (stB 6)).getD i noStmt
def sIn : Stmt := (forBody (sTwo 1)).getD 0 noStmt
def sPair (i : Nat) : Stmt := (forBody sIn).getD i noStmt
def sPut (i : Nat) : Stmt := (ifBody (sPair 1)).getD i noStmt
section
variable {C : Addr} {T : List (Addr × Str)} {d l c0 : Addr}
def GJ (C : Addr) (T : List (Addr × Str)) (d l c0 : Addr) (t : TD) (g h : Nat) : L2.St → Hp → Prop := fun σ H => GT C T d l c0 t σ H ∧ Sl σ 11 (.int (g : Nat)) ∧ Sl σ 12 (.int (h : Nat)) ∧ g < t.n ∧ h < t.m
def RJ (C : Addr) (T : List (Addr × Str)) (d l c0 : Addr) (t : TD) (g h i j : Nat) : L2.St → Hp → Prop := fun σ H => ∃ HB q, Vars σ d t ∧ TI C T d l c0 t HB ∧ HB q = none ∧ Same HB H ∧ Sl σ 10 (.ref q) ∧ Sl σ 11 (.int (g : Nat)) ∧ Sl σ 12 (.int (h : Nat)) ∧ g < t.n ∧ h < t.m ∧
  H q = some (.lst ((runF t.p (mulF t.ns t.ms) (2 ^ (t.n + t.m - 2)) (joinOps t.n g t.m h i ++ joinRow t.n g t.m h i j)).map V.int))
theorem rj_same {t : TD} {g h i j : Nat} {σ : L2.St} {H H' : Hp} (R : RJ C T d l c0 t g h i j σ H) (sm : ∀ b o, H b = some o → H' b = some o) : RJ C T d l c0 t g h i j σ H' := by
  obtain ⟨HB, q, a1, a2, a3, a4, a5, a6, a7, a8, a9, a10⟩ := R
  exact ⟨HB, q, a1, a2, a3, fun b o e => sm b o (a4 b o e), a5, a6, a7, a8, a9, sm _ _ a10⟩
theorem rj_put {t : TD} {g h i j k : Nat} {y : Option V} {σ : L2.St} {H : Hp} (R : RJ C T d l c0 t g h i j σ H) (hi : k ∉ [1, 3, 4, 5, 6, 7, 8, 9] := by decide) (h10 : k ≠ 10 := by decide) (h11 : k ≠ 11 := by decide) (h12 : k ≠ 12 := by decide) : RJ C T d l c0 t g h i j (σ.set k y) H := by
  obtain ⟨HB, q, a1, a2, a3, a4, a5, a6, a7, a8, a9, a10⟩ := R
  exact ⟨HB, q, a1.put hi, a2, a3, a4, a5.put h10, a6.put h11, a7.put h12, a8, a9, a10⟩
def RP0 (C : Addr) (T : List (Addr × Str)) (d l c0 : Addr) (t : TD) (g h i j : Nat) : L2.St → Hp → Prop := fun σ H => RJ C T d l c0 t g h i j σ H ∧ Sl σ 13 (.int (i : Nat)) ∧ i < 2 ^ t.n ∧ Sl σ 16 (.int (j : Nat)) ∧ j < 2 ^ t.m
def RP (C : Addr) (T : List (Addr × Str)) (d l c0 : Addr) (t : TD) (g h i j : Nat) : L2.St → Hp → Prop := fun σ H => RP0 C T d l c0 t g h i j σ H ∧ ∃ a b, Sl σ 17 (.ref a) ∧ H a = some (.tup ((bitsF t.n (i : Nat)).map V.int)) ∧ Sl σ 18 (.ref b) ∧ H b = some (.tup ((bitsF t.m (j : Nat)).map V.int))
end
section
variable {P : Program} {w : World} {K : PySem.W.Frag} {mg : Str → Option Value} {base : Heap} {f c : Addr} {A : Around} {outer : List Env} {s : Shared} {H0 : Hp} {E : XK} {C CN CR CT CB fI : Addr} {fdI : FuncData} {T : List (Addr × Str)} {d l c0 : Addr}
/-- leg, spot, due = .. -/
theorem two0 (L : LD P w K mg base C CN CR CT CB fI fdI) (hr : Room 10 (LX P w K mg base f c A outer s H0 E).A) (t : TD) :
    PS (LX P w K mg base f c A outer s H0 E) (sTwo 0) (tTri (fun σ H => GT C T d l c0 t σ H ∧ 0 < t.n ∧ 0 < t.m) (fun σ H => ∃ gh : Nat × Nat, RJ C T d l c0 t gh.1 gh.2 0 0 σ H)) := by
  refine tri (ps_par3 (i := 11) (j := 12) (l := 10) (by rfl) scL.nd rfl rfl rfl (by decide) (by decide) (by decide) rfl rfl rfl (pa_cons (pe_df L.take hr (by decide) rfl pass0 (pa_cons (pv 1) (pa_cons (pv 4) pa_nil))) (pa_cons (pe_df L.take hr (by decide) rfl pass0 (pa_cons (pv 1) (pa_cons (pv 5) pa_nil)))
    (pa_cons (pe_op op_rep (pe_lst (pa_cons pe_int pa_nil)) (pe_op op_shl pe_int (pe_op op_sub (pe_op op_add (pv 4) (pv 5)) pe_int))) pa_nil))) (by rfl)) fun D σ H hl ⟨⟨vr, I⟩, hn, hm⟩ go => ?_
  have hl : σ.length = 22 := hl
  have n4 := I.n4
  have m4 := I.m4
  have pn := pow8 (n := t.n + t.m - 2) (by omega)
  have c1 : ((2 ^ (t.n + t.m - 2) : Nat) : Int) ≤ 256 := Int.ofNat_le.mpr pn
  have c2 : (0 : Int) ≤ ((2 ^ (t.n + t.m - 2) : Nat) : Int) := Int.natCast_nonneg _
  refine ⟨_, vr.draw, _, vr.many, d, l, c0, t.n, rfl, I.draw, by omega, by omega, fun g H1 g0 g1 D1 k1 => ?_⟩
  refine ⟨_, vr.draw, _, vr.more, d, l, c0, t.m, rfl, D1, by omega, by omega, fun h H2 h0 h1 D2 k2 => ?_⟩
  refine ⟨(show 1 ≤ sizeLine by rw [sizeLine_eq]; decide), fun p0 hp0 => ?_⟩
  have s0 := new_same (o := .lst [V.int 0]) hp0
  refine ⟨_, vr.many, _, vr.more, _, _, rfl, rfl, _, _, rfl, rfl, 1, (t.n : Int) + (t.m : Int) - 2, rfl, rfl, ⟨by omega, by omega, by decide⟩, ?_⟩
  dsimp only
  rw [shlN (show (t.n : Int) + (t.m : Int) - 2 = ((t.n + t.m - 2 : Nat) : Int) by omega)]
  refine ⟨p0, _, _, rfl, rfl, upd_same, by omega, by omega, ?_, fun q hq => ?_⟩
  · rw [Int.toNat_natCast, sizeLine_eq]
    show 1 * _ ≤ _
    omega
  · rw [Int.toNat_natCast, flat_zeros]
    obtain ⟨g, rfl⟩ := Int.eq_ofNat_of_zero_le g0
    obtain ⟨h, rfl⟩ := Int.eq_ofNat_of_zero_le h0
    refine ⟨_, _, _, rfl, go _ _ ⟨(g, h), upd H2 p0 (.lst [V.int 0]), q, vr.put.put.put, (I.kept D2 (kept_trans k1 k2)).same s0, hq, new_same hq, Sl.here (by rw [List.length_set, List.length_set]; omega), (Sl.here (by omega)).put.put, (Sl.here (by rw [List.length_set]; omega)).put, by omega, by omega, upd_same⟩⟩
/-- one, two = .. -/
theorem pair0 (L : LD P w K mg base C CN CR CT CB fI fdI) (hr : Room 10 (LX P w K mg base f c A outer s H0 E).A) (t : TD) (g h i j : Nat) :
    PS (LX P w K mg base f c A outer s H0 E) (sPair 0) (tTri (RP0 C T d l c0 t g h i j) (RP C T d l c0 t g h i j)) := by
  refine tri (ps_par (i := 17) (j := 18) (by rfl) scL.nd rfl rfl (by decide) rfl rfl (pa_cons (pe_df L.bits hr (by decide) rfl pass0 (pa_cons (pv 13) (pa_cons (pv 4) pa_nil))) (pa_cons (pe_df L.bits hr (by decide) rfl pass0 (pa_cons (pv 16) (pa_cons (pv 5) pa_nil))) pa_nil)) (by rfl)) fun D σ H hl ⟨R, h13, hi, h16, hj⟩ go => ?_
  have hl : σ.length = 22 := hl
  obtain ⟨HB, q, vr, I, a3, a4, a5, a6, a7, a8, a9, a10⟩ := id R
  have n4 := I.n4
  have m4 := I.m4
  refine ⟨_, h13, _, vr.many, (i : Int), t.n, rfl, by omega, fun H1 a s1 n1 h1 => ?_⟩
  refine ⟨_, h16, _, vr.more, (j : Int), t.m, rfl, by omega, fun H2 b s2 n2 h2 => ?_⟩
  exact ⟨_, _, rfl, go _ _ ⟨⟨rj_put (rj_put (rj_same R fun b o e => s2 b o (s1 b o e))), h13.put.put, hi, h16.put.put, hj⟩, a, b, (Sl.here (by omega)).put, s2 _ _ h1, Sl.here (by rw [List.length_set]; omega), h2⟩⟩
/-- index = .. -/
theorem put0 (L : LD P w K mg base C CN CR CT CB fI fdI) (hr : Room 10 (LX P w K mg base f c A outer s H0 E).A) (t : TD) (g h i j : Nat) :
    PS (LX P w K mg base f c A outer s H0 E) (sPut 0) (tTri (fun σ H => RP C T d l c0 t g h i j σ H ∧ joinCond t.n g t.m h i j = true) (fun σ H => (RP C T d l c0 t g h i j σ H ∧ Sl σ 15 (.int (joinNum t.n g t.m h i j))) ∧ joinCond t.n g t.m h i j = true)) := by
  refine tri (ps_set (i := 15) scL.nd rfl (Or.inl rfl) (pe_df L.number hr (by decide) rfl pass0 (pa_cons
    (pe_op (op_catA : OpR _ _ (rCatA K)) (pe_op (op_catA : OpR _ _ (rCatA K)) (pe_op (op_catA : OpR _ _ (rCatA K)) (pe_slice (sl_tupA : SlR _ (rSlA K)) (pv 17) (po_some (pe_op op_add (pv 11) pe_int)) po_none) (pe_slice (sl_tupA : SlR _ (rSlA K)) (pv 17) po_none (po_some (pv 11))))
      (pe_slice (sl_tupA : SlR _ (rSlA K)) (pv 18) (po_some (pe_op op_add (pv 12) pe_int)) po_none)) (pe_slice (sl_tupA : SlR _ (rSlA K)) (pv 18) po_none (po_some (pv 12)))) pa_nil))) fun D σ H hl ⟨⟨⟨R, h13, hi, h16, hj⟩, a, b, h17, ha, h18, hb⟩, hc⟩ go => ?_
  have hl : σ.length = 22 := hl
  obtain ⟨HB, q, vr, I, a3, a4, a5, h11, h12, hg, hh, a10⟩ := id R
  have n4 := I.n4
  have m4 := I.m4
  have la := bits_len (n := t.n) (x := (i : Nat))
  have lb := bits_len (n := t.m) (x := (j : Nat))
  refine ⟨_, h17, _, h11, _, _, rfl, rfl, _, rfl, ?_⟩
  dsimp only [tNoPart]
  refine slA_new (SqT.of ha) ?_ fun H1 q1 s1 hq1 => ?_
  · rw [show ((g : Int) + 1) = ((g + 1 : Nat) : Int) from rfl, HT.sIx_nat, List.length_map, la]
    omega
  rw [cut_hi (by omega)] at hq1
  refine ⟨_, h17, _, h11, g, rfl, slA_new (SqT.of (s1 _ _ ha)) ?_ fun H2 q2 s2 hq2 => ?_⟩
  · rw [HT.sIx_nat, List.length_map, la]
    omega
  rw [cut_lo (by omega)] at hq2
  refine catA_any (sqT_same s2 hq1) hq2 ?_ fun H3 q3 s3 hq3 => ?_
  · rw [List.length_map, List.length_map, List.length_take, List.length_drop, sizeLine_eq]
    omega
  have s13 : ∀ b o, H b = some o → H3 b = some o := fun b o e => s3 b o (s2 b o (s1 b o e))
  refine ⟨_, h18, _, h12, _, _, rfl, rfl, _, rfl, ?_⟩
  dsimp only [tNoPart]
  refine slA_new (SqT.of (s13 _ _ hb)) ?_ fun H4 q4 s4 hq4 => ?_
  · rw [show ((h : Int) + 1) = ((h + 1 : Nat) : Int) from rfl, HT.sIx_nat, List.length_map, lb]
    omega
  rw [cut_hi (by omega)] at hq4
  refine catA_any (sqT_same s4 hq3) hq4 ?_ fun H5 q5 s5 hq5 => ?_
  · rw [List.length_append, List.length_map, List.length_map, List.length_map, List.length_take, List.length_drop, List.length_drop, sizeLine_eq]
    omega
  refine ⟨_, h18, _, h12, h, rfl, slA_new (SqT.of (s5 _ _ (s4 _ _ (s13 _ _ hb)))) ?_ fun H6 q6 s6 hq6 => ?_⟩
  · rw [HT.sIx_nat, List.length_map, lb]
    omega
  rw [cut_lo (by omega)] at hq6
  refine catA_any (sqT_same s6 hq5) hq6 ?_ fun H7 q7 s7 hq7 => ?_
  · rw [List.length_append, List.length_append, List.length_map, List.length_map, List.length_map, List.length_map, List.length_take, List.length_drop, List.length_drop, List.length_take, sizeLine_eq]
    omega
  have s17 : ∀ b o, H b = some o → H7 b = some o := fun b o e => s7 b o (s6 b o (s5 b o (s4 b o (s13 b o e))))
  refine ⟨q7, (bitsF t.n (i : Nat)).drop (g + 1) ++ (bitsF t.n (i : Nat)).take g ++ (bitsF t.m (j : Nat)).drop (h + 1) ++ (bitsF t.m (j : Nat)).take h, rfl, .inr (by rw [List.map_append, List.map_append, List.map_append]; exact hq7), ?_⟩
  exact go _ _ ⟨⟨⟨⟨rj_put (rj_same R s17), h13.put, hi, h16.put, hj⟩, a, b, h17.put, s17 _ _ ha, h18.put, s17 _ _ hb⟩, Sl.here (by omega)⟩, hc⟩
/-- due[index] = .. -/
theorem put1 (t : TD) (g h i j : Nat) : PS (LX P w K mg base f c A outer s H0 E) (sPut 1) (tTri (fun σ H => (RP C T d l c0 t g h i j σ H ∧ Sl σ 15 (.int (joinNum t.n g t.m h i j))) ∧ joinCond t.n g t.m h i j = true) (fun σ H => RJ C T d l c0 t g h i (j + 1) σ H ∧ Sl σ 13 (.int (i : Nat)))) := by
  refine tri (ps_asg (pe_op op_modN (pe_op op_add (pe_ix (ix_list : IxR _ (rIxL K)) (pv 10) (pv 15) (fun _ _ => rfl)) (pe_op op_mul (pe_ix (ix_list : IxR _ (rIxL K)) (pv 6) (pv 13) (fun _ _ => rfl)) (pe_ix (ix_list : IxR _ (rIxL K)) (pv 7) (pv 16) (fun _ _ => rfl)))) (pv 3)) (pg_sub (pv 10) (pv 15) set_list)) fun D σ H hl ⟨⟨⟨⟨R, h13, hi, h16, hj⟩, _⟩, h15⟩, hc⟩ go => ?_
  obtain ⟨HB, q, vr, I, a3, a4, h10, h11, h12, hg, hh, hq⟩ := id R
  have hp := I.okA.least
  have hn := joinNum_dec t.n I.n4 g hg t.m I.m4 h hh
  obtain ⟨k0, k1⟩ := of_decide_eq_true (List.all_eq_true.mp (List.all_eq_true.mp hn i (List.mem_range.mpr hi)) j (List.mem_range.mpr hj))
  have rl := run_len (p := t.p) (val := mulF t.ns t.ms) (N := 2 ^ (t.n + t.m - 2)) (joinOps t.n g t.m h i ++ joinRow t.n g t.m h i j)
  have f1 := I.okA.field _ (pick_mem (ns := t.ns) (i := (i : Nat)) (by omega) (by rw [I.okA.len]; omega))
  refine ⟨_, h10, _, h15, q, _, _, _, rfl, rfl, SqL.of hq, at_pick k0 (by rw [rl]; exact k1), _, vr.first, _, h13, t.a, _, _, _, rfl, rfl, SqL.of (a4 _ _ I.a), at_pick (by omega) (by rw [I.okA.len]; omega), _, vr.second, _, h16, t.b, _, _, _, rfl, rfl, SqL.of (a4 _ _ I.b), at_pick (by omega) (by rw [I.okB.len]; omega),
    _, _, rfl, rfl, .inl ⟨by omega, by omega⟩, _, _, rfl, rfl, _, vr.prime, _, _, rfl, rfl, (show t.p ≠ 0 by omega), ?_⟩
  refine ⟨_, h10, _, h15, q, _, _, _, rfl, rfl, hq, ixN_ok k0 (by rw [List.length_map, rl]; exact k1), ?_⟩
  refine go _ _ ⟨⟨HB, q, vr, I, a3, fun b o e => ?_, h10, h11, h12, hg, hh, ?_⟩, h13⟩
  · rw [upd_ne (ne_of_none e a3)]
    exact a4 b o e
  · rw [upd_same, joinRow_yes hc, ← List.append_assoc, run_more, set_ints]
    rfl
/-- if one[leg] == two[spot]: .. -/
theorem pair1 (L : LD P w K mg base C CN CR CT CB fI fdI) (hr : Room 10 (LX P w K mg base f c A outer s H0 E).A) (t : TD) (g h i j : Nat) :
    PS (LX P w K mg base f c A outer s H0 E) (sPair 1) (tTri (RP C T d l c0 t g h i j) (fun σ H => RJ C T d l c0 t g h i (j + 1) σ H ∧ Sl σ 13 (.int (i : Nat)))) := by
  refine tri (ps_if (pt_cmpR op_eq (pe_ix (ix_tup : IxR _ (rIxT K)) (pv 17) (pv 11) (fun _ _ => rfl)) (pe_ix (ix_tup : IxR _ (rIxT K)) (pv 18) (pv 12) (fun _ _ => rfl)) (nomark _))
      (tri_cons (put0 (C := C) (T := T) (d := d) (l := l) (c0 := c0) L hr t g h i j) (tri_last (put1 t g h i j))) pss_nil) fun D σ H hl ⟨⟨R, h13, hi, h16, hj⟩, a, b, h17, ha, h18, hb⟩ go => ?_
  obtain ⟨HB, q, vr, I, a3, a4, h10, h11, h12, hg, hh, hq⟩ := id R
  have la := bits_len (n := t.n) (x := (i : Nat))
  have lb := bits_len (n := t.m) (x := (j : Nat))
  refine ⟨_, h17, _, h11, a, _, g, _, rfl, rfl, SqT.of ha, at_pick (by omega) (by omega), _, h18, _, h12, b, _, h, _, rfl, rfl, SqT.of hb, at_pick (by omega) (by omega), rfl, _, rfl, ?_⟩
  rw [dec_int]
  cases hc : joinCond t.n g t.m h i j with
  | true =>
    rw [show decide (pickF (bitsF t.n (i : Nat)) (g : Nat) = pickF (bitsF t.m (j : Nat)) (h : Nat)) = true from hc]
    exact iteT ⟨⟨⟨⟨R, h13, hi, h16, hj⟩, a, b, h17, ha, h18, hb⟩, rfl⟩, go⟩
  | false =>
    rw [show decide (pickF (bitsF t.n (i : Nat)) (g : Nat) = pickF (bitsF t.m (j : Nat)) (h : Nat)) = false from hc]
    refine iteF (go _ _ ⟨⟨HB, q, vr, I, a3, a4, h10, h11, h12, hg, hh, ?_⟩, h13⟩)
    rw [joinRow_no hc]
    exact hq
/-- for j in range(1 << more): .. -/
theorem inner (L : LD P w K mg base C CN CR CT CB fI fdI) (hr : Room 10 (LX P w K mg base f c A outer s H0 E).A) (t : TD) (g h i : Nat) :
    PS (LX P w K mg base f c A outer s H0 E) sIn (tTri (fun σ H => RJ C T d l c0 t g h i 0 σ H ∧ Sl σ 13 (.int (i : Nat)) ∧ i < 2 ^ t.n) (RJ C T d l c0 t g h (i + 1) 0)) := by
  have B := L.B
  refine tri (ps_for PassesOwn.never rfl (pi_range1 (by rfl) B.range (pa_cons (pe_op op_shl pe_int (pv 5)) pa_nil)) (pg_name (i := 16) scL.nd rfl (Or.inl rfl))
    (triP (n := 22) (ι := Nat) (A := fun j => RP0 C T d l c0 t g h i j) (B := fun j σ H => RJ C T d l c0 t g h i (j + 1) σ H ∧ Sl σ 13 (.int (i : Nat))) rfl fun j => by exact tri_cons (pair0 L hr t g h i j) (tri_last (pair1 L hr t g h i j)))) fun D σ H hl ⟨R, h13, hi⟩ go => ?_
  obtain ⟨HB, q, vr, I, _⟩ := id R
  have m4 := I.m4
  have pn := pow8 (n := t.m) (by omega)
  have c1 : ((2 ^ t.m : Nat) : Int) ≤ 256 := Int.ofNat_le.mpr pn
  have c2 : (0 : Int) ≤ ((2 ^ t.m : Nat) : Int) := Int.natCast_nonneg _
  refine ⟨_, vr.more, 1, t.m, rfl, rfl, ⟨by omega, by omega, by decide⟩, ?_⟩
  dsimp only
  rw [shl1]
  refine ⟨_, rfl, by omega, by omega, for_it walk_range (fun j σ H' => RJ C T d l c0 t g h i j σ H' ∧ Sl σ 13 (.int (i : Nat))) ⟨R, h13⟩ (fun _ _ _ _ _ => trivial) ?_ ?_⟩
  · rintro j x σ H' H'' hj ⟨h1, h2⟩ ⟨rfl, rfl⟩
    rw [Int.toNat_natCast] at hj
    refine ⟨j, fun hl2 => ⟨rj_put h1, h2.put, hi, ?_, hj⟩, fun σ' H3 h3 => h3⟩
    show Sl (σ.set 16 (some (V.int ((0 : Int) + (j : Nat))))) 16 (V.int (j : Nat))
    rw [Int.zero_add]
    exact Sl.here (by rw [List.length_set] at hl2; omega)
  · rintro σ H' ⟨R, _⟩
    rw [Int.toNat_natCast] at R
    obtain ⟨HB, q, vr, I, a3, a4, h10, h11, h12, hg, hh, hq⟩ := R
    refine go _ _ ⟨HB, q, vr, I, a3, a4, h10, h11, h12, hg, hh, ?_⟩
    rw [joinOps_more, show joinRow t.n g t.m h (i + 1) 0 = [] from rfl, List.append_nil]
    exact hq
/-- for k in range(1 << many): .. -/
theorem two1 (L : LD P w K mg base C CN CR CT CB fI fdI) (hr : Room 10 (LX P w K mg base f c A outer s H0 E).A) (t : TD) (g h : Nat) :
    PS (LX P w K mg base f c A outer s H0 E) (sTwo 1) (tTri (RJ C T d l c0 t g h 0 0) (fun σ H => GJ C T d l c0 t g h σ H ∧ Due σ H (joinF t.p (rowF t.ns t.n g) (rowF t.ms t.m h)))) := by
  have B := L.B
  refine tri (ps_for PassesOwn.never rfl (pi_range1 (by rfl) B.range (pa_cons (pe_op op_shl pe_int (pv 4)) pa_nil)) (pg_name (i := 13) scL.nd rfl (Or.inl rfl))
    (triP (n := 22) (ι := Nat) (A := fun i σ H => RJ C T d l c0 t g h i 0 σ H ∧ Sl σ 13 (.int (i : Nat)) ∧ i < 2 ^ t.n) (B := fun i => RJ C T d l c0 t g h (i + 1) 0) rfl fun i => by exact tri_last (inner L hr t g h i))) fun D σ H hl R go => ?_
  obtain ⟨HB, q, vr, I, _⟩ := id R
  have n4 := I.n4
  have pn := pow8 (n := t.n) (by omega)
  have c1 : ((2 ^ t.n : Nat) : Int) ≤ 256 := Int.ofNat_le.mpr pn
  have c2 : (0 : Int) ≤ ((2 ^ t.n : Nat) : Int) := Int.natCast_nonneg _
  refine ⟨_, vr.many, 1, t.n, rfl, rfl, ⟨by omega, by omega, by decide⟩, ?_⟩
  dsimp only
  rw [shl1]
  refine ⟨_, rfl, by omega, by omega, for_it walk_range (fun i σ H' => RJ C T d l c0 t g h i 0 σ H') R (fun _ _ _ _ _ => trivial) ?_ ?_⟩
  · rintro i x σ H' H'' hi h1 ⟨rfl, rfl⟩
    rw [Int.toNat_natCast] at hi
    refine ⟨i, fun hl2 => ⟨rj_put h1, ?_, hi⟩, fun σ' H3 h3 => h3⟩
    show Sl (σ.set 13 (some (V.int ((0 : Int) + (i : Nat))))) 13 (V.int (i : Nat))
    rw [Int.zero_add]
    exact Sl.here (by rw [List.length_set] at hl2; omega)
  · rintro σ H' R
    rw [Int.toNat_natCast] at R
    obtain ⟨HB, q, vr, I, a3, a4, h10, h11, h12, hg, hh, hq⟩ := R
    rw [show joinRow t.n g t.m h (2 ^ t.n) 0 = [] from rfl, List.append_nil, join_run I.n4 hg I.m4 hh] at hq
    exact go _ _ ⟨⟨⟨vr, I.same a4⟩, h11, h12, hg, hh⟩, q, h10, hq⟩
/-- the check of joined -/
theorem two2 (L : LD P w K mg base C CN CR CT CB fI fdI) (hG : (LX P w K mg base f c A outer s H0 E).A.guards = some []) (hr : Room 10 (LX P w K mg base f c A outer s H0 E).A) (t : TD) (g h : Nat) :
    PS (LX P w K mg base f c A outer s H0 E) (sTwo 2) (tTri (fun σ H => GJ C T d l c0 t g h σ H ∧ Due σ H (joinF t.p (rowF t.ns t.n g) (rowF t.ms t.m h))) (fun σ H => GJ C T d l c0 t g h σ H ∧ Due σ H (joinF t.p (rowF t.ns t.n g) (rowF t.ms t.m h)))) := by
  obtain ⟨fE, dE, NE, GE, bE⟩ := L.eq
  refine tri (ps_if (pw_or (pt_not (pt_val (pe_dfg hG L.isRule hr (by decide) (by rfl) (pa_cons (pe_df L.joined.df hr (by decide) (by rfl) passL (pa_cons (pv 8) (pa_cons (pv 11) (pa_cons (pv 9) (pa_cons (pv 12) pa_nil))))) (pa_cons (pv 3) (pa_cons (pv 10) pa_nil))))))
      (pw_or1 (pt_cmpR (op_neR NE GE bE pass0 (hr.mono (by decide))) (pe_dfk L.joined hr (by decide) (by rfl) passL (pk_cons (pv 12) (pk_cons (pv 9) (pk_cons (pv 11) (pk_cons (pv 8) pk_nil))))) (pe_rule L.MR hr (by decide) (by rfl) (by exact pa_cons (pv 3) (pa_cons (pv 10) pa_nil))) (nomark _)))).pt
    (pss_one (ps_ret pe_bl)) pss_nil) fun D σ H hl ⟨⟨⟨vr, I⟩, h11, h12, hg, hh⟩, due, v10, hdue⟩ go => ?_
  have n10 : t.n + t.m ≤ 10 := by have := I.n4; have := I.m4; omega
  have okS := joinF_ok I.okA I.okB hg hh n10
  refine ⟨_, vr.rule, _, h11, _, vr.other, _, h12, _, _, _, _, _, rfl, .rule I.r, .inr ⟨_, _, _, _, rfl, .rule I.o, .inr ⟨_, _, _, _, rfl, .num g, .inr ⟨g, rfl, hg, .inr ⟨rfl, _, .num h, .inr ⟨h, rfl, hh, .inr ⟨n10, I.okA, I.okB, fun H1 q1 s1 r1 => ?_⟩⟩⟩⟩⟩⟩⟩
  refine ⟨_, vr.prime, _, v10, q1, due, t.p, t.n + t.m - 2, _, rfl, r1, okS, s1 _ _ hdue, fun H2 s2 => ⟨_, rfl, iteF ?_⟩⟩
  have s02 : ∀ b o, H b = some o → H2 b = some o := fun b o z => s2 b o (s1 b o z)
  refine ⟨_, h12, _, vr.other, _, h11, _, vr.rule, _, _, _, _, _, rfl, .rule (I.r.same s02), .inr ⟨_, _, _, _, rfl, .rule (I.o.same s02), .inr ⟨_, _, _, _, rfl, .num g, .inr ⟨g, rfl, hg, .inr ⟨rfl, _, .num h, .inr ⟨h, rfl, hh, .inr ⟨n10, I.okA, I.okB, fun H3 q3 s3 r3 => ?_⟩⟩⟩⟩⟩⟩⟩
  have s03 : ∀ b o, H b = some o → H3 b = some o := fun b o z => s3 b o (s02 b o z)
  refine ⟨_, vr.prime, _, v10, ?_⟩
  refine made okS (s03 _ _ hdue) fun H4 q4 s4 r4 => ?_
  refine neR_false (r3.same s4) r4 ⟨_, rfl, iteF ?_⟩
  have s04 : ∀ b o, H b = some o → H4 b = some o := fun b o z => s4 b o (s03 b o z)
  exact go _ _ ⟨⟨⟨vr, I.same s04⟩, h11, h12, hg, hh⟩, due, v10, s04 _ _ hdue⟩
theorem turnOk8 {p : Int} {n m : Nat} {ns : List Int} (ok : RuleOk p n ns) (hm : m ≤ 8) : RuleOk p n ((idxF n (turnOrder n m) 0).map (pickF ns)) := by
  refine pick_ok ok ?_ (order_ok ok.eight (turn_all n ok.eight m hm)).2.2
  unfold idxF
  rw [sums_len, List.length_map]
  unfold turnOrder
  rw [List.length_map, List.length_range]
/-- joined is turned, beside, closed -/
theorem two3 (L : LD P w K mg base C CN CR CT CB fI fdI) (hr : Room 10 (LX P w K mg base f c A outer s H0 E).A) (t : TD) (g h : Nat) :
    PS (LX P w K mg base f c A outer s H0 E) (sTwo 3) (tTri (fun σ H => GJ C T d l c0 t g h σ H ∧ Due σ H (joinF t.p (rowF t.ns t.n g) (rowF t.ms t.m h))) (GT C T d l c0 t)) := by
  obtain ⟨fE, dE, NE, GE, bE⟩ := L.eq
  refine tri (ps_if (pt_cmpR (op_neR NE GE bE pass0 (hr.mono (by decide))) (pe_df L.closed.df hr (by decide) (by rfl) passL (pa_cons (pe_df L.beside.df hr (by decide) (by rfl) passL (pa_cons (pe_df L.turned.df hr (by decide) (by rfl) passL (pa_cons (pv 8) (pa_cons (pe_op op_modN (pe_op op_add (pv 11) pe_int) (pv 4)) pa_nil)))
      (pa_cons (pe_df L.turned.df hr (by decide) (by rfl) passL (pa_cons (pv 9) (pa_cons (pv 12) pa_nil))) pa_nil))) (pa_cons (pe_op op_sub (pv 4) pe_int) (pa_cons (pv 4) pa_nil)))) (pe_rule L.MR hr (by decide) (by rfl) (by exact pa_cons (pv 3) (pa_cons (pv 10) pa_nil))) (nomark _))
    (pss_one (ps_ret pe_bl)) pss_nil) fun D σ H hl ⟨⟨⟨vr, I⟩, h11, h12, hg, hh⟩, due, v10, hdue⟩ go => ?_
  have n4 := I.n4
  have m4 := I.m4
  have n10 : t.n + t.m ≤ 10 := by omega
  have okS := joinF_ok I.okA I.okB hg hh n10
  have e1 : (((g : Int) + 1)).fmod t.n = (((g + 1) % t.n : Nat) : Int) := by
    rw [Int.fmod_eq_emod_of_nonneg _ (by omega)]
    rfl
  have lt1 : (g + 1) % t.n < t.n := Nat.mod_lt _ (by omega)
  refine ⟨_, vr.rule, _, h11, _, _, rfl, rfl, _, vr.many, _, _, rfl, rfl, (show (t.n : Int) ≠ 0 by omega), _, .int _, some _, _, _, _, rfl, I.r, I.okA, .num _, .inl ⟨(g + 1) % t.n, congrArg some e1, by omega, fun H1 q1 s1 r1 => ?_⟩⟩
  refine ⟨_, vr.other, _, h12, _, .int _, some _, _, _, _, rfl, I.o.same s1, I.okB, .num _, .inl ⟨h, rfl, by omega, fun H2 q2 s2 r2 => ?_⟩⟩
  have s02 : ∀ b o, H b = some o → H2 b = some o := fun b o z => s2 b o (s1 b o z)
  have okA := turnOk8 (m := (g + 1) % t.n) I.okA (by omega)
  have okB := turnOk8 (m := h) I.okB (by omega)
  refine ⟨_, _, _, _, rfl, .rule (r1.same s2), .rule r2, .inl ⟨_, _, _, _, _, rfl, rfl, okA, okB, by omega, fun H3 q3 s3 r3 => ?_⟩⟩
  have s03 : ∀ b o, H b = some o → H3 b = some o := fun b o z => s3 b o (s02 b o z)
  have okC := bes_ok okA okB (by omega)
  refine ⟨_, vr.many, _, _, rfl, rfl, _, vr.many, _, _, _, _, rfl, .rule r3, .inr ⟨_, _, _, _, rfl, .num _, .inr ⟨t.n - 1, some ((t.n : Nat) : Int), congrArg some (show (t.n : Int) - 1 = ((t.n - 1 : Nat) : Int) by omega), by omega, .num _, .inr (.inr ⟨t.n, rfl, by omega, by omega, okC, fun H4 q4 s4 r4 => ?_⟩)⟩⟩⟩
  have s04 : ∀ b o, H b = some o → H4 b = some o := fun b o z => s4 b o (s03 b o z)
  rw [way_eq I.okA I.okB I.n4 hg I.m4 hh] at r4
  refine ⟨_, vr.prime, _, v10, ?_⟩
  refine made okS (s04 _ _ hdue) fun H5 q5 s5 r5 => ?_
  refine neR_false (r4.same s5) r5 ⟨_, rfl, iteF ?_⟩
  exact go _ _ ⟨vr, I.same fun b o z => s5 b o (s04 b o z)⟩
/-- if many > 0 and more > 0: .. -/
theorem st6 (L : LD P w K mg base C CN CR CT CB fI fdI) (hG : (LX P w K mg base f c A outer s H0 E).A.guards = some []) (hr : Room 10 (LX P w K mg base f c A outer s H0 E).A) (t : TD) :
    PS (LX P w K mg base f c A outer s H0 E) (stB 6) (tTri (GT C T d l c0 t) (GT C T d l c0 t)) := by
  refine tri (ps_if (pw_and (pt_cmpR op_gt (pv 4) pe_int (nomark _)) (pw_and1 (pt_cmpR op_gt (pv 5) pe_int (nomark _)))).pt
    (by exact tri_cons (two0 (C := C) (T := T) (d := d) (l := l) (c0 := c0) L hr t) (triAs fun gh : Nat × Nat => tri_cons (two1 L hr t gh.1 gh.2) (tri_cons (two2 L hG hr t gh.1 gh.2) (tri_last (two3 L hr t gh.1 gh.2))))) pss_nil) fun D σ H hl ⟨vr, I⟩ go => ?_
  refine ⟨_, vr.many, _, 0, rfl, rfl, _, rfl, ?_⟩
  by_cases hn : (0 : Int) < t.n
  · rw [decide_eq_true hn]
    refine iteT ⟨_, vr.more, _, 0, rfl, rfl, _, rfl, ?_⟩
    by_cases hm : (0 : Int) < t.m
    · rw [decide_eq_true hm]
      exact iteT ⟨⟨⟨vr, I⟩, by omega, by omega⟩, go⟩
    · rw [decide_eq_false hm]
      exact iteF (go _ _ ⟨vr, I⟩)
  · rw [decide_eq_false hn]
    exact iteF (iteF (go _ _ ⟨vr, I⟩))
end
end K
end
section
set_option linter.all false
set_option maxRecDepth 100000
set_option maxHeartbeats 8000000
namespace K
open PySem PySem.Spec PyProof.Rows L2 LamX Ob
abbrev lawLam : Str := "law.<locals>.<lambda>"
abbrev refLam : Str := "_law_refused.<locals>.<lambda>"
abbrev TL (Pt Pr : Addr) : List (Addr × Str) := [(Pt, lawLam), (Pr, refLam)]
theorem tl_law {Pt Pr : Addr} (ne : Pt ≠ Pr) : ∀ p ∈ TL Pt Pr, p.1 = Pt → p.2 = lawLam := fun p hp e => by
  simp only [List.mem_cons, List.not_mem_nil, or_false] at hp
  rcases hp with rfl | rfl
  · rfl
  · exact absurd e.symm ne
theorem tl_ref {Pt Pr : Addr} (ne : Pt ≠ Pr) : ∀ p ∈ TL Pt Pr, p.1 = Pr → p.2 = refLam := fun p hp e => by
  simp only [List.mem_cons, List.not_mem_nil, or_false] at hp
  rcases hp with rfl | rfl
  · exact absurd e ne
  · rfl
theorem flat_ones (N : Nat) : (List.replicate N [V.int 1]).flatten = (List.replicate N (1 : Int)).map V.int := by
  induction N with
  | zero => rfl
  | succ N ih =>
    rw [List.replicate_succ, List.flatten_cons, ih, List.replicate_succ]
    rfl
abbrev onesN (n : Nat) : List Int := List.replicate (2 ^ n) 1
theorem ones_ok {p : Int} (hp : primeB p = true) {n : Nat} (hn : n ≤ 8) : RuleOk p n (onesN n) := by
  have := prime_range hp
  refine ⟨hp, hn, List.length_replicate, fun x hx => ?_⟩
  rw [List.eq_of_mem_replicate hx]
  omega
def GW (C : Addr) (T : List (Addr × Str)) (d l c0 : Addr) (t : TD) (wd : Addr) : L2.St → Hp → Prop := fun σ H => GT C T d l c0 t σ H ∧ Sl σ 19 (.ref wd) ∧ RuleAt C H wd t.p 8 (onesN 8)
section
variable {C : Addr} {T : List (Addr × Str)} {d l c0 : Addr}
theorem gw_put {t : TD} {wd : Addr} {i : Nat} {y : Option V} {σ : L2.St} {H : Hp} (h : GW C T d l c0 t wd σ H) (hi : i ∉ [1, 3, 4, 5, 6, 7, 8, 9] := by decide) (h2 : i ≠ 19 := by decide) : GW C T d l c0 t wd (σ.set i y) H := ⟨gt_put h.1 hi, h.2.1.put h2, h.2.2⟩
theorem gw_same {t : TD} {wd : Addr} {σ : L2.St} {H H' : Hp} (h : GW C T d l c0 t wd σ H) (s : ∀ b o, H b = some o → H' b = some o) : GW C T d l c0 t wd σ H' := ⟨gt_same h.1 s, h.2.1, h.2.2.same s⟩
theorem gw_kept {t : TD} {wd : Addr} {σ : L2.St} {H H' : Hp} (h : GW C T d l c0 t wd σ H) (D : DrawAt H' d l c0) (k : Kept H H' d l) : GW C T d l c0 t wd σ H' := ⟨gt_kept h.1 D k, h.2.1, rule_kept h.1.2.draw k h.2.2⟩
theorem gw_ext {t : TD} {wd : Addr} {σ : L2.St} {H H' : Hp} (h : GW C T d l c0 t wd σ H) (e : ExtN H H') (tb : Tabs T H') : GW C T d l c0 t wd σ H' := ⟨gt_ext h.1 e tb, h.2.1, rule_ext h.2.2 e⟩
theorem held_same {X : Cx} {dd : LamD} {g c' : Addr} {H H' : Hp} (h : Held X dd g c' H) (s : ∀ b o, H b = some o → H' b = some o) : Held X dd g c' H' := ⟨s _ _ h.1, s _ _ h.2⟩
theorem held_kept {X : Cx} {dd : LamD} {g c' : Addr} {H H' : Hp} (h : Held X dd g c' H) (D : DrawAt H d l c0) (k : Kept H H' d l) : Held X dd g c' H' := ⟨lam_kept D k h.1, code_kept D k h.2⟩
theorem held_ext {X : Cx} {dd : LamD} {g c' : Addr} {H H' : Hp} (h : Held X dd g c' H) (e : ExtN H H') : Held X dd g c' H' := ⟨lam_ext h.1 e, code_ext h.2 e⟩
end
section
variable {P : Program} {w : World} {K : PySem.W.Frag} {mg : Str → Option Value} {base : Heap} {f c : Addr} {A : Around} {outer : List Env} {s : Shared} {H0 : Hp} {E : XK} {C CN CR CT CB fI : Addr} {fdI : FuncData} {T : List (Addr × Str)} {d l c0 : Addr} {Pt Pr : Addr}
/-- wide = Rule(prime_here, [1] * 256) -/
theorem st7 (L : LD P w K mg base C CN CR CT CB fI fdI) (hr : Room 10 (LX P w K mg base f c A outer s H0 E).A) (t : TD) :
    PS (LX P w K mg base f c A outer s H0 E) (stB 7) (tTri (GT C T d l c0 t) (fun σ H => ∃ wd, GW C T d l c0 t wd σ H)) := by
  refine tri (ps_set (i := 19) scL.nd rfl (Or.inr rfl) (pe_rule L.MR hr (by decide) (by rfl) (by exact pa_cons (pv 3) (pa_cons (pe_op op_rep (pe_lst (pa_cons pe_int pa_nil)) pe_int) pa_nil)))) fun D σ H hl ⟨vr, I⟩ go => ?_
  have hl : σ.length = 22 := hl
  refine ⟨_, vr.prime, (show 1 ≤ sizeLine by rw [sizeLine_eq]; decide), fun p0 hp0 => ?_⟩
  have s0 := new_same (o := .lst [V.int 1]) hp0
  refine ⟨p0, _, _, rfl, rfl, upd_same, by decide, by decide, (by rw [sizeLine_eq]; decide), fun q hq => ?_⟩
  have sq := new_same (o := .lst (List.replicate (Int.toNat 256) [V.int 1]).flatten) hq
  refine made (ones_ok I.okA.prime (n := 8) (by decide)) (upd_same.trans (congrArg (fun x => some (HO.lst x)) (flat_ones 256))) fun H1 wd s1 hR => ?_
  exact go _ _ ⟨wd, ⟨vr.put, I.same fun b o e => s1 b o (sq b o (s0 b o e))⟩, Sl.here (by omega), hR⟩
/-! ### for work in [lambda: .., lambda: ..] -/
def dW1 (K : PySem.W.Frag) (C CR CT : Addr) : LamD := ⟨(lamOf ((listOf (stB 8)).getD 0 noExpr)).1, (lamOf ((listOf (stB 8)).getD 0 noExpr)).2.1, (lamOf ((listOf (stB 8)).getD 0 noExpr)).2.2,
  fun E' => tCall (spBeside K C CR CT) [] E' (tCons (tVar 19) (tCons (tMake C (spRInit K C) [] E0 (tCons (tVar 3) (tCons (tLst (tCons (tC (.int 1)) (tCons (tC (.int 0)) tNil))) tNil))) tNil))⟩
def dW2 (K : PySem.W.Frag) (C CN CR CT : Addr) : LamD := ⟨(lamOf ((listOf (stB 8)).getD 1 noExpr)).1, (lamOf ((listOf (stB 8)).getD 1 noExpr)).2.1, (lamOf ((listOf (stB 8)).getD 1 noExpr)).2.2,
  fun E' => tCall (spJoined K C CN CR CT) [] E' (tCons (tVar 19) (tCons (tCall spTake [] E0 (tCons (tVar 1) (tCons (tC (.int 8)) tNil))) (tCons (tMake C (spRInit K C) [] E0 (tCons (tVar 3) (tCons (tOp rRep (tLst (tCons (tC (.int 1)) tNil)) (tC (.int 8))) tNil))) (tCons (tC (.int 1)) tNil))))⟩
theorem dW1_ok (L : LD P w K mg base C CN CR CT CB fI fdI) : LamT (LX P w K mg base f c A outer s H0 E) 8 (dW1 K C CR CT) :=
  ⟨lamS_by (show lamSB (defScope sLaw) (lamOf ((listOf (stB 8)).getD 0 noExpr)).2.2 = true by decide +kernel), fun _ _ _ _ _ => rfl, fun A outer s H E f c' hr => by exact pe_df L.beside.df hr (by decide) (by rfl) (passE (takes_of rfl rfl rfl rfl)) (pa_cons (pv 19) (pa_cons (pe_rule L.MR hr (by decide) (by rfl) (by exact pa_cons (pv 3) (pa_cons (pe_lst (pa_cons pe_int (pa_cons pe_int pa_nil))) pa_nil))) pa_nil))⟩
theorem dW2_ok (L : LD P w K mg base C CN CR CT CB fI fdI) : LamT (LX P w K mg base f c A outer s H0 E) 8 (dW2 K C CN CR CT) :=
  ⟨lamS_by (show lamSB (defScope sLaw) (lamOf ((listOf (stB 8)).getD 1 noExpr)).2.2 = true by decide +kernel), fun _ _ _ _ _ => rfl, fun A outer s H E f c' hr => by exact pe_df L.joined.df hr (by decide) (by rfl) (passE (takes_of rfl rfl rfl rfl)) (pa_cons (pv 19) (pa_cons (pe_df L.take hr (by decide) (by rfl) pass0 (pa_cons (pv 1) (pa_cons pe_int pa_nil)))
    (pa_cons (pe_rule L.MR hr (by decide) (by rfl) (by exact pa_cons (pv 3) (pa_cons (pe_op op_rep (pe_lst (pa_cons pe_int pa_nil)) pe_int) pa_nil))) (pa_cons pe_int pa_nil))))⟩
/-- what stays through the loop: both lambdas -/
def PW (X : Cx) (C : Addr) (T : List (Addr × Str)) (d l c0 : Addr) (t : TD) (wd q f1 c1 f2 c2 : Addr) (d1 d2 : LamD) : L2.St → Hp → Prop := fun σ H => GW C T d l c0 t wd σ H ∧ H q = some (.lst [.ref f1, .ref f2]) ∧ q ≠ l ∧ Held X d1 f1 c1 H ∧ Held X d2 f2 c2 H
theorem pw_same {X : Cx} {t : TD} {wd q f1 c1 f2 c2 : Addr} {d1 d2 : LamD} {σ : L2.St} {H H' : Hp} (h : PW X C T d l c0 t wd q f1 c1 f2 c2 d1 d2 σ H) (s : ∀ b o, H b = some o → H' b = some o) : PW X C T d l c0 t wd q f1 c1 f2 c2 d1 d2 σ H' :=
  ⟨gw_same h.1 s, s _ _ h.2.1, h.2.2.1, held_same h.2.2.2.1 s, held_same h.2.2.2.2 s⟩
theorem pw_kept {X : Cx} {t : TD} {wd q f1 c1 f2 c2 : Addr} {d1 d2 : LamD} {σ : L2.St} {H H' : Hp} (h : PW X C T d l c0 t wd q f1 c1 f2 c2 d1 d2 σ H) (D : DrawAt H' d l c0) (k : Kept H H' d l) : PW X C T d l c0 t wd q f1 c1 f2 c2 d1 d2 σ H' :=
  ⟨gw_kept h.1 D k, lst_kept h.1.1.2.draw k h.2.1 h.2.2.1, h.2.2.1, held_kept h.2.2.2.1 h.1.1.2.draw k, held_kept h.2.2.2.2 h.1.1.2.draw k⟩
/-- the body's first statement -/
theorem work0 (L : LD P w K mg base C CN CR CT CB fI fdI) (hr : Room 10 (LX P w K mg base f c A outer s H0 E).A) (t : TD) (wd q f1 c1 f2 c2 g gc : Addr) (dd : LamD) (hdd : dd = dW1 K C CR CT ∨ dd = dW2 K C CN CR CT) :
    PS (LX P w K mg base f c A outer s H0 E) ((forBody (stB 8)).getD 0 noStmt) (tTri (fun σ H => PW (LX P w K mg base f c A outer s H0 E) C T d l c0 t wd q f1 c1 f2 c2 (dW1 K C CR CT) (dW2 K C CN CR CT) σ H ∧ Sl σ 20 (.ref g) ∧ Held (LX P w K mg base f c A outer s H0 E) dd g gc H)
      (fun σ H => (PW (LX P w K mg base f c A outer s H0 E) C T d l c0 t wd q f1 c1 f2 c2 (dW1 K C CR CT) (dW2 K C CN CR CT) σ H ∧ Sl σ 20 (.ref g) ∧ Held (LX P w K mg base f c A outer s H0 E) dd g gc H) ∧ CaughtAt 21 CT "most" (.int 8) σ H)) := by
  refine st_caught (ic := 21) (k := 8) (ds := [dW1 K C CR CT, dW2 K C CN CR CT]) L.caught L.eT.exm hr (by decide) (fun d hd => ?_) (by rfl) scL.nd rfl (Or.inl rfl) (.inr rfl) (pv 20) (by rfl) ?_ ?_ ?_
  · simp only [List.mem_cons, List.not_mem_nil, or_false] at hd
    rcases hd with rfl | rfl
    · exact dW1_ok L
    · exact dW2_ok L
  · rintro σ H Q hl ⟨p, h20, held⟩ k
    have hm : dd ∈ [dW1 K C CR CT, dW2 K C CN CR CT] := by rcases hdd with rfl | rfl <;> simp
    refine ⟨_, h20, k g gc dd H ⟨p, h20, held⟩ hm held fun E' Q' ra => ?_⟩
    obtain ⟨⟨⟨vr, I⟩, h19, hw⟩, hq⟩ := id p
    rcases hdd with rfl | rfl
    · refine ⟨_, h19, _, vr.prime, (show 2 ≤ sizeLine by rw [sizeLine_eq]; decide), fun p0 hp0 => ?_⟩
      have s0 := new_same (o := .lst [V.int 1, V.int 0]) hp0
      have okN : RuleOk t.p 1 [1, 0] := by
        have := I.okA.least
        refine ⟨I.okA.prime, by decide, rfl, fun x hx => ?_⟩
        simp only [List.mem_cons, List.not_mem_nil, or_false] at hx
        rcases hx with rfl | rfl <;> omega
      refine made okN upd_same fun H1 r1 s1 hR => ?_
      have sm : ∀ b o, H b = some o → H1 b = some o := fun b o e => s1 b o (s0 b o e)
      exact ⟨_, _, _, _, rfl, .rule (hw.same sm), .rule hR, .inr (.inr (.inr ⟨_, _, _, _, _, rfl, rfl, by decide, ra H1 ⟨pw_same p sm, h20, held_same held sm⟩⟩))⟩
    · refine ⟨_, h19, _, vr.draw, d, l, c0, 8, rfl, I.draw, by decide, by decide, fun z H1 z0 z1 D1 k1 => ?_⟩
      refine ⟨_, vr.prime, (show 1 ≤ sizeLine by rw [sizeLine_eq]; decide), fun p0 hp0 => ?_⟩
      have s0 := new_same (o := .lst [V.int 1]) hp0
      refine ⟨p0, _, _, rfl, rfl, upd_same, by decide, by decide, (by rw [sizeLine_eq]; decide), fun q hq => ?_⟩
      have sq := new_same (o := .lst (List.replicate (Int.toNat 8) [V.int 1]).flatten) hq
      refine made (ones_ok I.okA.prime (n := 3) (by decide)) (upd_same.trans (congrArg (fun x => some (HO.lst x)) (flat_ones 8))) fun H2 r1 s1 hR => ?_
      have sm : ∀ b o, H1 b = some o → H2 b = some o := fun b o e => s1 b o (sq b o (s0 b o e))
      obtain ⟨z, rfl⟩ := Int.eq_ofNat_of_zero_le z0
      refine ⟨_, _, _, _, _, rfl, .rule ((rule_kept I.draw k1 hw).same sm), .inr ⟨_, _, _, _, rfl, .rule hR, .inr ⟨_, _, _, _, rfl, .num _, .inr ⟨z, rfl, by omega, .inr ⟨rfl, _, .num 1, .inr ⟨1, rfl, by decide, .inl ⟨by decide, ra H2 ⟨pw_same (pw_kept p D1 k1) sm, h20, held_same (held_kept held I.draw k1) sm⟩⟩⟩⟩⟩⟩⟩⟩
  · rintro σ H H2 ⟨p, h20, held⟩ sm
    exact ⟨pw_same p sm, h20, held_same held sm⟩
  · rintro σ H v ⟨⟨gw, r⟩, h20, held⟩
    exact ⟨⟨gw_put gw, r⟩, h20.put, held⟩
/-- if not isinstance(caught, TooMany) or caught.most != 8: return False -/
theorem work1 (L : LD P w K mg base C CN CR CT CB fI fdI) {G : L2.St → Hp → Prop} : PS (LX P w K mg base f c A outer s H0 E) ((forBody (stB 8)).getD 1 noStmt) (tTri (fun σ H => G σ H ∧ CaughtAt 21 CT "most" (.int 8) σ H) G) := by
  have B := L.B
  refine tri (ps_if (pw_or (pt_not (pt_val (pe_callB call_isC (by rfl) B.isi (by decide +kernel) (pa_cons (pv 21) (pa_cons (pe_glob (v := .ref CT) (by rfl) L.gT rfl) pa_nil)))))
      (pw_or1 (pt_cmpR op_ne (pe_cgt (pv 21)) pe_int (nomark _)))).pt
    (pss_one (ps_ret pe_bl)) pss_nil) fun D σ H hl ⟨hG, a, dd, h16, hC⟩ go => ?_
  refine ⟨_, h16, a, CT, dd, _, .ref CT, .ref CT, true, rfl, hC, L.eT.xc, fun _ z => z, kit_self, true, rfl, iteF ?_⟩
  refine ⟨_, h16, a, CT, dd, _, .int 8, rfl, hC, L.eT.xf, L.eT.xno, rfl, ?_⟩
  refine ⟨rfl, _, rfl, ?_⟩
  rw [decide_eq_true rfl]
  exact iteF (go _ _ hG)
/-- for work in [..]: .. -/
theorem st8 (L : LD P w K mg base C CN CR CT CB fI fdI) (TB : TabB base mg c Pt) (ne : Pt ≠ Pr) (hr : Room 10 (LX P w K mg base f c A outer s H0 E).A) (t : TD) (wd : Addr) :
    PS (LX P w K mg base f c A outer s H0 E) (stB 8) (tTri (GW C (TL Pt Pr) d l c0 t wd) (GW C (TL Pt Pr) d l c0 t wd)) := by
  refine tri (ps_for PassesOwn.never rfl (pi_list (pe_lst (pa_cons (pe_lam TB rfl (T := TL Pt Pr) (List.mem_cons.mpr (.inl rfl)) (tl_law ne) rfl (fun ok => LamS.has (dW1_ok (C := C) (CN := CN) (CR := CR) (CT := CT) L).scope ok)) (pa_cons (pe_lam TB rfl (T := TL Pt Pr) (List.mem_cons.mpr (.inl rfl)) (tl_law ne) rfl (fun ok => LamS.has (dW2_ok (C := C) (CN := CN) (CR := CR) (CT := CT) L).scope ok)) pa_nil)))) (pg_name (i := 20) scL.nd rfl (Or.inl rfl))
    (triP (n := 22) (ι := {z : (Addr × Addr × Addr × Addr × Addr) × (Addr × Addr) × LamD // z.2.2 = dW1 K C CR CT ∨ z.2.2 = dW2 K C CN CR CT})
      (A := fun z σ H => PW (LX P w K mg base f c A outer s H0 E) C (TL Pt Pr) d l c0 t wd z.1.1.1 z.1.1.2.1 z.1.1.2.2.1 z.1.1.2.2.2.1 z.1.1.2.2.2.2 (dW1 K C CR CT) (dW2 K C CN CR CT) σ H ∧ Sl σ 20 (.ref z.1.2.1.1) ∧ Held (LX P w K mg base f c A outer s H0 E) z.1.2.2 z.1.2.1.1 z.1.2.1.2 H)
      (B := fun z σ H => PW (LX P w K mg base f c A outer s H0 E) C (TL Pt Pr) d l c0 t wd z.1.1.1 z.1.1.2.1 z.1.1.2.2.1 z.1.1.2.2.2.1 z.1.1.2.2.2.2 (dW1 K C CR CT) (dW2 K C CN CR CT) σ H ∧ Sl σ 20 (.ref z.1.2.1.1) ∧ Held (LX P w K mg base f c A outer s H0 E) z.1.2.2 z.1.2.1.1 z.1.2.1.2 H)
      rfl fun z => by exact tri_cons (work0 L hr t wd _ _ _ _ _ _ _ z.1.2.2 z.2) (tri_last (work1 L)))) fun D σ H hl g go => ?_
  refine ⟨g.1.2.tabs, fun fa ca H1 e1 tb1 n1 hc1 => ?_⟩
  have s1 := new_same (o := LamO fa lawLam (dW1 K C CR CT).params (dW1 K C CR CT).body (dW1 K C CR CT).scope (cloFrom (LX P w K mg base f c A outer s H0 E).env.cells (dW1 K C CR CT).scope.names []) ca) n1
  have g1 := gw_same (gw_ext g e1 tb1) s1
  have hd1 : Held (LX P w K mg base f c A outer s H0 E) (dW1 K C CR CT) fa ca (upd H1 fa (LamO fa lawLam (dW1 K C CR CT).params (dW1 K C CR CT).body (dW1 K C CR CT).scope (cloFrom (LX P w K mg base f c A outer s H0 E).env.cells (dW1 K C CR CT).scope.names []) ca)) := ⟨upd_same, s1 _ _ hc1⟩
  refine ⟨g1.1.2.tabs, fun fb cb H2 e2 tb2 n2 hc2 => ?_⟩
  have s2 := new_same (o := LamO fb lawLam (dW2 K C CN CR CT).params (dW2 K C CN CR CT).body (dW2 K C CN CR CT).scope (cloFrom (LX P w K mg base f c A outer s H0 E).env.cells (dW2 K C CN CR CT).scope.names []) cb) n2
  have g2 := gw_same (gw_ext g1 e2 tb2) s2
  have hd1' := held_same (held_ext hd1 e2) s2
  have hd2 : Held (LX P w K mg base f c A outer s H0 E) (dW2 K C CN CR CT) fb cb (upd H2 fb (LamO fb lawLam (dW2 K C CN CR CT).params (dW2 K C CN CR CT).body (dW2 K C CN CR CT).scope (cloFrom (LX P w K mg base f c A outer s H0 E).env.cells (dW2 K C CN CR CT).scope.names []) cb)) := ⟨upd_same, s2 _ _ hc2⟩
  refine ⟨(show 2 ≤ sizeLine by rw [sizeLine_eq]; decide), fun q hq => ⟨q, rfl, ⟨_, SqL.of upd_same⟩, ?_⟩⟩
  have sq := new_same (o := .lst [.ref fa, .ref fb]) hq
  refine for_list (K := K) (a := q) (xs := [.ref fa, .ref fb]) (fun i σ H' => PW (LX P w K mg base f c A outer s H0 E) C (TL Pt Pr) d l c0 t wd q fa ca fb cb (dW1 K C CR CT) (dW2 K C CN CR CT) σ H') ⟨gw_same g2 sq, upd_same, (draw_new g2.1.2.draw hq).2, held_same hd1' sq, held_same hd2 sq⟩ (fun i σ H' _ h => SqL.of h.2.1) ?_ (fun σ H' h => go _ _ h.1)
  rintro i x σ H' hx h
  obtain ⟨y, cy, dy, rfl, hy, hdy⟩ : ∃ y cy dy, x = V.ref y ∧ Held (LX P w K mg base f c A outer s H0 E) dy y cy H' ∧ (dy = dW1 K C CR CT ∨ dy = dW2 K C CN CR CT) := by
    match i, hx with
    | 0, hx => cases hx; exact ⟨_, _, _, rfl, h.2.2.2.1, .inl rfl⟩
    | 1, hx => cases hx; exact ⟨_, _, _, rfl, h.2.2.2.2, .inr rfl⟩
    | i + 2, hx => simp at hx
  exact ⟨⟨((q, fa, ca, fb, cb), (y, cy), dy), hdy⟩, fun hl2 => ⟨⟨gw_put h.1, h.2⟩, Sl.here (by rw [List.length_set] at hl2; omega), hy⟩, fun σ' H'' h' => h'.1⟩
end
end K
end
section
set_option linter.all false
set_option maxRecDepth 100000
set_option maxHeartbeats 8000000
/-! for work, kind, part in [(lambda: .., "..", ..), ..] -/
namespace K
open PySem PySem.Spec PyProof.Rows L2 LamX Ob
/-- one refusal: the lambda, the word for its kind, the class of its error, its field -/
structure It where
  dd : LamD
  kind : Str
  cls : Addr
  y : V
/-- it stands at u -/
def ItemAt (X : Cx) (it : It) (u : Addr) (H : Hp) : Prop := ∃ f c', H u = some (.tup [.ref f, .str it.kind, it.y]) ∧ Held X it.dd f c' H
theorem item_ext {X : Cx} {it : It} {u : Addr} {H H' : Hp} (h : ItemAt X it u H) (e : ExtN H H') : ItemAt X it u H' := by
  obtain ⟨f, c', h1, h2, h3⟩ := h
  exact ⟨f, c', tup_ext h1 e, lam_ext h2 e, code_ext h3 e⟩
theorem item_same {X : Cx} {it : It} {u : Addr} {H H' : Hp} (h : ItemAt X it u H) (s : ∀ b o, H b = some o → H' b = some o) : ItemAt X it u H' := item_ext h (extN_same s)
/-- the reading of the display's items -/
def tItem (X : Cx) (T : List (Addr × Str)) (it : It) : TE := tTup (tCons (tLamV T (lq X) it.dd.params it.dd.body it.dd.scope (cloFrom X.env.cells it.dd.scope.names [])) (tCons (tC (.str it.kind)) (tCons (tC it.y) tNil)))
def tItems (X : Cx) (T : List (Addr × Str)) : List It → TA
  | [] => tNil
  | it :: its => tCons (tItem X T it) (tItems X T its)
theorem items_go {X : Cx} {T : List (Addr × Str)} {σ : L2.St} : ∀ (its : List It) (G : Hp → Prop) (hG : ∀ H H', G H → ExtN H H' → Tabs T H' → G H') (hT : ∀ H, G H → Tabs T H) (H : Hp) (Q : List V → Hp → Prop), G H →
    (∀ (us : List Addr) H', us.length = its.length → G H' → (∀ (i : Nat) it u, its[i]? = some it → us[i]? = some u → ItemAt X it u H') → Q (us.map V.ref) H') → tItems X T its σ H Q
  | [], G, hG, hT, H, Q, g, k => k [] H rfl g (fun i it u h => by simp at h)
  | it :: its, G, hG, hT, H, Q, g, k => by
    refine ⟨hT H g, fun f c' H1 e1 tb1 n1 hc1 => ?_⟩
    have s1 := new_same (o := LamO f (lq X) it.dd.params it.dd.body it.dd.scope (cloFrom X.env.cells it.dd.scope.names []) c') n1
    have g1 : G (upd H1 f (LamO f (lq X) it.dd.params it.dd.body it.dd.scope (cloFrom X.env.cells it.dd.scope.names []) c')) := hG _ _ (hG _ _ g e1 tb1) (extN_same s1) (tabs_same tb1 s1)
    refine ⟨(show 3 ≤ sizeLine by rw [sizeLine_eq]; decide), fun u hu => ?_⟩
    have s2 := new_same (o := .tup [.ref f, .str it.kind, it.y]) hu
    have g2 := hG _ _ g1 (extN_same s2) (tabs_same (hT _ g1) s2)
    have at2 : ItemAt X it u (upd (upd H1 f (LamO f (lq X) it.dd.params it.dd.body it.dd.scope (cloFrom X.env.cells it.dd.scope.names []) c')) u (.tup [.ref f, .str it.kind, it.y])) := ⟨f, c', upd_same, s2 _ _ upd_same, s2 _ _ (s1 _ _ hc1)⟩
    refine items_go its (fun H => G H ∧ ItemAt X it u H) (fun H H' ⟨a, b⟩ e t => ⟨hG _ _ a e t, item_ext b e⟩) (fun H ⟨a, _⟩ => hT H a) _ _ ⟨g2, at2⟩ fun us H' hl ⟨gg, gi⟩ hi => ?_
    refine k (u :: us) H' (by rw [List.length_cons, List.length_cons, hl]) gg fun i it' u' h1 h2 => ?_
    match i, h1, h2 with
    | 0, h1, h2 =>
      cases h1
      cases h2
      exact gi
    | i + 1, h1, h2 => exact hi i it' u' h1 h2
end K
end
section
set_option linter.all false
set_option maxRecDepth 100000
set_option maxHeartbeats 8000000
namespace K
open PySem PySem.Spec PyProof.Rows L2 LamX Ob
section
variable {P : Program} {w : World} {K : PySem.W.Frag} {mg : Str → Option Value} {base : Heap} {CR CN : Addr}
def spIsBad (CR CN : Addr) : Sp := fun vs H Q _ => ∃ (a C dd : Addr) (kind : Str) (fs : List (Str × V)), vs = [.ref a, .str kind] ∧ CgtAt H a C dd fs ∧ ((kind = ("rule" : Str) ∧ C = CR) ∨ (kind = ("number" : Str) ∧ C = CN)) ∧ Q (.bl true) H
theorem scIsBad : FnScope ["caught", "kind_here"] ["caught", "kind_here"] (defScope sLIsBad) := ⟨rfl, rfl, rfl, by decide +kernel, rfl, by decide +kernel, by decide +kernel⟩
theorem ok_is_bad {f : Addr} {fd : FuncData} (F : Fun K "_law_is_bad" "_law_is_bad" sLIsBad f fd) (B : Bts mg) (gR : mg "BadRule" = some (.ref CR)) (gN : mg "BadNumber" = some (.ref CN)) (xR : ExcC K CR) (xN : ExcC K CN) : FnOk P w K mg base CX0 1 f fd ["caught", "kind_here"] (spIsBad CR CN) := by
  refine F.ok scIsBad (fun vs H Q E h => ?_) (fun cdv A outer s H vs Q E hr h => ?_)
  · obtain ⟨a, C, dd, kind, fs, rfl, _⟩ := h
    rfl
  · obtain ⟨a, C, dd, kind, fs, rfl, hC, q, k⟩ := h
    refine ⟨_, pss_one (ps_ret (pe_ifExp (pt_cmpR op_eq (pv 1) pe_str (nomark _)) (pe_callB call_isC (by rfl) B.isi (by decide +kernel) (pa_cons (pv 0) (pa_cons (pe_glob (v := .ref CR) (by rfl) gR rfl) pa_nil)))
      (pe_callB call_isC (by rfl) B.isi (by decide +kernel) (pa_cons (pv 0) (pa_cons (pe_glob (v := .ref CN) (by rfl) gN rfl) pa_nil))))), ?_⟩
    refine ⟨_, rfl, rfl, _, rfl, ?_⟩
    rcases q with ⟨rfl, rfl⟩ | ⟨rfl, rfl⟩
    · rw [decide_eq_true rfl]
      exact iteT ⟨_, rfl, a, C, dd, fs, .ref C, .ref C, true, rfl, hC, xR, fun _ z => z, kit_self, k⟩
    · rw [decide_eq_false (show ¬ V.str ("number" : Str) = V.str ("rule" : Str) by decide)]
      exact iteF ⟨_, rfl, a, C, dd, fs, .ref C, .ref C, true, rfl, hC, xN, fun _ z => z, kit_self, k⟩
end
abbrev NR : List Str := ["draw", "rule", "other", "strange", "work", "kind_here", "part_here", "caught", "leg"]
theorem scR : FnScope NR ["draw", "rule", "other"] (defScope sLRefused) := ⟨rfl, rfl, rfl, by decide +kernel, rfl, by decide +kernel, by decide +kernel⟩
abbrev RX (P : Program) (w : World) (K : PySem.W.Frag) (mg : Str → Option Value) (base : Heap) (f c : Addr) (A : Around) (outer : List Env) (s : Shared) (H0 : Hp) (E : XK) : Cx := (cxOf CX0 P w K mg base NR "_law_refused" (defScope sLRefused) f (.ref c) A outer s H0 E).nox
def rS (i : Nat) : Stmt := (defBody sLRefused).getD i noStmt
def rL (i : Nat) : Expr := (listOf (rS 1)).getD i noExpr
def rM (i : Nat) : Expr := (listOf ((ifBody (rS 2)).getD 1 noStmt)).getD i noExpr
def dL (e : Expr) (t : XK → TE) : LamD := ⟨(lamOf e).1, (lamOf e).2.1, (lamOf e).2.2, t⟩
/-- the two rules and the strange one -/
structure RD where
  p : Int
  n : Nat
  m : Nat
  ns : List Int
  ms : List Int
  r : Addr
  o : Addr
  p' : Int
  st : Addr
structure RI (C : Addr) (T : List (Addr × Str)) (d l c : Addr) (t : RD) (σ : L2.St) (H : Hp) : Prop where
  draw : DrawAt H d l c
  tabs : Tabs T H
  r : RuleAt C H t.r t.p t.n t.ns
  o : RuleAt C H t.o t.p t.m t.ms
  st : RuleAt C H t.st t.p' 0 [0]
  ne : t.p' ≠ t.p
  n8 : t.n ≤ 8
  v0 : Sl σ 0 (.ref d)
  v1 : Sl σ 1 (.ref t.r)
  v2 : Sl σ 2 (.ref t.o)
  v3 : Sl σ 3 (.ref t.st)
section
variable {C : Addr} {T : List (Addr × Str)} {d l c : Addr} {t : RD} {σ : L2.St} {H H' : Hp}
theorem ri_kept (I : RI C T d l c t σ H) (D : DrawAt H' d l c) (k : Kept H H' d l) : RI C T d l c t σ H' := ⟨D, tabs_kept I.draw k I.tabs, rule_kept I.draw k I.r, rule_kept I.draw k I.o, rule_kept I.draw k I.st, I.ne, I.n8, I.v0, I.v1, I.v2, I.v3⟩
theorem ri_same (I : RI C T d l c t σ H) (s : ∀ b o, H b = some o → H' b = some o) : RI C T d l c t σ H' := ri_kept I (draw_same I.draw s) (kept_same s)
theorem ri_ext (I : RI C T d l c t σ H) (e : ExtN H H') (tb : Tabs T H') : RI C T d l c t σ H' := ⟨draw_ext I.draw e, tb, rule_ext I.r e, rule_ext I.o e, rule_ext I.st e, I.ne, I.n8, I.v0, I.v1, I.v2, I.v3⟩
theorem ri_put {i : Nat} {y : Option V} (I : RI C T d l c t σ H) (hi : i ∉ [0, 1, 2, 3] := by decide) : RI C T d l c t (σ.set i y) H := by
  simp only [List.mem_cons, List.not_mem_nil, not_or, or_false] at hi
  obtain ⟨h0, h1, h2, h3⟩ := hi
  exact ⟨I.draw, I.tabs, I.r, I.o, I.st, I.ne, I.n8, I.v0.put h0, I.v1.put h1, I.v2.put h2, I.v3.put h3⟩
end
/-! ### the first list -/
section
variable (K : PySem.W.Frag) (C CN CR CT : Addr)
def its1 : List It := [
  ⟨dL (rL 0) fun E' => tCall (spBeside K C CR CT) [] E' (tCons (tVar 1) (tCons (tVar 3) tNil)), "rule", CR, .str "other"⟩,
  ⟨dL (rL 1) fun E' => tCall (spBeside K C CR CT) [] E' (tCons (tVar 1) (tCons (tC .non) tNil)), "rule", CR, .non⟩,
  ⟨dL (rL 2) fun E' => tCall (spBeside K C CR CT) [] E' (tCons (tC .non) (tCons (tVar 3) tNil)), "rule", CR, .non⟩,
  ⟨dL (rL 3) fun E' => tCall (spJoined K C CN CR CT) [] E' (tCons (tC .non) (tCons (tC .non) (tCons (tC .non) (tCons (tC .non) tNil)))), "rule", CR, .non⟩,
  ⟨dL (rL 4) fun E' => tCall (spJoined K C CN CR CT) [] E' (tCons (tVar 1) (tCons (tC .non) (tCons (tC (.int 5)) (tCons (tC .non) tNil)))), "rule", CR, .non⟩,
  ⟨dL (rL 5) fun E' => tCall (spJoined K C CN CR CT) [] E' (tCons (tVar 1) (tCons (tFld K (tVar 1) "legs") (tCons (tVar 3) (tCons (tC .non) tNil)))), "number", CN, .str "leg"⟩,
  ⟨dL (rL 6) fun E' => tCall (spClosed K C CN CR) [] E' (tCons (tC .non) (tCons (tC .non) (tCons (tC .non) tNil))), "rule", CR, .non⟩,
  ⟨dL (rL 7) fun E' => tCall (spClosed K C CN CR) [] E' (tCons (tVar 1) (tCons (tUn (rU fun i => .int (-i)) (tC (.int 1))) (tCons (tC .non) tNil))), "number", CN, .str "leg"⟩,
  ⟨dL (rL 8) fun E' => tCall (spClosed K C CN CR) [] E' (tCons (tVar 1) (tCons (tC (.bl true)) (tCons (tC .non) tNil))), "number", CN, .str "leg"⟩]
def its2 : List It := [
  ⟨dL (rM 0) fun E' => tCall (spJoined K C CN CR CT) [] E' (tCons (tVar 1) (tCons (tVar 8) (tCons (tVar 3) (tCons (tC .non) tNil)))), "rule", CR, .str "other"⟩,
  ⟨dL (rM 1) fun E' => tCall (spJoined K C CN CR CT) [] E' (tCons (tVar 1) (tCons (tVar 8) (tCons (tVar 2) (tCons (tFld K (tVar 2) "legs") tNil)))), "number", CN, .str "place"⟩,
  ⟨dL (rM 2) fun E' => tCall (spJoined K C CN CR CT) [] E' (tCons (tVar 1) (tCons (tVar 8) (tCons (tVar 2) (tCons (tC .non) tNil)))), "number", CN, .str "place"⟩,
  ⟨dL (rM 3) fun E' => tCall (spClosed K C CN CR) [] E' (tCons (tVar 1) (tCons (tVar 8) (tCons (tVar 8) tNil))), "number", CN, .str "other"⟩,
  ⟨dL (rM 4) fun E' => tCall (spClosed K C CN CR) [] E' (tCons (tVar 1) (tCons (tVar 8) (tCons (tFld K (tVar 1) "legs") tNil))), "number", CN, .str "other"⟩]
end
/-- what is asked of a refusal -/
structure ItemOk (X : Cx) (CB CR CN : Addr) (k : Nat) (RR : L2.St → Hp → Prop) (it : It) : Prop where
  lam : LamT X k it.dd
  read : ∀ σ H (E' : XK) (Q' : VK), RR σ H → Raised it.cls "part" it.y H E' → it.dd.t E' σ H Q'
  sc : scal it.y it.y = true
  kind : (it.kind = ("rule" : Str) ∧ it.cls = CR) ∨ (it.kind = ("number" : Str) ∧ it.cls = CN)
  err : ErrC X.K CB it.cls "part"
section
variable {P : Program} {w : World} {K : PySem.W.Frag} {mg : Str → Option Value} {base : Heap} {f c : Addr} {A : Around} {outer : List Env} {s : Shared} {H0 : Hp} {E : XK} {C CN CR CT CB fI : Addr} {fdI : FuncData} {T : List (Addr × Str)} {d l c0 : Addr}
theorem out_neg {n : Nat} : within (some (-1)) 0 ((n : Int) - 1) = false := by
  unfold within
  simp
theorem out_n {n : Nat} : within (some ((n : Nat) : Int)) 0 ((n : Int) - 1) = false := by
  unfold within
  simp only [Option.any_some, Bool.and_eq_false_iff, decide_eq_false_iff_not]
  omega
theorem lam3 (L : LD P w K mg base C CN CR CT CB fI fdI) : LamT (RX P w K mg base f c A outer s H0 E) 8 (dL (rL 3) fun E' => tCall (spJoined K C CN CR CT) [] E' (tCons (tC .non) (tCons (tC .non) (tCons (tC .non) (tCons (tC .non) tNil))))) := by
  refine ⟨lamS_by (show lamSB (defScope sLRefused) (lamOf (rL 3)).2.2 = true by decide +kernel), fun _ _ _ _ _ => rfl, fun A outer s H E f c' hr => ?_⟩
  have z : PE (lamCx (RX P w K mg base f c A outer s H0 E) A outer s H E (lamOf (rL 3)).2.2 f c') (lamOf (rL 3)).2.1 (tCall (spJoined K C CN CR CT) [] E (tCons (tC .non) (tCons (tC .non) (tCons (tC .non) (tCons (tC .non) tNil))))) := by
    refine pe_df L.joined.df hr (by decide) (by rfl) ?_ ?_
    · exact passE (takes_of rfl rfl rfl rfl)
    · exact pa_cons pe_non (pa_cons pe_non (pa_cons pe_non (pa_cons pe_non pa_nil)))
  exact z
theorem lam6 (L : LD P w K mg base C CN CR CT CB fI fdI) : LamT (RX P w K mg base f c A outer s H0 E) 8 (dL (rL 6) fun E' => tCall (spClosed K C CN CR) [] E' (tCons (tC .non) (tCons (tC .non) (tCons (tC .non) tNil)))) := by
  refine ⟨lamS_by (show lamSB (defScope sLRefused) (lamOf (rL 6)).2.2 = true by decide +kernel), fun _ _ _ _ _ => rfl, fun A outer s H E f c' hr => ?_⟩
  have z : PE (lamCx (RX P w K mg base f c A outer s H0 E) A outer s H E (lamOf (rL 6)).2.2 f c') (lamOf (rL 6)).2.1 (tCall (spClosed K C CN CR) [] E (tCons (tC .non) (tCons (tC .non) (tCons (tC .non) tNil)))) := by
    refine pe_df L.closed.df hr (by decide) (by rfl) ?_ ?_
    · exact passE (takes_of rfl rfl rfl rfl)
    · exact pa_cons pe_non (pa_cons pe_non (pa_cons pe_non pa_nil))
  exact z
theorem its1_ok (L : LD P w K mg base C CN CR CT CB fI fdI) (eR : ErrC K CB CR "part") (eN : ErrC K CB CN "part") (t : RD) : ∀ it ∈ its1 K C CN CR CT, ItemOk (RX P w K mg base f c A outer s H0 E) CB CR CN 8 (RI C T d l c0 t) it := by
  intro it h
  unfold its1 at h
  simp only [List.mem_cons, List.not_mem_nil, or_false] at h
  have T := L.MR.T
  rcases h with rfl | rfl | rfl | rfl | rfl | rfl | rfl | rfl | rfl
  · refine ⟨⟨lamS_by (show lamSB (defScope sLRefused) (lamOf (rL 0)).2.2 = true by decide +kernel), fun _ _ _ _ _ => rfl, fun A outer s H E f c' hr => by exact pe_df L.beside.df hr (by decide) (by rfl) (passE (takes_of rfl rfl rfl rfl)) (pa_cons (pv 1) (pa_cons (pv 3) pa_nil))⟩, ?_, rfl, .inl ⟨rfl, rfl⟩, eR⟩
    rintro σ H E' Q' I ra
    exact ⟨_, I.v1, _, I.v3, _, _, _, _, rfl, .rule I.r, .rule I.st, .inr (.inr (.inl ⟨_, _, _, _, _, _, rfl, rfl, I.ne, ra⟩))⟩
  · refine ⟨⟨lamS_by (show lamSB (defScope sLRefused) (lamOf (rL 1)).2.2 = true by decide +kernel), fun _ _ _ _ _ => rfl, fun A outer s H E f c' hr => by exact pe_df L.beside.df hr (by decide) (by rfl) (passE (takes_of rfl rfl rfl rfl)) (pa_cons (pv 1) (pa_cons pe_non pa_nil))⟩, ?_, rfl, .inl ⟨rfl, rfl⟩, eR⟩
    rintro σ H E' Q' I ra
    exact ⟨_, I.v1, _, _, _, _, rfl, .rule I.r, rarg_non, .inr (.inl ⟨.inr rfl, ra⟩)⟩
  · refine ⟨⟨lamS_by (show lamSB (defScope sLRefused) (lamOf (rL 2)).2.2 = true by decide +kernel), fun _ _ _ _ _ => rfl, fun A outer s H E f c' hr => by exact pe_df L.beside.df hr (by decide) (by rfl) (passE (takes_of rfl rfl rfl rfl)) (pa_cons pe_non (pa_cons (pv 3) pa_nil))⟩, ?_, rfl, .inl ⟨rfl, rfl⟩, eR⟩
    rintro σ H E' Q' I ra
    exact ⟨_, I.v3, _, _, _, _, rfl, rarg_non, .rule I.st, .inr (.inl ⟨.inl rfl, ra⟩)⟩
  · refine ⟨lam3 L, ?_, rfl, .inl ⟨rfl, rfl⟩, eR⟩
    rintro σ H E' Q' I ra
    exact ⟨_, _, _, _, _, rfl, rarg_non, .inl ⟨rfl, ra⟩⟩
  · refine ⟨⟨lamS_by (show lamSB (defScope sLRefused) (lamOf (rL 4)).2.2 = true by decide +kernel), fun _ _ _ _ _ => rfl, fun A outer s H E f c' hr => by exact pe_df L.joined.df hr (by decide) (by rfl) (passE (takes_of rfl rfl rfl rfl)) (pa_cons (pv 1) (pa_cons pe_non (pa_cons pe_int (pa_cons pe_non pa_nil))))⟩, ?_, rfl, .inl ⟨rfl, rfl⟩, eR⟩
    rintro σ H E' Q' I ra
    exact ⟨_, I.v1, _, _, _, _, _, rfl, .rule I.r, .inr ⟨_, _, _, _, rfl, rarg_int, .inl ⟨rfl, ra⟩⟩⟩
  · refine ⟨⟨lamS_by (show lamSB (defScope sLRefused) (lamOf (rL 5)).2.2 = true by decide +kernel), fun _ _ _ _ _ => rfl, fun A outer s H E f c' hr => by exact pe_df L.joined.df hr (by decide) (by rfl) (passE (takes_of rfl rfl rfl rfl)) (pa_cons (pv 1) (pa_cons (by exact (show PE _ _ (tFld K (tVar 1) "legs") from pe_fld (pv 1) rfl)) (pa_cons (pv 3) (pa_cons pe_non pa_nil))))⟩, ?_, rfl, .inr ⟨rfl, rfl⟩, eN⟩
    rintro σ H E' Q' I ra
    obtain ⟨dx, tt, h1, h2⟩ := id I.r.ex
    exact ⟨_, I.v1, _, I.v1, t.r, C, dx, _, _, rfl, h1, T.cl, T.nL, rfl, _, I.v3, _, _, _, _, _, rfl, .rule I.r, .inr ⟨_, _, _, _, rfl, .rule I.st, .inr ⟨_, _, _, _, rfl, .num _, .inl ⟨out_n, ra⟩⟩⟩⟩
  · refine ⟨lam6 L, ?_, rfl, .inl ⟨rfl, rfl⟩, eR⟩
    rintro σ H E' Q' I ra
    exact ⟨_, _, _, _, rfl, rarg_non, .inl ⟨rfl, ra⟩⟩
  · refine ⟨⟨lamS_by (show lamSB (defScope sLRefused) (lamOf (rL 7)).2.2 = true by decide +kernel), fun _ _ _ _ _ => rfl, fun A outer s H E f c' hr => by exact pe_df L.closed.df hr (by decide) (by rfl) (passE (takes_of rfl rfl rfl rfl)) (pa_cons (pv 1) (pa_cons (pe_un un_neg pe_int) (pa_cons pe_non pa_nil)))⟩, ?_, rfl, .inr ⟨rfl, rfl⟩, eN⟩
    rintro σ H E' Q' I ra
    exact ⟨_, I.v1, 1, rfl, _, _, _, _, rfl, .rule I.r, .inr ⟨_, _, _, _, rfl, .num _, .inl ⟨out_neg, ra⟩⟩⟩
  · refine ⟨⟨lamS_by (show lamSB (defScope sLRefused) (lamOf (rL 8)).2.2 = true by decide +kernel), fun _ _ _ _ _ => rfl, fun A outer s H E f c' hr => by exact pe_df L.closed.df hr (by decide) (by rfl) (passE (takes_of rfl rfl rfl rfl)) (pa_cons (pv 1) (pa_cons pe_bl (pa_cons pe_non pa_nil)))⟩, ?_, rfl, .inr ⟨rfl, rfl⟩, eN⟩
    rintro σ H E' Q' I ra
    exact ⟨_, I.v1, _, _, _, _, rfl, .rule I.r, .inr ⟨_, _, _, _, rfl, thing_bl, .inl ⟨rfl, ra⟩⟩⟩
def RI2 (C : Addr) (T : List (Addr × Str)) (d l c : Addr) (t : RD) (g : Nat) : L2.St → Hp → Prop := fun σ H => RI C T d l c t σ H ∧ Sl σ 8 (.int (g : Nat)) ∧ g < t.n
theorem its2_ok (L : LD P w K mg base C CN CR CT CB fI fdI) (eR : ErrC K CB CR "part") (eN : ErrC K CB CN "part") (t : RD) (g : Nat) : ∀ it ∈ its2 K C CN CR CT, ItemOk (RX P w K mg base f c A outer s H0 E) CB CR CN 8 (RI2 C T d l c0 t g) it := by
  intro it h
  unfold its2 at h
  simp only [List.mem_cons, List.not_mem_nil, or_false] at h
  have T := L.MR.T
  rcases h with rfl | rfl | rfl | rfl | rfl
  · refine ⟨⟨lamS_by (show lamSB (defScope sLRefused) (lamOf (rM 0)).2.2 = true by decide +kernel), fun _ _ _ _ _ => rfl, fun A outer s H E f c' hr => by exact pe_df L.joined.df hr (by decide) (by rfl) (passE (takes_of rfl rfl rfl rfl)) (pa_cons (pv 1) (pa_cons (pv 8) (pa_cons (pv 3) (pa_cons pe_non pa_nil))))⟩, ?_, rfl, .inl ⟨rfl, rfl⟩, eR⟩
    rintro σ H E' Q' ⟨I, h8, hg⟩ ra
    exact ⟨_, I.v1, _, h8, _, I.v3, _, _, _, _, _, rfl, .rule I.r, .inr ⟨_, _, _, _, rfl, .rule I.st, .inr ⟨_, _, _, _, rfl, .num _, .inr ⟨g, rfl, hg, .inl ⟨I.ne, ra⟩⟩⟩⟩⟩
  · refine ⟨⟨lamS_by (show lamSB (defScope sLRefused) (lamOf (rM 1)).2.2 = true by decide +kernel), fun _ _ _ _ _ => rfl, fun A outer s H E f c' hr => by exact pe_df L.joined.df hr (by decide) (by rfl) (passE (takes_of rfl rfl rfl rfl)) (pa_cons (pv 1) (pa_cons (pv 8) (pa_cons (pv 2) (pa_cons (by exact (show PE _ _ (tFld K (tVar 2) "legs") from pe_fld (pv 2) rfl)) pa_nil))))⟩, ?_, rfl, .inr ⟨rfl, rfl⟩, eN⟩
    rintro σ H E' Q' ⟨I, h8, hg⟩ ra
    obtain ⟨dx, tt, h1, h2⟩ := id I.o.ex
    exact ⟨_, I.v1, _, h8, _, I.v2, _, I.v2, t.o, C, dx, _, _, rfl, h1, T.cl, T.nL, rfl, _, _, _, _, _, rfl, .rule I.r, .inr ⟨_, _, _, _, rfl, .rule I.o, .inr ⟨_, _, _, _, rfl, .num _, .inr ⟨g, rfl, hg, .inr ⟨rfl, _, .num _, .inl ⟨out_n, ra⟩⟩⟩⟩⟩⟩
  · refine ⟨⟨lamS_by (show lamSB (defScope sLRefused) (lamOf (rM 2)).2.2 = true by decide +kernel), fun _ _ _ _ _ => rfl, fun A outer s H E f c' hr => by exact pe_df L.joined.df hr (by decide) (by rfl) (passE (takes_of rfl rfl rfl rfl)) (pa_cons (pv 1) (pa_cons (pv 8) (pa_cons (pv 2) (pa_cons pe_non pa_nil))))⟩, ?_, rfl, .inr ⟨rfl, rfl⟩, eN⟩
    rintro σ H E' Q' ⟨I, h8, hg⟩ ra
    exact ⟨_, I.v1, _, h8, _, I.v2, _, _, _, _, _, rfl, .rule I.r, .inr ⟨_, _, _, _, rfl, .rule I.o, .inr ⟨_, _, _, _, rfl, .num _, .inr ⟨g, rfl, hg, .inr ⟨rfl, _, thing_non, .inl ⟨rfl, ra⟩⟩⟩⟩⟩⟩
  · refine ⟨⟨lamS_by (show lamSB (defScope sLRefused) (lamOf (rM 3)).2.2 = true by decide +kernel), fun _ _ _ _ _ => rfl, fun A outer s H E f c' hr => by exact pe_df L.closed.df hr (by decide) (by rfl) (passE (takes_of rfl rfl rfl rfl)) (pa_cons (pv 1) (pa_cons (pv 8) (pa_cons (pv 8) pa_nil)))⟩, ?_, rfl, .inr ⟨rfl, rfl⟩, eN⟩
    rintro σ H E' Q' ⟨I, h8, hg⟩ ra
    exact ⟨_, I.v1, _, h8, _, h8, _, _, _, _, rfl, .rule I.r, .inr ⟨_, _, _, _, rfl, .num _, .inr ⟨g, _, rfl, hg, .num _, .inr (.inl ⟨rfl, ra⟩)⟩⟩⟩
  · refine ⟨⟨lamS_by (show lamSB (defScope sLRefused) (lamOf (rM 4)).2.2 = true by decide +kernel), fun _ _ _ _ _ => rfl, fun A outer s H E f c' hr => by exact pe_df L.closed.df hr (by decide) (by rfl) (passE (takes_of rfl rfl rfl rfl)) (pa_cons (pv 1) (pa_cons (pv 8) (pa_cons (by exact (show PE _ _ (tFld K (tVar 1) "legs") from pe_fld (pv 1) rfl)) pa_nil)))⟩, ?_, rfl, .inr ⟨rfl, rfl⟩, eN⟩
    rintro σ H E' Q' ⟨I, h8, hg⟩ ra
    obtain ⟨dx, tt, h1, h2⟩ := id I.r.ex
    exact ⟨_, I.v1, _, h8, _, I.v1, t.r, C, dx, _, _, rfl, h1, T.cl, T.nL, rfl, _, _, _, _, rfl, .rule I.r, .inr ⟨_, _, _, _, rfl, .num _, .inr ⟨g, _, rfl, hg, .num _, .inl ⟨out_n, ra⟩⟩⟩⟩
end
end K
end
section
set_option linter.all false
set_option maxRecDepth 100000
set_option maxHeartbeats 8000000
namespace K
open PySem PySem.Spec PyProof.Rows L2 LamX Ob
/-- what may be asked of the state through such a loop -/
structure Keeps (T : List (Addr × Str)) (RR : L2.St → Hp → Prop) : Prop where
  same : ∀ σ H H', RR σ H → (∀ b o, H b = some o → H' b = some o) → RR σ H'
  ext : ∀ σ H H', RR σ H → ExtN H H' → Tabs T H' → RR σ H'
  tabs : ∀ σ H, RR σ H → Tabs T H
  put : ∀ σ H i v, i ∈ [4, 5, 6, 7] → RR σ H → RR (σ.set i v) H
def PI (X : Cx) (RR : L2.St → Hp → Prop) (its : List It) (q : Addr) (us : List Addr) : L2.St → Hp → Prop := fun σ H => RR σ H ∧ H q = some (.lst (us.map V.ref)) ∧ ∀ (i : Nat) it u, its[i]? = some it → us[i]? = some u → ItemAt X it u H
def GI (X : Cx) (RR : L2.St → Hp → Prop) (its : List It) (q : Addr) (us : List Addr) (it : It) (g gc : Addr) : L2.St → Hp → Prop := fun σ H => PI X RR its q us σ H ∧ Sl σ 4 (.ref g) ∧ Sl σ 5 (.str it.kind) ∧ Sl σ 6 it.y ∧ Held X it.dd g gc H
section
variable {T : List (Addr × Str)} {RR : L2.St → Hp → Prop} {X : Cx} {its : List It} {q g gc : Addr} {us : List Addr} {it : It} {σ : L2.St} {H H' : Hp}
theorem pi_same (KR : Keeps T RR) (h : PI X RR its q us σ H) (s : ∀ b o, H b = some o → H' b = some o) : PI X RR its q us σ H' := ⟨KR.same _ _ _ h.1 s, s _ _ h.2.1, fun i it u a b => item_same (h.2.2 i it u a b) s⟩
theorem pi_put {i : Nat} {v : Option V} (KR : Keeps T RR) (h : PI X RR its q us σ H) (hi : i ∈ [4, 5, 6, 7]) : PI X RR its q us (σ.set i v) H := ⟨KR.put _ _ _ _ hi h.1, h.2⟩
end
section
variable {P : Program} {w : World} {K : PySem.W.Frag} {mg : Str → Option Value} {base : Heap} {f c : Addr} {A : Around} {outer : List Env} {s : Shared} {H0 : Hp} {E : XK} {C CN CR CT CB fI : Addr} {fdI : FuncData} {T : List (Addr × Str)} {d l c0 : Addr} {Pt Pr : Addr}
theorem item0 (L : LD P w K mg base C CN CR CT CB fI fdI) (hr : Room 10 (RX P w K mg base f c A outer s H0 E).A) {RR : L2.St → Hp → Prop} (KR : Keeps T RR) {its : List It} (hok : ∀ it ∈ its, ItemOk (RX P w K mg base f c A outer s H0 E) CB CR CN 8 RR it) {q : Addr} {us : List Addr} {it : It} (hit : it ∈ its) {g gc : Addr} {p0 p1 p2 p3 p4 : Pos} :
    PS (RX P w K mg base f c A outer s H0 E) (.Assign [.Name "caught" p0] (.Call (.Name "_law_caught" p1) [.Name "work" p2] [] p3) p4) (tTri (GI (RX P w K mg base f c A outer s H0 E) RR its q us it g gc) (fun σ H => GI (RX P w K mg base f c A outer s H0 E) RR its q us it g gc σ H ∧ CaughtAt 7 it.cls "part" it.y σ H)) := by
  have ok := hok it hit
  refine st_caught (ic := 7) (k := 8) (ds := its.map (·.dd)) L.caught ok.err.exm hr (by decide) (fun d hd => ?_) (by rfl) scR.nd rfl (Or.inl rfl) (.inr rfl) (pv 4) (by rfl) ?_ ?_ ?_
  · obtain ⟨it', h1, rfl⟩ := List.mem_map.mp hd
    exact (hok it' h1).lam
  · rintro σ H Q hl ⟨p, h4, h5, h6, held⟩ k
    exact ⟨_, h4, k g gc it.dd H ⟨p, h4, h5, h6, held⟩ (List.mem_map.mpr ⟨it, hit, rfl⟩) held fun E' Q' ra => ok.read σ H E' Q' p.1 (ra H ⟨p, h4, h5, h6, held⟩)⟩
  · rintro σ H H2 ⟨p, h4, h5, h6, held⟩ sm
    exact ⟨pi_same KR p sm, h4, h5, h6, held_same held sm⟩
  · rintro σ H v ⟨p, h4, h5, h6, held⟩
    exact ⟨pi_put KR p (by decide), h4.put, h5.put, h6.put, held⟩
theorem item1 (L : LD P w K mg base C CN CR CT CB fI fdI) (DB : Df P w K mg base CX0 1 "_law_is_bad" ["caught", "kind_here"] (spIsBad CR CN)) (hr : Room 10 (RX P w K mg base f c A outer s H0 E).A) {RR : L2.St → Hp → Prop} {its : List It} (hok : ∀ it ∈ its, ItemOk (RX P w K mg base f c A outer s H0 E) CB CR CN 8 RR it) {q : Addr} {us : List Addr} {it : It} (hit : it ∈ its) {g gc : Addr} {q0 q1 q2 q3 q4 q5 q6 q7 q8 q9 q10 q11 q12 : Pos} {j : Nat} :
    PS (RX P w K mg base f c A outer s H0 E) (.If (.BoolOp .Or [.UnaryOp .Not (.Call (.Name "_law_is_bad" q0) [.Name "caught" q1, .Name "kind_here" q2] [] q3) q4, .Compare (.Attribute (.Name "caught" q5) "part" q6) [.NotEq] [.Name "part_here" q7] q8] q9) [.Return (some (.Constant (.bool false) j q10)) q11] [] q12)
      (tTri (fun σ H => GI (RX P w K mg base f c A outer s H0 E) RR its q us it g gc σ H ∧ CaughtAt 7 it.cls "part" it.y σ H) (GI (RX P w K mg base f c A outer s H0 E) RR its q us it g gc)) := by
  have ok := hok it hit
  refine tri (ps_if (pw_or (pt_not (pt_val (pe_df DB hr (by decide) (by rfl) pass0 (pa_cons (pv 7) (pa_cons (pv 5) pa_nil)))))
      (pw_or1 (pt_cmpR op_ne (pe_cgt (pv 7)) (pv 6) (nomark _)))).pt
    (pss_one (ps_ret pe_bl)) pss_nil) fun D σ H hl ⟨⟨p, h4, h5, h6, held⟩, a, dd, h7, hC⟩ go => ?_
  refine ⟨_, h7, _, h5, a, it.cls, dd, it.kind, _, rfl, hC, ok.kind, _, rfl, iteF ?_⟩
  refine ⟨_, h7, a, it.cls, dd, _, it.y, rfl, hC, ok.err.xf, ok.err.xno, rfl, _, h6, ok.sc, _, rfl, ?_⟩
  rw [decide_eq_true rfl]
  exact iteF (go _ _ ⟨p, h4, h5, h6, held⟩)
theorem items_for (L : LD P w K mg base C CN CR CT CB fI fdI) (DB : Df P w K mg base CX0 1 "_law_is_bad" ["caught", "kind_here"] (spIsBad CR CN)) (hr : Room 10 (RX P w K mg base f c A outer s H0 E).A) {RR : L2.St → Hp → Prop} (KR : Keeps T RR) {its : List It} (hok : ∀ it ∈ its, ItemOk (RX P w K mg base f c A outer s H0 E) CB CR CN 8 RR it) (hsz : its.length ≤ 100)
    {es : List Expr} (hes : PA (RX P w K mg base f c A outer s H0 E) es (tItems (RX P w K mg base f c A outer s H0 E) T its)) {p0 p1 p2 p3 p4 a0 a1 a2 a3 a4 q0 q1 q2 q3 q4 q5 q6 q7 q8 q9 q10 q11 q12 pl : Pos} {j k0 : Nat} :
    PS (RX P w K mg base f c A outer s H0 E) (.For (.Tuple [.Name "work" p0, .Name "kind_here" p1, .Name "part_here" p2] k0 p3) (.List es pl) [.Assign [.Name "caught" a0] (.Call (.Name "_law_caught" a1) [.Name "work" a2] [] a3) a4,
      .If (.BoolOp .Or [.UnaryOp .Not (.Call (.Name "_law_is_bad" q0) [.Name "caught" q1, .Name "kind_here" q2] [] q3) q4, .Compare (.Attribute (.Name "caught" q5) "part" q6) [.NotEq] [.Name "part_here" q7] q8] q9) [.Return (some (.Constant (.bool false) j q10)) q11] [] q12] [] p4) (tTri RR RR) := by
  refine tri (ps_for PassesOwn.never rfl (pi_list (pe_lst hes)) (pg_tup rfl (pgs_cons (pg_name (i := 4) scR.nd rfl (Or.inl rfl)) (pgs_cons (pg_name (i := 5) scR.nd rfl (Or.inl rfl)) (pgs_cons (pg_name (i := 6) scR.nd rfl (Or.inl rfl)) pgs_nil))))
    (triP (n := 9) (ι := (Addr × List Addr) × (Addr × Addr) × {it : It // it ∈ its}) (A := fun z => GI (RX P w K mg base f c A outer s H0 E) RR its z.1.1 z.1.2 z.2.2.1 z.2.1.1 z.2.1.2) (B := fun z => GI (RX P w K mg base f c A outer s H0 E) RR its z.1.1 z.1.2 z.2.2.1 z.2.1.1 z.2.1.2) rfl
      fun z => by exact tri_cons (item0 L hr KR hok z.2.2.2) (tri_last (item1 L DB hr hok z.2.2.2)))) fun D σ H hl g go => ?_
  refine items_go its (fun H => RR σ H) (fun H H' a b t => KR.ext _ _ _ a b t) (fun H a => KR.tabs _ _ a) H _ g fun us H1 ul g1 hi => ?_
  refine ⟨by rw [List.length_map, ul, sizeLine_eq]; omega, fun q hq => ⟨q, rfl, ⟨_, SqL.of upd_same⟩, ?_⟩⟩
  have sq := new_same (o := .lst (us.map V.ref)) hq
  refine for_list (K := K) (a := q) (xs := us.map V.ref) (fun i σ H' => PI (RX P w K mg base f c A outer s H0 E) RR its q us σ H') ⟨KR.same _ _ _ g1 sq, upd_same, fun i it u a b => item_same (hi i it u a b) sq⟩ (fun i σ H' _ h => SqL.of h.2.1) ?_ (fun σ H' h => go _ _ h.1)
  rintro i x σ H' hx h
  rw [List.getElem?_map] at hx
  cases eu : us[i]? with
  | none =>
    rw [eu] at hx
    cases hx
  | some u =>
    rw [eu] at hx
    cases hx
    have hli := (List.getElem?_eq_some_iff.mp eu).1
    have eit : its[i]? = some (its[i]'(by omega)) := List.getElem?_eq_getElem _
    obtain ⟨ff, cc, h1, h2⟩ := h.2.2 i _ u eit eu
    refine ⟨u, _, rfl, SqT.of h1, rfl, _, _, rfl, _, _, rfl, _, _, rfl, rfl, ?_⟩
    refine ⟨((q, us), (ff, cc), ⟨its[i]'(by omega), List.mem_of_getElem? eit⟩), fun hl2 => ?_, fun σ' H'' h' => h'.1⟩
    rw [List.length_set, List.length_set, List.length_set] at hl2
    exact ⟨pi_put KR (pi_put KR (pi_put KR h (by decide)) (by decide)) (by decide), (Sl.here (by omega)).put.put, (Sl.here (by rw [List.length_set]; omega)).put, Sl.here (by rw [List.length_set, List.length_set]; omega), h2⟩
theorem ri_keeps {t : RD} : Keeps T (RI C T d l c0 t) := ⟨fun _ _ _ I s => ri_same I s, fun _ _ _ I e tb => ri_ext I e tb, fun _ _ I => I.tabs, fun _ _ i _ hi I => ri_put I (by simp only [List.mem_cons, List.not_mem_nil, or_false] at hi ⊢; omega)⟩
theorem ri2_keeps {t : RD} {g : Nat} : Keeps T (RI2 C T d l c0 t g) := ⟨fun _ _ _ ⟨I, a⟩ s => ⟨ri_same I s, a⟩, fun _ _ _ ⟨I, a⟩ e tb => ⟨ri_ext I e tb, a⟩, fun _ _ ⟨I, a⟩ => I.tabs, fun _ _ i _ hi ⟨I, a, b⟩ => ⟨ri_put I (by simp only [List.mem_cons, List.not_mem_nil, or_false] at hi ⊢; omega), a.put (by simp only [List.mem_cons, List.not_mem_nil, or_false] at hi; omega), b⟩⟩
def sRefOk (C : Addr) (T : List (Addr × Str)) (d l c0 r o : Addr) : L2.St → Hp → Prop := fun σ H => ∃ (p : Int) (n m : Nat) (ns ms : List Int), DrawAt H d l c0 ∧ Tabs T H ∧ RuleAt C H r p n ns ∧ RuleAt C H o p m ms ∧ n ≤ 8 ∧ Sl σ 0 (.ref d) ∧ Sl σ 1 (.ref r) ∧ Sl σ 2 (.ref o)
/-- strange = Rule(3 if rule.prime != 3 else 5, [0]) -/
theorem ref0 (L : LD P w K mg base C CN CR CT CB fI fdI) (hr : Room 10 (RX P w K mg base f c A outer s H0 E).A) (r o : Addr) : PS (RX P w K mg base f c A outer s H0 E) (rS 0) (tTri (sRefOk C T d l c0 r o) (fun σ H => ∃ t, RI C T d l c0 t σ H)) := by
  have TR := L.MR.T
  refine tri (ps_set (i := 3) scR.nd rfl (Or.inr rfl) (pe_rule L.MR hr (by decide) (by rfl) (by exact pa_cons (pe_ifExp (pt_cmpR op_ne (pe_fld (pv 1) rfl) pe_int (nomark _)) pe_int pe_int) (pa_cons (pe_lst (pa_cons pe_int pa_nil)) pa_nil)))) fun D σ H hl ⟨p, n, m, ns, ms, a1, a2, hR, hO, n8, v0, v1, v2⟩ go => ?_
  have hl : σ.length = 9 := hl
  obtain ⟨dx, tt, h1, h2⟩ := id hR.ex
  refine ⟨_, v1, r, C, dx, _, _, rfl, h1, TR.cl, TR.nP, rfl, rfl, _, rfl, ?_⟩
  have fin : ∀ p' : Int, primeB p' = true → p' ≠ p → (show 1 ≤ sizeLine from by rw [sizeLine_eq]; decide) = (show 1 ≤ sizeLine from by rw [sizeLine_eq]; decide) → ∀ q, H q = none → ∀ x dx, upd H q (.lst [V.int 0]) x = none → upd H q (.lst [V.int 0]) dx = none → dx ≠ x →
      spRInit K C (.ref x :: ([.int p', .ref q] ++ [])) (upd (upd (upd H q (.lst [V.int 0])) dx (.own x)) x (.ins C dx [])) (fun v H2 => v = .non ∧ D.nx (σ.set 3 (some (.ref x))) H2) E0 := fun p' hp' ne _ q hq => by
    have sq := new_same (o := .lst [V.int 0]) hq
    have hpp := prime_range hp'
    refine made (ns := [0]) (n := 0) ⟨hp', by decide, rfl, fun x hx => by simp only [List.mem_cons, List.not_mem_nil, or_false] at hx; subst hx; omega⟩ upd_same fun H1 st s1 hS => ?_
    have sm : ∀ b o, H b = some o → H1 b = some o := fun b o e => s1 b o (sq b o e)
    exact go _ _ ⟨⟨p, n, m, ns, ms, r, o, p', st⟩, draw_same a1 sm, tabs_same a2 sm, hR.same sm, hO.same sm, hS, ne, n8, v0.put, v1.put, v2.put, Sl.here (by omega)⟩
  by_cases h3 : p = 3
  · subst h3
    rw [decide_eq_true rfl]
    exact iteF ⟨(show 1 ≤ sizeLine by rw [sizeLine_eq]; decide), fun q hq => fin 5 (by decide +kernel) (by decide) rfl q hq⟩
  · rw [decide_eq_false fun z => h3 (by injection z)]
    exact iteT ⟨(show 1 ≤ sizeLine by rw [sizeLine_eq]; decide), fun q hq => fin 3 (by decide +kernel) (fun z => h3 z.symm) rfl q hq⟩
end
end K
end
section
set_option linter.all false
set_option maxRecDepth 100000
set_option maxHeartbeats 8000000
namespace K
open PySem PySem.Spec PyProof.Rows L2 LamX Ob
theorem pe_item {X : Cx} {T : List (Addr × Str)} {c Pq : Addr} {it : It} {k : Nat} {k1 k2 : Const} {j1 j2 j3 : Nat} {p0 p1 p2 p3 : Pos} (TB : TabB X.base X.mg c Pq) (hcode : X.env.code = .ref c) (hm : (Pq, lq X) ∈ T) (hu : ∀ p ∈ T, p.1 = Pq → p.2 = lq X) (hL : LamT X k it.dd) (hdef : defaultsOf it.dd.params X.env = ([], []))
    (h1 : PE X (.Constant k1 j1 p1) (tC (.str it.kind))) (h2 : PE X (.Constant k2 j2 p2) (tC it.y)) : PE X (.Tuple [.Lambda it.dd.params it.dd.body it.dd.scope p0, .Constant k1 j1 p1, .Constant k2 j2 p2] j3 p3) (tItem X T it) :=
  pe_tup (pa_cons (pe_lam TB hcode hm hu hdef (fun ok => LamS.has hL.scope ok)) (pa_cons h1 (pa_cons h2 pa_nil)))
section
variable {P : Program} {w : World} {K : PySem.W.Frag} {mg : Str → Option Value} {base : Heap} {f c : Addr} {A : Around} {outer : List Env} {s : Shared} {H0 : Hp} {E : XK} {C CN CR CT CB fI : Addr} {fdI : FuncData} {d l c0 : Addr} {Pt Pr : Addr}
/-- the first list of refusals -/
theorem ref1 (L : LD P w K mg base C CN CR CT CB fI fdI) (DB : Df P w K mg base CX0 1 "_law_is_bad" ["caught", "kind_here"] (spIsBad CR CN)) (eR : ErrC K CB CR "part") (eN : ErrC K CB CN "part") (TB : TabB base mg c Pr) (ne : Pt ≠ Pr) (hr : Room 10 (RX P w K mg base f c A outer s H0 E).A) (t : RD) :
    PS (RX P w K mg base f c A outer s H0 E) (rS 1) (tTri (RI C (TL Pt Pr) d l c0 t) (RI C (TL Pt Pr) d l c0 t)) := by
  have hm : (Pr, lq (RX P w K mg base f c A outer s H0 E)) ∈ TL Pt Pr := List.mem_cons.mpr (.inr (List.mem_cons.mpr (.inl rfl)))
  have ok := its1_ok (f := f) (c := c) (A := A) (outer := outer) (s := s) (H0 := H0) (E := E) (T := TL Pt Pr) (d := d) (l := l) (c0 := c0) L eR eN t
  refine items_for (its := its1 K C CN CR CT) L DB hr ri_keeps ok (show (9 : Nat) ≤ 100 by decide) ?_
  exact pa_cons (pe_item TB rfl hm (tl_ref ne) (ok _ (List.mem_of_getElem? (i := 0) rfl)).lam rfl pe_str pe_str)
    (pa_cons (pe_item TB rfl hm (tl_ref ne) (ok _ (List.mem_of_getElem? (i := 1) rfl)).lam rfl pe_str pe_non)
    (pa_cons (pe_item TB rfl hm (tl_ref ne) (ok _ (List.mem_of_getElem? (i := 2) rfl)).lam rfl pe_str pe_non)
    (pa_cons (pe_item TB rfl hm (tl_ref ne) (ok _ (List.mem_of_getElem? (i := 3) rfl)).lam rfl pe_str pe_non)
    (pa_cons (pe_item TB rfl hm (tl_ref ne) (ok _ (List.mem_of_getElem? (i := 4) rfl)).lam rfl pe_str pe_non)
    (pa_cons (pe_item TB rfl hm (tl_ref ne) (ok _ (List.mem_of_getElem? (i := 5) rfl)).lam rfl pe_str pe_str)
    (pa_cons (pe_item TB rfl hm (tl_ref ne) (ok _ (List.mem_of_getElem? (i := 6) rfl)).lam rfl pe_str pe_non)
    (pa_cons (pe_item TB rfl hm (tl_ref ne) (ok _ (List.mem_of_getElem? (i := 7) rfl)).lam rfl pe_str pe_str)
    (pa_cons (pe_item TB rfl hm (tl_ref ne) (ok _ (List.mem_of_getElem? (i := 8) rfl)).lam rfl pe_str pe_str) pa_nil))))))))
/-- leg = _law_take(draw, rule.legs) -/
theorem ref2a (L : LD P w K mg base C CN CR CT CB fI fdI) (hr : Room 10 (RX P w K mg base f c A outer s H0 E).A) (t : RD) : PS (RX P w K mg base f c A outer s H0 E) ((ifBody (rS 2)).getD 0 noStmt) (tTri (fun σ H => RI C (TL Pt Pr) d l c0 t σ H ∧ 0 < t.n) (fun σ H => ∃ g, RI2 C (TL Pt Pr) d l c0 t g σ H)) := by
  have TR := L.MR.T
  refine tri (ps_set (i := 8) scR.nd rfl (Or.inr rfl) (pe_df L.take hr (by decide) (by rfl) pass0 (pa_cons (pv 0) (pa_cons (pe_fld (pv 1) rfl) pa_nil)))) fun D σ H hl ⟨I, hn⟩ go => ?_
  have hl : σ.length = 9 := hl
  have n8 := I.n8
  obtain ⟨dx, tt, h1, h2⟩ := id I.r.ex
  refine ⟨_, I.v0, _, I.v1, t.r, C, dx, _, _, rfl, h1, TR.cl, TR.nL, rfl, d, l, c0, t.n, rfl, I.draw, by omega, by omega, fun g H1 g0 g1 D1 k1 => ?_⟩
  obtain ⟨g, rfl⟩ := Int.eq_ofNat_of_zero_le g0
  exact go _ _ ⟨g, ri_put (ri_kept I D1 k1), Sl.here (by omega), by omega⟩
/-- the second list of refusals -/
theorem ref2b (L : LD P w K mg base C CN CR CT CB fI fdI) (DB : Df P w K mg base CX0 1 "_law_is_bad" ["caught", "kind_here"] (spIsBad CR CN)) (eR : ErrC K CB CR "part") (eN : ErrC K CB CN "part") (TB : TabB base mg c Pr) (ne : Pt ≠ Pr) (hr : Room 10 (RX P w K mg base f c A outer s H0 E).A) (t : RD) (g : Nat) :
    PS (RX P w K mg base f c A outer s H0 E) ((ifBody (rS 2)).getD 1 noStmt) (tTri (RI2 C (TL Pt Pr) d l c0 t g) (RI2 C (TL Pt Pr) d l c0 t g)) := by
  have hm : (Pr, lq (RX P w K mg base f c A outer s H0 E)) ∈ TL Pt Pr := List.mem_cons.mpr (.inr (List.mem_cons.mpr (.inl rfl)))
  have ok := its2_ok (f := f) (c := c) (A := A) (outer := outer) (s := s) (H0 := H0) (E := E) (T := TL Pt Pr) (d := d) (l := l) (c0 := c0) L eR eN t g
  refine items_for (its := its2 K C CN CR CT) L DB hr ri2_keeps ok (show (5 : Nat) ≤ 100 by decide) ?_
  exact pa_cons (pe_item TB rfl hm (tl_ref ne) (ok _ (List.mem_of_getElem? (i := 0) rfl)).lam rfl pe_str pe_str)
    (pa_cons (pe_item TB rfl hm (tl_ref ne) (ok _ (List.mem_of_getElem? (i := 1) rfl)).lam rfl pe_str pe_str)
    (pa_cons (pe_item TB rfl hm (tl_ref ne) (ok _ (List.mem_of_getElem? (i := 2) rfl)).lam rfl pe_str pe_str)
    (pa_cons (pe_item TB rfl hm (tl_ref ne) (ok _ (List.mem_of_getElem? (i := 3) rfl)).lam rfl pe_str pe_str)
    (pa_cons (pe_item TB rfl hm (tl_ref ne) (ok _ (List.mem_of_getElem? (i := 4) rfl)).lam rfl pe_str pe_str) pa_nil))))
theorem ref2 (L : LD P w K mg base C CN CR CT CB fI fdI) (DB : Df P w K mg base CX0 1 "_law_is_bad" ["caught", "kind_here"] (spIsBad CR CN)) (eR : ErrC K CB CR "part") (eN : ErrC K CB CN "part") (TB : TabB base mg c Pr) (ne : Pt ≠ Pr) (hr : Room 10 (RX P w K mg base f c A outer s H0 E).A) (t : RD) :
    PS (RX P w K mg base f c A outer s H0 E) (rS 2) (tTri (RI C (TL Pt Pr) d l c0 t) (RI C (TL Pt Pr) d l c0 t)) := by
  have TR := L.MR.T
  refine tri (ps_if (pt_cmpR op_gt (pe_fld (pv 1) rfl) pe_int (nomark _)) (by exact tri_cons (ref2a (Pt := Pt) (Pr := Pr) (d := d) (l := l) (c0 := c0) L hr t) (triAs (B := RI C (TL Pt Pr) d l c0 t) fun g => tri_last (tri_mono (ref2b L DB eR eN TB ne hr t g) (fun _ _ h => h) (fun _ _ h => h.1)))) pss_nil) fun D σ H hl I go => ?_
  obtain ⟨dx, tt, h1, h2⟩ := id I.r.ex
  refine ⟨_, I.v1, t.r, C, dx, _, _, rfl, h1, TR.cl, TR.nL, rfl, _, 0, rfl, rfl, _, rfl, ?_⟩
  by_cases hn : (0 : Int) < t.n
  · rw [decide_eq_true hn]
    exact iteT ⟨⟨I, by omega⟩, go⟩
  · rw [decide_eq_false hn]
    exact iteF (go _ _ I)
def spRefused (C : Addr) (T : List (Addr × Str)) : Sp := fun vs H Q _ => ∃ (d l c r o : Addr) (p : Int) (n m : Nat) (ns ms : List Int), vs = [.ref d, .ref r, .ref o] ∧ DrawAt H d l c ∧ Tabs T H ∧ RuleAt C H r p n ns ∧ RuleAt C H o p m ms ∧ n ≤ 8 ∧ ∀ H', DrawAt H' d l c → Tabs T H' → Q (.bl true) H'
theorem refused_body (L : LD P w K mg base C CN CR CT CB fI fdI) (DB : Df P w K mg base CX0 1 "_law_is_bad" ["caught", "kind_here"] (spIsBad CR CN)) (eR : ErrC K CB CR "part") (eN : ErrC K CB CN "part") (TB : TabB base mg c Pr) (ne : Pt ≠ Pr) {vs : List V} {Q : VK} (hr : Room 10 (A.deeper (envOfC "_law_refused" (defScope sLRefused) s.heap.objs.size f (.ref c)))) (h : spRefused C (TL Pt Pr) vs H0 Q E) :
    ∃ t, PSs (cxOf CX0 P w K mg base NR "_law_refused" (defScope sLRefused) f (.ref c) A outer s H0 E) (defBody sLRefused) t ∧ t { nx := fun _ H' => Q .non H', rt := Q } (start NR vs) H0 := by
  obtain ⟨d, l, c0, r, o, p, n, m, ns, ms, rfl, hD, hT, hR, hO, n8, go⟩ := h
  refine ⟨_, PSs.nox (pss_cons (ref0 (T := TL Pt Pr) (d := d) (l := l) (c0 := c0) L hr r o) (pss_cons (triE fun t => ref1 (d := d) (l := l) (c0 := c0) L DB eR eN TB ne hr t) (pss_cons (triE fun t => ref2 (d := d) (l := l) (c0 := c0) L DB eR eN TB ne hr t) (pss_one (ps_ret pe_bl))))), ?_⟩
  refine ⟨⟨p, n, m, ns, ms, hD, hT, hR, hO, n8, rfl, rfl, rfl⟩, fun σ1 H1 h1 => ⟨h1, fun σ2 H2 h2 => ⟨h2, fun σ3 H3 ⟨t, I⟩ => ?_⟩⟩⟩
  exact go H3 I.draw I.tabs
end
/-- all that the law leans on -/
structure LE (P : Program) (w : World) (K : PySem.W.Frag) (mg : Str → Option Value) (base : Heap) (C CN CR CT CB fI : Addr) (fdI : FuncData) (Pt Pr : Addr) : Prop where
  low : LD P w K mg base C CN CR CT CB fI fdI
  refused : DfG P w K mg base 11 "_law_refused" ["draw", "rule", "other"] (spRefused C (TL Pt Pr))
section
variable {P : Program} {w : World} {K : PySem.W.Frag} {mg : Str → Option Value} {base : Heap} {f c : Addr} {A : Around} {outer : List Env} {s : Shared} {H0 : Hp} {E : XK} {C CN CR CT CB fI : Addr} {fdI : FuncData} {d l c0 : Addr} {Pt Pr : Addr}
/-- the last check of a turn -/
theorem st9 (L : LE P w K mg base C CN CR CT CB fI fdI Pt Pr) (hG : (LX P w K mg base f c A outer s H0 E).A.guards = some []) (hr : Room 11 (LX P w K mg base f c A outer s H0 E).A) (t : TD) (wd : Addr) :
    PS (LX P w K mg base f c A outer s H0 E) (stB 9) (tTri (GW C (TL Pt Pr) d l c0 t wd) (A0 (TL Pt Pr) d l c0)) := by
  obtain ⟨fE, dE, NE, GE, bE⟩ := L.low.eq
  refine tri (ps_if (pw_or (pt_cmpR (op_neR NE GE bE pass0 (hr.mono (by decide))) (pe_df L.low.joined.df hr (by decide) (by rfl) passL (pa_cons (pv 19) (pa_cons pe_int (pa_cons (pe_rule L.low.MR hr (by decide) (by rfl) (by exact pa_cons (pv 3) (pa_cons (pe_lst (pa_cons pe_int (pa_cons pe_int (pa_cons pe_int (pa_cons pe_int pa_nil))))) pa_nil))) (pa_cons pe_int pa_nil))))) (pv 19) (nomark _))
      (pw_or1 (pt_not (pt_val (pe_dfg hG L.refused hr (by decide) (by rfl) (pa_cons (pv 1) (pa_cons (pv 8) (pa_cons (pv 9) pa_nil)))))))).pt
    (pss_one (ps_ret pe_bl)) pss_nil) fun D σ H hl ⟨⟨vr, I⟩, h19, hw⟩ go => ?_
  have hp := I.okA.least
  have okN : RuleOk t.p 2 [1, 0, 0, 1] := by
    refine ⟨I.okA.prime, by decide, rfl, fun x hx => ?_⟩
    simp only [List.mem_cons, List.not_mem_nil, or_false] at hx
    rcases hx with rfl | rfl | rfl | rfl <;> omega
  refine ⟨_, h19, _, vr.prime, (show 4 ≤ sizeLine by rw [sizeLine_eq]; decide), fun p0 hp0 => ?_⟩
  have s0 := new_same (o := .lst [V.int 1, V.int 0, V.int 0, V.int 1]) hp0
  refine made okN upd_same fun H1 r1 s1 hR => ?_
  have s01 : ∀ b o, H b = some o → H1 b = some o := fun b o e => s1 b o (s0 b o e)
  refine ⟨_, _, _, _, _, rfl, .rule (hw.same s01), .inr ⟨_, _, _, _, rfl, .rule hR, .inr ⟨_, _, _, _, rfl, .num 3, .inr ⟨3, rfl, by decide, .inr ⟨rfl, _, .num 0, .inr ⟨0, rfl, by decide, .inr ⟨by decide, ones_ok I.okA.prime (n := 8) (by decide), okN, fun H2 q2 s2 r2 => ?_⟩⟩⟩⟩⟩⟩⟩
  have s02 : ∀ b o, H b = some o → H2 b = some o := fun b o e => s2 b o (s01 b o e)
  have r2' : RuleAt C H2 q2 t.p 8 (onesN 8) := by
    show RuleAt C H2 q2 t.p 8 (List.replicate 256 1)
    rw [← wide_join (p := t.p) hp.1]
    exact r2
  refine ⟨_, h19, neR_false r2' (hw.same s02) ⟨_, rfl, iteF ?_⟩⟩
  have I2 := I.same s02
  refine ⟨_, vr.draw, _, vr.rule, _, vr.other, d, l, c0, t.r, t.o, _, _, _, _, _, rfl, I2.draw, I2.tabs, I2.r, I2.o, I.okA.eight, fun H3 D3 T3 => ⟨_, rfl, iteF ?_⟩⟩
  exact go _ _ ⟨vr.draw, D3, T3⟩
theorem turn_all3 (L : LE P w K mg base C CN CR CT CB fI fdI Pt Pr) (TB : TabB base mg c Pt) (ne : Pt ≠ Pr) (hG : (LX P w K mg base f c A outer s H0 E).A.guards = some []) (hr : Room 11 (LX P w K mg base f c A outer s H0 E).A) (d l c0 : Addr) :
    PSs (LX P w K mg base f c A outer s H0 E) [stB 0, stB 1, stB 2, stB 3, stB 4, stB 5, stB 6, stB 7, stB 8, stB 9] (tTri (A0 (TL Pt Pr) d l c0) (A0 (TL Pt Pr) d l c0)) :=
  have h10 : Room 10 (LX P w K mg base f c A outer s H0 E).A := hr.mono (by decide)
  have B := L.low
  tri_cons (st0 B h10) (tri_cons (st1 B h10) (tri_cons (st2 B h10) (triAs fun t => tri_cons (st3 B t) (tri_cons (st4 B hG h10 t) (tri_cons (st5 B hG h10 t) (tri_cons (st6 B hG h10 t) (tri_cons (st7 B h10 t) (triAs fun wd => tri_cons (st8 B TB ne h10 t wd) (tri_last (st9 L hG hr t wd))))))))))
def spLaw (K : PySem.W.Frag) (Pt Pr : Addr) : Sp := fun vs H Q _ => ∃ (a : Addr) (ns : List Int), vs = [.ref a] ∧ SqL K H a (ns.map V.int) ∧ ns.length ≤ 63 ∧ Tabs (TL Pt Pr) H ∧ ∀ H', Q (.bl true) H'
theorem law_body (L : LE P w K mg base C CN CR CT CB fI fdI Pt Pr) (TB : TabB base mg c Pt) (ne : Pt ≠ Pr) {vs : List V} {Q : VK} (hG : (A.deeper (envOfC "law" (defScope sLaw) s.heap.objs.size f (.ref c))).guards = some []) (hr : Room 11 (A.deeper (envOfC "law" (defScope sLaw) s.heap.objs.size f (.ref c)))) (h : spLaw K Pt Pr vs H0 Q E) :
    ∃ t, PSs (cxOf CX0 P w K mg base NL "law" (defScope sLaw) f (.ref c) A outer s H0 E) (defBody sLaw) t ∧ t { nx := fun _ H' => Q .non H', rt := Q } (start NL vs) H0 := by
  obtain ⟨a, ns, rfl, hS, hlen, tabs, go⟩ := h
  have B := L.low.B
  refine ⟨_, PSs.nox (pss_cons (ps_set (i := 1) scL.nd rfl (Or.inr rfl) (pe_df L.low.begun hr (by decide) (by rfl) pass0 (pa_cons (pv 0) pa_nil)))
    (pss_cons (ps_for PassesOwn.never rfl (pi_range1 (by rfl) B.range (pa_cons (pe_op op_add pe_int (pe_callB (call_min2 rfl) (by rfl) L.low.mn (by decide +kernel) (pa_cons (pe_callB (r := rLenS K) (by exact call_len_seq) (by rfl) B.len PySem.boot_len (pa_cons (pv 0) pa_nil)) (pa_cons pe_int pa_nil)))) pa_nil)) (pg_name (i := 2) scL.nd rfl (Or.inl rfl))
      (triP (n := 22) (ι := Addr × Addr × Addr) (A := fun i => A0 (TL Pt Pr) i.1 i.2.1 i.2.2) (B := fun i => A0 (TL Pt Pr) i.1 i.2.1 i.2.2) rfl fun i => by exact turn_all3 L TB ne hG hr i.1 i.2.1 i.2.2))
    (pss_one (ps_ret pe_bl)))), ?_⟩
  refine ⟨_, rfl, a, ns, rfl, hS, hlen, fun d l c0 H1 s1 D1 => ?_⟩
  refine ⟨_, rfl, a, _, rfl, .inl (Same.seq s1 hS), _, _, rfl, 1, _, rfl, rfl, _, rfl, ?_, ?_, ?_⟩
  · rw [List.length_map]
    split <;> omega
  · rw [List.length_map]
    split <;> omega
  · refine for_it walk_range (fun i σ H' => A0 (TL Pt Pr) d l c0 σ H') ⟨rfl, D1, fun p hp => (tabs p hp).ext s1⟩ (fun _ _ _ _ _ => trivial) ?_ (fun σ H' _ => go _)
    rintro i x σ H' H'' hi ⟨h1, h2, h3⟩ ⟨rfl, rfl⟩
    exact ⟨(d, l, c0), fun _ => ⟨h1.put, h2, h3⟩, fun σ' H3 h => h⟩
end
end K
end
section
set_option linter.all false
set_option maxRecDepth 100000
set_option maxHeartbeats 4000000
/-! the end of a law whose defs, several of them, make lambdas -/
namespace Ob
open PySem PySem.Spec PyProof.Rows L2 LamX
theorem callGTs {P : Program} {w : World} {K : PySem.W.Frag} {mg mb : Str → Option Value} {k : Nat} {fa a : Addr} {Ts : List (Addr × Addr)} {fd : FuncData} {x : Str} {sp : Sp} {s₁ : Shared} {vs : List Value} {ns : List Int}
    (KX : K.In s₁.heap) (hns : s₁.heap.Ns mainGlobals mg) (hb : s₁.heap.Ns builtinsNs mb) (hbb : ∀ x : Str, x ≠ "__name__" → mb x = bootBuiltins x) (hlim : s₁.heap.NoLimit) (hg : s₁.gens = #[])
    (hT : ∀ p ∈ Ts, s₁.heap.get? p.2 = some { cls := .none, data := .fields #[] }) (nT : ∀ p ∈ Ts, K.lookup p.2 = none) (C : ∀ p ∈ Ts, PySem.W.CodeHd s₁.heap p.1 p.2)
    (hbm : ∃ (bm : Addr) (ob : Obj), mg "__builtins__" = some (.ref bm) ∧ bm ≠ builtinsNs ∧ s₁.heap.get? bm = some ob ∧ ob.cls = .type "module" ∧ ob.dict = some builtinsNs ∧ ob.data = .plain)
    (ha : s₁.heap.get? a = some { cls := .type "list", data := .seq vs.toArray }) (hi : IntsAre vs ns) (hl : ns.length ≤ sizeLine) (hr : Room k callerA)
    (F : ∀ base : Heap, K.In base → base.Ns mainGlobals mg → (∀ p ∈ Ts, TabB base mg p.1 p.2) → FnG P w K mg base k fa fd [x] sp) (hbind : ∀ (s : Shared) (u : Value), BindsTo s fd ⟨[u], []⟩ [(x, u)])
    (hsp : ∀ H : Hp, (∀ p ∈ Ts, H p.2 = some (.tbl #[])) → SqL K H a (ns.map V.int) → sp [.ref a] H (fun v _ => v = .bl true) fun _ _ _ => False) :
    codeAny (model P w) callerA (.call (.ref fa) ⟨[.ref a], []⟩) (fun r s' => r = .ok (.ret (.bool true)) ∧ OldK s₁.heap s'.heap ∧ s'.os = s₁.os ∧ AllBare s'.gens) s₁ := by
  have rv := vals_ints hi
  let z : HO := .frz { cls := .type "list", data := .seq vs.toArray } (.lst (ns.map V.int))
  have tabOf : ∀ {b : Addr}, b ∈ Ts.map (·.2) → s₁.heap.get? b = some { cls := .none, data := .fields #[] } := fun {b} hb => by
    obtain ⟨p, hp, rfl⟩ := List.mem_map.mp hb
    exact hT p hp
  have aT : a ∉ Ts.map (·.2) := fun e => by
    rw [tabOf e] at ha
    cases ha
  let H : Hp := fun b => if b ∈ Ts.map (·.2) then some (.tbl #[]) else if b = a ∧ K.lookup a = none then some z else none
  have atT : ∀ b, b ∈ Ts.map (·.2) → H b = some (.tbl #[]) := fun b hb => if_pos hb
  have at_ : ∀ b u, H b = some u → (b ∈ Ts.map (·.2) ∧ u = .tbl #[]) ∨ (b = a ∧ K.lookup a = none ∧ u = z) := fun b u e => by
    have e : (if b ∈ Ts.map (·.2) then some (HO.tbl #[]) else if b = a ∧ K.lookup a = none then some z else none) = some u := e
    by_cases h1 : b ∈ Ts.map (·.2)
    · rw [if_pos h1] at e
      exact .inl ⟨h1, (Option.some.inj e).symm⟩
    · rw [if_neg h1] at e
      by_cases q : b = a ∧ K.lookup a = none
      · rw [if_pos q] at e
        exact .inr ⟨q.1, q.2, (Option.some.inj e).symm⟩
      · rw [if_neg q] at e
        cases e
  have hok : HOk P w H s₁.heap := fun b u e => by
    rcases at_ b u e with ⟨hb, rfl⟩ | ⟨rfl, _, rfl⟩
    · exact tabOf hb
    · exact ⟨ha, by rw [List.length_map]; exact hl, vs, _, rv, ha⟩
  have hS : SqL K H a (ns.map V.int) := by
    cases hk : K.lookup a with
    | none => exact .inl (.inr ⟨_, (if_neg aT).trans (if_pos ⟨rfl, hk⟩)⟩)
    | some o =>
      have e := KX a o hk
      rw [ha] at e
      cases e
      exact .inr ⟨_, vs.toArray, _, hk, rfl, rfl, rfl, by rw [List.size_toArray, hi.length]; exact hl, by simpa using rv⟩
  have free : ∀ {b : Addr} {o : Obj}, s₁.heap.get? b = some o → (∀ vs n, o.data ≠ .seq vs n) → o.data ≠ .fields #[] → H b = none := fun {b o} e d d2 => by
    cases q : H b with
    | none => rfl
    | some u =>
      rcases at_ b u q with ⟨hb, _⟩ | ⟨rfl, _, _⟩
      · rw [tabOf hb] at e
        cases e
        exact absurd rfl d2
      · rw [ha] at e
        cases e
        exact absurd rfl (d _ _)
  have dicts : ∀ {b : Addr} {m : Str → Option Value}, s₁.heap.Ns b m → (hidT s₁.heap H).Ns b m := fun {b m} ⟨o, es, ep, e, d, r⟩ => ⟨o, es, ep, hidT_get e (free e (fun vs n q => by rw [d] at q; cases q) fun q => by rw [d] at q; cases q), d, r⟩
  have kin : K.In (hidT s₁.heap H) := fun b o e => hidT_get (KX b o e) (by
    cases q : H b with
    | none => rfl
    | some u =>
      rcases at_ b u q with ⟨hb, _⟩ | ⟨rfl, n, _⟩
      · obtain ⟨p, hp, rfl⟩ := List.mem_map.mp hb
        rw [nT p hp] at e
        cases e
      · rw [n] at e
        cases e)
  have M : Mod K mg (hidT s₁.heap H) := ⟨kin, dicts hns, ⟨mb, dicts hb, hbb⟩, let ⟨mc, h1, h2⟩ := hlim; ⟨mc, dicts h1, h2⟩⟩
  have e0 : Env0 P w K mg (hidT s₁.heap H) callerA [] s₁ H := ⟨rfl, M, fun b o e => of_hidT e, Nat.le_of_eq (hidT_size _ _), trivial, fun b hb => absurd (show b ∈ ([] : List Addr) from hb) (by simp), hok, AllBare.of_eq hg⟩
  have TB : ∀ p ∈ Ts, TabB (hidT s₁.heap H) mg p.1 p.2 := fun p hp => by
    refine ⟨?_, ?_, fun e => ?_⟩
    · obtain ⟨o, us, file, tf, flags, tg, inF, text, tt, e1, r1, r2, r3, r4, r5, r6, r7, r8, hne⟩ := C p hp
      refine ⟨o, us, file, tf, flags, tg, inF, text, tt, hidT_get e1 (free e1 (fun vs n q => ?_) fun q => ?_), r1, r2, r3, r4, r5, r6, r7, r8, hne⟩
      · rw [r2] at q
        cases q
      · rw [r2] at q
        cases q
        simp at r3
    · obtain ⟨bm, ob, b1, b2, b3, b4, b5, b6⟩ := hbm
      have n1 : bm ≠ mainGlobals := fun q => by
        obtain ⟨o, es, ep, e, d, _⟩ := hns
        rw [q, e] at b3
        cases b3
        rw [d] at b6
        cases b6
      have n2 : bm ≠ p.2 := fun q => by
        rw [q, hT p hp] at b3
        cases b3
        cases b6
      exact ⟨bm, ob, b1, b2, n1, n2, hidT_get b3 (free b3 (fun vs n q => by rw [b6] at q; cases q) fun q => by rw [b6] at q; cases q), b4, b5, b6⟩
    · obtain ⟨o, es, ep, e2, d, _⟩ := hns
      rw [e, hT p hp] at e2
      cases e2
      cases d
  refine codeAny_mono ((F _ kin (dicts hns) TB).go callerA [] s₁ H [.ref a] [.ref a] _ _ rfl hr e0 (hbind s₁ (.ref a)) (.cons rfl .nil) (hsp H (fun p hp => atT _ (List.mem_map.mpr ⟨p, hp, rfl⟩)) hS)) fun r s' h => ?_
  match r, h with
  | .error e, h => exact (show False from h).elim
  | .ok .next, h => exact (show False from h).elim
  | .ok .brk, h => exact (show False from h).elim
  | .ok .cont, h => exact (show False from h).elim
  | .ok (.ret u), ⟨v, H', os, bare, un, hok', r', q⟩ =>
    have q : v = .bl true := q
    subst q
    obtain rfl : u = Value.bool true := r'
    have tabNow : ∀ b, b ∈ Ts.map (·.2) → ∃ more, s'.heap.get? b = some { cls := .none, data := .fields (#[] ++ more) } := fun b hb => by
      obtain ⟨more, grown⟩ := un.tbls b #[] (atT b hb)
      exact ⟨more, hok' b _ grown⟩
    have key : ∀ b o, b ∉ Ts.map (·.2) → s₁.heap.get? b = some o → s'.heap.get? b = some o := fun b o nb e => by
      cases q : H b with
      | none => exact un.keep b o e q (fun z => absurd (show b ∈ ([] : List Addr) from z) (by simp)) (by simp)
      | some u =>
        rcases at_ b u q with ⟨e', _⟩ | ⟨rfl, _, rfl⟩
        · exact absurd e' nb
        · obtain ⟨e2, _⟩ := hok' b _ (un.frzs b _ _ q)
          rw [ha] at e
          cases e
          exact e2
    refine ⟨rfl, ⟨fun b o e => ?_, fun b o e => ?_⟩, os, bare⟩
    · by_cases hb : b ∈ Ts.map (·.2)
      · have hTb := tabOf hb
        obtain ⟨more, now⟩ := tabNow b hb
        obtain ⟨p, hp, rfl⟩ := List.mem_map.mp hb
        rw [hTb] at e
        cases e
        exact .inr (.inl ⟨((C p hp).tab hTb).isCodeTable, rfl, #[], more, rfl, now⟩)
      · exact .inl (key b o hb e)
    · by_cases hb : b ∈ Ts.map (·.2)
      · obtain ⟨more, now⟩ := tabNow b hb
        exact ⟨_, now⟩
      · exact ⟨o, key b o hb e⟩
end Ob
end
section
set_option linter.all false
set_option maxRecDepth 100000
set_option maxHeartbeats 8000000
namespace K
open PySem PySem.Spec PyProof.Rows L2 Ob NdefX LamX
def excB (K : PySem.W.Frag) (C : Addr) : Bool :=
  decide (PySem.W.findIn K (.ref C) "__getattribute__" = some (some (.builtin "BaseException.__getattribute__"))) && (decide (PySem.W.findIn K (.ref C) "__getattr__" = some none) && (decide (PySem.W.subIn K (.ref C) (.type "BaseException") = some true) && (PySem.W.hasDictIn K C &&
    (decide (PySem.W.findIn K (.ref C) "__class__" = some (some (.builtin "object.__class__"))) && (decide (PySem.W.specialIn K (.builtin "object.__class__") "__get__" = some (some (.builtin "getset_descriptor.__get__"))) && (decide (PySem.W.takesIn K (.builtin "object.__class__") = some true) && decide (PySem.W.mroIn K C (.type "object") = some true)))))))
theorem excB_ok {K : PySem.W.Frag} {C : Addr} (h : excB K C = true) : ExcC K C := by
  unfold excB at h
  simp only [Bool.and_eq_true, decide_eq_true_eq] at h
  obtain ⟨h1, h2, h3, h4, h5, h6, h7, h8⟩ := h
  exact ⟨h1, h2, h3, h4, h5, h6, h7, h8⟩
def madeB (K : PySem.W.Frag) (C : Addr) : Bool := match K.lookup C with
  | some ⟨.type "type", _, .cls cd, sl⟩ => (match cd.mro, sl.toList with
    | .ref C' :: bm, [_, _, _, _, some (.builtin n), _] => C' == C && (n == "ValueError.__new__" && (!cd.hasDel && (cd.hasDict && HandSPX.refsVE bm)))
    | _, _ => false)
  | _ => false
theorem madeB_ok {K : PySem.W.Frag} {C : Addr} (h : madeB K C = true) : ∃ nm q N bs bm sn sub ab col dd k0 k1 k2 k3 k5, K.lookup C = some (excClassObj nm q C N bs bm true sn sub ab col dd k0 k1 k2 k3 k5 "ValueError.__new__") ∧ HandSPX.refsVE bm = true := by
  unfold madeB at h
  split at h
  · rename_i dd cd sl ho
    split at h
    · rename_i C' bm k0 k1 k2 k3 n k5 hm hs
      simp only [Bool.and_eq_true, beq_iff_eq, Bool.not_eq_true'] at h
      obtain ⟨rfl, rfl, hdel, hdict, hv⟩ := h
      obtain ⟨nm, bs, mro, ns, qn, hd, sn, sub, ab, col, del⟩ := cd
      dsimp only at hm hdel hdict
      subst hm hdel hdict
      have hsl : sl = #[k0, k1, k2, k3, some (.builtin "ValueError.__new__"), k5] := by
        obtain ⟨l⟩ := sl
        simp only at hs
        rw [hs]
      subst hsl
      exact ⟨nm, qn, ns, bs, bm, sn, sub, ab, col, dd, k0, k1, k2, k3, k5, ho, hv⟩
    · cases h
  · cases h
/-- with one -/
def ownB (K : PySem.W.Frag) (C : Addr) (part : Str) : Bool :=
  madeB K C && (decide (PySem.W.findIn K (.ref C) "__setattr__" = some (some (.builtin "object.__setattr__"))) && (decide (PySem.W.typeIn K (.ref C) = some (.type "type")) && (PySem.W.keepIn K (.ref C) &&
    ((match PySem.W.clsIn K C with | some cd => decide (PySem.W.alongIn K "__init__" ((cd.mro.dropWhile (· != .ref C)).drop 1) = some (some (.builtin "ValueError.__init__"))) | none => false) &&
      (decide (PySem.W.subIn K (.ref C) (.type "ValueError") = some true) && (decide (PySem.W.findIn K (.ref C) part = some none) && (decide (PySem.W.mroIn K C (.ref C) = some true) && (xfB K C && decide (PySem.W.nsIn K cStatics "thirdparty.any" = some none)))))))))
def initB (part pre : Str) (nms : List (Str × NameKind)) (q2 q7 : Pos) : Bool :=
  nscB ["self", part, "__class__"] ["self", part] ["__class__"] (initScope nms) && (decide (nms.lookup ("super" : Str) = some .globalImplicit) && ((q2.endLine == q7.line) && (decide (pre.length ≤ 1000) && (!(part == ("__debug__" : Str)) && !(part == ("__classdict__" : Str))))))
abbrev twoArgs (part : Str) (qa qb : Pos) : Arguments := { posonlyargs := [], args := [{ arg := "self", annotation := none, pos := qa }, { arg := part, annotation := none, pos := qb }], vararg := none, kwonlyargs := [], kw_defaults := [], kwarg := none, defaults := [] }
/-- a class with an __init__ of its own -/
structure Own (P : Program) (K : PySem.W.Frag) (mg : Str → Option Value) (C : Addr) (part : Str) : Prop where
  ex : ∃ (fI : Addr) (fd : FuncData), InitK P K mg C fI part part fd ∧ PySem.W.findIn K (.ref C) "__init__" = some (some (.ref fI)) ∧ PySem.W.typeIn K (.ref fI) = some (.type "function") ∧
    L2.Binds K fd ["self", part] [] ∧ (∀ (s : Shared) (a v : Value), BindsTo s fd ⟨[a], [(part, v)]⟩ [("self", a), (part, v)]) ∧ XfC K C
section
variable {P : Program} {w : World} {K : PySem.W.Frag} {mg : Str → Option Value} {base : Heap} {C fI cda cc : Addr} {part : Str}
theorem K2own {h0 : Heap} (KX : K.In h0) {oc ccl cl0 dV kV doc pm ct : Value} {od cdd cld : Option Addr} {an : Option Addr} {osl ccs csl : Array (Option Value)} {qual pre file : Str} {tf : Tok} {qa qb : Pos} {nms : List (Str × NameKind)} {vs : Array Value} {j : Nat} {q0 q1 q2 q3 q4 q5 q6 q7 q8 q9 q10 q11 q12 : Pos}
    (iC : PySem.W.findIn K (.ref C) "__init__" = some (some (.ref fI)))
    (l : K.lookup fI = some ⟨oc, od, .func (PySem.W.ksFn "__init__" qual (twoArgs part qa qb) (initBody pre part part j q0 q1 q2 q3 q4 q5 q6 q7 q8 q9 q10 q11 q12) (initScope nms) dV kV doc pm an (.ref cda) ct cc), osl⟩)
    (tI : PySem.W.typeIn K (.ref fI) = some (.type "function")) (hc : PySem.W.codeIn K (.ref cda) qual = true)
    (lc : K.lookup cda = some ⟨ccl, cdd, .fields vs, ccs⟩) (lcc : K.lookup cc = some ⟨cl0, cld, .cell (some (.ref C)), csl⟩)
    (hv : vs[2]? = some (.str file tf)) (hf : ((P.main.file : Str) == file) = true) (st : initB part pre nms q2 q7 = true)
    (pb : ∀ u v : Value, bindArgs (PySem.W.ksFn "__init__" qual (twoArgs part qa qb) (initBody pre part part j q0 q1 q2 q3 q4 q5 q6 q7 q8 q9 q10 q11 q12) (initScope nms) dV kV doc pm an (.ref cda) ct cc) ⟨[u, v], []⟩ = pure ((["self", part] : List Str).zip [u, v]))
    (kb : ∀ (s : Shared) (a v : Value), BindsTo s (PySem.W.ksFn "__init__" qual (twoArgs part qa qb) (initBody pre part part j q0 q1 q2 q3 q4 q5 q6 q7 q8 q9 q10 q11 q12) (initScope nms) dV kV doc pm an (.ref cda) ct cc) ⟨[a], [(part, v)]⟩ [("self", a), (part, v)])
    (ob : ownB K C part = true) (sup : mg "super" = none) (top : (P.main.scope.names.lookup ("super" : Str)).isSome = false) : Own P K mg C part := by
  unfold ownB at ob
  simp only [Bool.and_eq_true, decide_eq_true_eq] at ob
  obtain ⟨o1, o2, o3, o4, o5, o6, o7, o8, o9, o10⟩ := ob
  unfold initB at st
  simp only [Bool.and_eq_true, decide_eq_true_eq, Bool.not_eq_true'] at st
  obtain ⟨s1, s2, s3, s4, s5, s6⟩ := st
  have XF := xfB_ok o9
  have hal : ∃ cd, PySem.W.clsIn K C = some cd ∧ PySem.W.alongIn K "__init__" ((cd.mro.dropWhile (· != .ref C)).drop 1) = some (some (.builtin "ValueError.__init__")) := by
    split at o5
    · rename_i cd hcd
      exact ⟨cd, hcd, of_decide_eq_true o5⟩
    · cases o5
  exact ⟨fI, _, ⟨⟨oc, ccl, cl0, dV, kV, doc, pm, ct, od, cdd, cld, an, osl, ccs, csl, cc, cda, qual, pre, file, tf, twoArgs part qa qb, nms, vs, j, q0, q1, q2, q3, q4, q5, q6, q7, q8, q9, q10, q11, q12, rfl, l, hc, lc, hv, hf, lcc, nscope_by s1, s2, s3, ⟨_, rfl, rfl⟩, s4⟩,
    sup, top, ⟨madeB_ok o1, o2, XF.exC, o3, o4⟩, hal, o6, o10, o7, o8, s5, s6⟩, iC, tI, .all (fun us hu => match us, hu with | [u, v], _ => pb u v), kb, XF⟩
end
theorem K2def {K : PySem.W.Frag} {h0 : Heap} (KX : K.In h0) {x : Str} {st : Stmt} {f : Addr} {ps : List Str} {oc : Value} {od an : Option Addr} {osl : Array (Option Value)} {kV doc pm cdv ct : Value}
    (l : K.lookup f = some ⟨oc, od, .func (PySem.W.fnOf x x (defArgs st) (defBody st) (defScope st) .none kV doc pm an cdv ct), osl⟩) (c : PySem.W.codeIn K cdv x = true) (k : PySem.W.keepIn K (.ref f) = true)
    (b : ∀ us : List Value, us.length = ps.length → bindArgs (PySem.W.fnOf x x (defArgs st) (defBody st) (defScope st) .none kV doc pm an cdv ct) ⟨us, []⟩ = pure (ps.zip us)) : ∃ fd, Fun K x x st f fd ∧ L2.Binds K fd ps [] :=
  ⟨_, fun_mk l c k, .all b⟩
theorem K2kw {K : PySem.W.Frag} {h0 : Heap} (KX : K.In h0) {x : Str} {st : Stmt} {f : Addr} {ps : List Str} {oc : Value} {od an : Option Addr} {osl : Array (Option Value)} {kV doc pm cdv ct : Value}
    (l : K.lookup f = some ⟨oc, od, .func (PySem.W.fnOf x x (defArgs st) (defBody st) (defScope st) .none kV doc pm an cdv ct), osl⟩) (c : PySem.W.codeIn K cdv x = true) (k : PySem.W.keepIn K (.ref f) = true)
    (b : ∀ us : List Value, us.length = ps.length → bindArgs (PySem.W.fnOf x x (defArgs st) (defBody st) (defScope st) .none kV doc pm an cdv ct) ⟨us, []⟩ = pure (ps.zip us))
    (b2 : ∀ us : List Value, us.length = ps.length → bindArgs (PySem.W.fnOf x x (defArgs st) (defBody st) (defScope st) .none kV doc pm an cdv ct) ⟨[], ps.reverse.zip us⟩ = pure (ps.zip us.reverse)) : ∃ fd, Fun K x x st f fd ∧ L2.Binds K fd ps [] ∧ KwBinds fd ps :=
  ⟨_, fun_mk l c k, .all b, fun s us h => .of_eq (b2 us h)⟩
/-- a method -/
theorem K2met {K : PySem.W.Frag} {h0 : Heap} (KX : K.In h0) {x q : Str} {st : Stmt} {f : Addr} {ps : List Str} {oc : Value} {od an : Option Addr} {osl : Array (Option Value)} {kV doc pm cdv ct : Value}
    (l : K.lookup f = some ⟨oc, od, .func (PySem.W.fnOf x q (defArgs st) (defBody st) (defScope st) .none kV doc pm an cdv ct), osl⟩) (c : PySem.W.codeIn K cdv q = true) (k : PySem.W.keepIn K (.ref f) = true)
    (b : ∀ us : List Value, us.length = ps.length → bindArgs (PySem.W.fnOf x q (defArgs st) (defBody st) (defScope st) .none kV doc pm an cdv ct) ⟨us, []⟩ = pure (ps.zip us)) : ∃ fd, Fun K x q st f fd ∧ L2.Binds K fd ps [] :=
  ⟨_, fun_mk l c k, .all b⟩
/-- a def of the text, its code object at c -/
def DefAt (K : PySem.W.Frag) (x : Str) (st : Stmt) (f c : Addr) (ps : List Str) : Prop := ∃ (oc kV doc pm ct : Value) (od an : Option Addr) (osl : Array (Option Value)),
  K.lookup f = some ⟨oc, od, .func (PySem.W.fnOf x x (defArgs st) (defBody st) (defScope st) .none kV doc pm an (.ref c) ct), osl⟩ ∧ PySem.W.codeIn K (.ref c) x = true ∧ PySem.W.keepIn K (.ref f) = true ∧
    ∀ us : List Value, us.length = ps.length → bindArgs (PySem.W.fnOf x x (defArgs st) (defBody st) (defScope st) .none kV doc pm an (.ref c) ct) ⟨us, []⟩ = pure (ps.zip us)
theorem K_at {K : PySem.W.Frag} {h0 : Heap} (KX : K.In h0) {x : Str} {st : Stmt} {f c : Addr} {ps : List Str} {oc : Value} {od an : Option Addr} {osl : Array (Option Value)} {kV doc pm ct : Value}
    (l : K.lookup f = some ⟨oc, od, .func (PySem.W.fnOf x x (defArgs st) (defBody st) (defScope st) .none kV doc pm an (.ref c) ct), osl⟩) (k : PySem.W.codeIn K (.ref c) x = true) (p : PySem.W.keepIn K (.ref f) = true)
    (b : ∀ us : List Value, us.length = ps.length → bindArgs (PySem.W.fnOf x x (defArgs st) (defBody st) (defScope st) .none kV doc pm an (.ref c) ct) ⟨us, []⟩ = pure (ps.zip us)) : DefAt K x st f c ps := ⟨oc, kV, doc, pm, ct, od, an, osl, l, k, p, b⟩
theorem tab_in {K : PySem.W.Frag} {x : Str} {f c P : Addr} {oc e' : Value} {od dd : Option Addr} {fd : FuncData} {vs : Array Value} {osl sl : Array (Option Value)} (n : PySem.W.nsIn K mainGlobals x = some (some (.ref f))) (l : K.lookup f = some ⟨oc, od, .func fd, osl⟩) (e : fd.code = .ref c) (lc : K.lookup c = some ⟨e', dd, .fields vs, sl⟩) (hv : vs[11]? = some (.ref P)) :
    PySem.W.tabIn K x = some (c, P) := by
  unfold PySem.W.tabIn
  rw [n]
  dsimp only
  rw [l]
  dsimp only
  rw [e]
  dsimp only
  rw [lc]
  dsimp only
  rw [hv]
/-! ### the class Rule -/
def ruleB (K : PySem.W.Frag) (C : Addr) : Bool :=
  PySem.W.plainGet K C Str.empty && (PySem.W.hasDictIn K C && (PySem.W.plainOver K C && (decide (PySem.W.findIn K (.ref C) "__setattr__" = some (some (.builtin "object.__setattr__"))) && (decide (PySem.W.findIn K (.ref C) "prime" = some none) && (decide (PySem.W.findIn K (.ref C) "legs" = some none) &&
    (decide (PySem.W.findIn K (.ref C) "table" = some none) && (decide (PySem.W.findIn K (.ref C) "__class__" = some (some (.builtin "object.__class__"))) && (decide (PySem.W.specialIn K (.builtin "object.__class__") "__get__" = some (some (.builtin "getset_descriptor.__get__"))) &&
      (decide (PySem.W.takesIn K (.builtin "object.__class__") = some true) && (decide (PySem.W.mroIn K C (.type "object") = some true) && (PySem.W.makesIn K C && PySem.W.keepIn K (.ref C))))))))))))
theorem ruleB_ok {K : PySem.W.Frag} {mg : Str → Option Value} {C fI : Addr} (h : ruleB K C = true) (g : mg "Rule" = some (.ref C)) (i : PySem.W.findIn K (.ref C) "__init__" = some (some (.ref fI))) (n : PySem.W.isFn K (.ref fI) = true) : RuleC K mg C ∧ Mk K C fI := by
  unfold ruleB at h
  simp only [Bool.and_eq_true, decide_eq_true_eq] at h
  obtain ⟨h1, h2, h3, h4, h5, h6, h7, h8, h9, h10, h11, h12, h13⟩ := h
  exact ⟨⟨⟨h1, h2, h3, h4⟩, h5, h6, h7, g, h8, h9, h10, h11⟩, ⟨h12, i, n, h13⟩⟩
def neB (K : PySem.W.Frag) (C f : Addr) : Bool := match K.lookup C with
  | some ⟨.type "type", _, .cls cd, sl⟩ => (match cd.mro, sl.toList with
    | [.ref C', .type "object"], [_, _, _, _, some (.builtin _), _] => C' == C && (!cd.hasDel && (PySem.W.nsOkIn K cd.ns && (decide (PySem.W.nsIn K cd.ns "__eq__" = some (some (.ref f))) && (decide (PySem.W.nsIn K cd.ns "__ne__" = some none) && decide ((K.lookup f).map (fun o => o.cls) = some (.type "function"))))))
    | _, _ => false)
  | _ => false
theorem neB_ok {K : PySem.W.Frag} {C f : Addr} (h : neB K C f = true) : NeC K C f := by
  unfold neB at h
  split at h
  · rename_i dd cd sl ho
    split at h
    · rename_i C' k0 k1 k2 k3 n k5 hm hs
      simp only [Bool.and_eq_true, beq_iff_eq, Bool.not_eq_true', decide_eq_true_eq] at h
      obtain ⟨rfl, hdel, h1, h2, h3, h4⟩ := h
      obtain ⟨nm, bs, mro, ns, qn, hd, sn, sub, ab, col, del⟩ := cd
      dsimp only at hm hdel h1 h2 h3
      subst hm hdel
      have hsl : sl = #[k0, k1, k2, k3, some (.builtin n), k5] := by
        obtain ⟨l⟩ := sl
        simp only at hs
        rw [hs]
      subst hsl
      obtain ⟨o, e1, e2⟩ := Option.map_eq_some_iff.mp h4
      exact ⟨⟨nm, qn, ns, bs, hd, sn, sub, ab, col, dd, k0, k1, k2, k3, k5, n, ho, h1, h2, h3⟩, ⟨o, e1, e2⟩⟩
    · cases h
  · cases h
end K
end
section
set_option linter.all false
set_option maxRecDepth 100000
set_option maxHeartbeats 8000000
namespace K
open PySem PySem.Spec PyProof.Rows L2 Ob NdefX LamX
theorem Kend {P : Program} {w : World} {K : PySem.W.Frag} {s₁ : Shared} {mg mb : Str → Option Value} {a C CB fI fE CN CR CT : Addr} {vs : List Value} {ns : List Int} {t_M : Tok} {fa f_law c_law P_law f_law_refused c_law_refused P_law_refused f_is_number f_is_from f_is_list f_is_prime f_is_field_number f_are_field_numbers f_is_table f_leg_mask f_sums_of f_leg_sums f_behind f_want_rule f_want_leg f_want_two_legs f_regrouped f_rows_by_bit f_turned f_beside f_closed f_joined f_law_begun f_law_mixed f_law_take f_law_pick f_law_caught f_law_prime f_law_numbers f_law_bits f_law_number f_law_is_rule f_law_is_bad : Addr} (KX : K.In s₁.heap) (G : s₁.heap.Ns mainGlobals mg) (hb : s₁.heap.Ns builtinsNs mb) (hbb : ∀ x : Str, x ≠ "__name__" → mb x = bootBuiltins x) (hlim : s₁.heap.NoLimit) (hg : s₁.gens = #[])
    (ha : s₁.heap.get? a = some { cls := .type "list", data := .seq vs.toArray }) (hi : IntsAre vs ns) (hl : ns.length ≤ 63) (hfa : mg "law" = some (.ref fa))
    (hbm : ∃ (bm : Addr) (ob : Obj), mg "__builtins__" = some (.ref bm) ∧ bm ≠ builtinsNs ∧ s₁.heap.get? bm = some ob ∧ ob.cls = .type "module" ∧ ob.dict = some builtinsNs ∧ ob.data = .plain)
    (n_law : PySem.W.nsIn K mainGlobals "law" = some (some (.ref f_law))) (e_law : DefAt K "law" sLaw f_law c_law ["script"]) (tab_law : PySem.W.CodeHd s₁.heap c_law P_law ∧ s₁.heap.get? P_law = some (PySem.W.tabObj #[])) (nT_law : K.lookup P_law = none)
    (n_law_refused : PySem.W.nsIn K mainGlobals "_law_refused" = some (some (.ref f_law_refused))) (e_law_refused : DefAt K "_law_refused" sLRefused f_law_refused c_law_refused ["draw", "rule", "other"]) (tab_law_refused : PySem.W.CodeHd s₁.heap c_law_refused P_law_refused ∧ s₁.heap.get? P_law_refused = some (PySem.W.tabObj #[])) (nT_law_refused : K.lookup P_law_refused = none)
    (ne_law_law_refused : P_law ≠ P_law_refused)
    (nC : PySem.W.nsIn K mainGlobals "Rule" = some (some (.ref C))) (nB : PySem.W.nsIn K mainGlobals "BasisError" = some (some (.ref CB)))
    (rB : ruleB K C = true) (rI : PySem.W.findIn K (.ref C) "__init__" = some (some (.ref fI))) (rF : PySem.W.isFn K (.ref fI) = true) (nQ : PySem.W.findIn K (.ref C) "__eq__" = some (some (.ref fE))) (nE : neB K C fE = true) (nR : notRB K C = true)
    (eI : ∃ fd, Fun K "__init__" "Rule.__init__" sRule_init fI fd ∧ L2.Binds K fd ["self", "prime", "table"] []) (eE : ∃ fd, Fun K "__eq__" "Rule.__eq__" sRule_eq fE fd ∧ L2.Binds K fd ["self", "other"] [])
    (n_BadNumber : PySem.W.nsIn K mainGlobals "BadNumber" = some (some (.ref CN))) (exm_BadNumber : PySem.W.exmOne K (.ref CN) (.ref CB) = some true) (xb_BadNumber : excB K CN = true) (xno_BadNumber : PySem.W.findIn K (.ref CN) "part" = some none) (ow_BadNumber : Own P K mg CN "part")
    (n_BadRule : PySem.W.nsIn K mainGlobals "BadRule" = some (some (.ref CR))) (exm_BadRule : PySem.W.exmOne K (.ref CR) (.ref CB) = some true) (xb_BadRule : excB K CR = true) (xno_BadRule : PySem.W.findIn K (.ref CR) "part" = some none) (ow_BadRule : Own P K mg CR "part")
    (n_TooMany : PySem.W.nsIn K mainGlobals "TooMany" = some (some (.ref CT))) (exm_TooMany : PySem.W.exmOne K (.ref CT) (.ref CB) = some true) (xb_TooMany : excB K CT = true) (xno_TooMany : PySem.W.findIn K (.ref CT) "most" = some none) (ow_TooMany : Own P K mg CT "most")
    (n_MOST_LEGS : PySem.W.nsIn K mainGlobals "MOST_LEGS" = some (some (.int 8 t_M)))
    (n_is_number : PySem.W.nsIn K mainGlobals "is_number" = some (some (.ref f_is_number))) (e_is_number : ∃ fd, Fun K "is_number" "is_number" sIsNumber f_is_number fd ∧ L2.Binds K fd ["thing"] [])
    (n_is_from : PySem.W.nsIn K mainGlobals "is_from" = some (some (.ref f_is_from))) (e_is_from : ∃ fd, Fun K "is_from" "is_from" sIsFrom f_is_from fd ∧ L2.Binds K fd ["thing", "least", "most"] [])
    (n_is_list : PySem.W.nsIn K mainGlobals "is_list" = some (some (.ref f_is_list))) (e_is_list : ∃ fd, Fun K "is_list" "is_list" sIsList f_is_list fd ∧ L2.Binds K fd ["thing"] [])
    (n_is_prime : PySem.W.nsIn K mainGlobals "is_prime" = some (some (.ref f_is_prime))) (e_is_prime : ∃ fd, Fun K "is_prime" "is_prime" sIsPrime f_is_prime fd ∧ L2.Binds K fd ["thing"] [])
    (n_is_field_number : PySem.W.nsIn K mainGlobals "is_field_number" = some (some (.ref f_is_field_number))) (e_is_field_number : ∃ fd, Fun K "is_field_number" "is_field_number" sIsFieldNumber f_is_field_number fd ∧ L2.Binds K fd ["prime", "thing"] [])
    (n_are_field_numbers : PySem.W.nsIn K mainGlobals "are_field_numbers" = some (some (.ref f_are_field_numbers))) (e_are_field_numbers : ∃ fd, Fun K "are_field_numbers" "are_field_numbers" sAreFieldNumbers f_are_field_numbers fd ∧ L2.Binds K fd ["prime", "things"] [])
    (n_is_table : PySem.W.nsIn K mainGlobals "is_table" = some (some (.ref f_is_table))) (e_is_table : ∃ fd, Fun K "is_table" "is_table" sIsTable f_is_table fd ∧ L2.Binds K fd ["prime", "things"] [])
    (n_leg_mask : PySem.W.nsIn K mainGlobals "leg_mask" = some (some (.ref f_leg_mask))) (e_leg_mask : ∃ fd, Fun K "leg_mask" "leg_mask" sLegMask f_leg_mask fd ∧ L2.Binds K fd ["many", "leg"] [])
    (n_sums_of : PySem.W.nsIn K mainGlobals "sums_of" = some (some (.ref f_sums_of))) (e_sums_of : ∃ fd, Fun K "sums_of" "sums_of" sSumsOf f_sums_of fd ∧ L2.Binds K fd ["masks", "base"] [])
    (n_leg_sums : PySem.W.nsIn K mainGlobals "leg_sums" = some (some (.ref f_leg_sums))) (e_leg_sums : ∃ fd, Fun K "leg_sums" "leg_sums" sLegSums f_leg_sums fd ∧ L2.Binds K fd ["many", "legs", "base"] [])
    (n_behind : PySem.W.nsIn K mainGlobals "behind" = some (some (.ref f_behind))) (e_behind : ∃ fd, Fun K "behind" "behind" sBehind f_behind fd ∧ L2.Binds K fd ["many", "leg"] [])
    (n_want_rule : PySem.W.nsIn K mainGlobals "want_rule" = some (some (.ref f_want_rule))) (e_want_rule : ∃ fd, Fun K "want_rule" "want_rule" sWantRule f_want_rule fd ∧ L2.Binds K fd ["rule"] [])
    (n_want_leg : PySem.W.nsIn K mainGlobals "want_leg" = some (some (.ref f_want_leg))) (e_want_leg : ∃ fd, Fun K "want_leg" "want_leg" sWantLeg f_want_leg fd ∧ L2.Binds K fd ["rule", "leg", "part"] [])
    (n_want_two_legs : PySem.W.nsIn K mainGlobals "want_two_legs" = some (some (.ref f_want_two_legs))) (e_want_two_legs : ∃ fd, Fun K "want_two_legs" "want_two_legs" sWantTwoLegs f_want_two_legs fd ∧ L2.Binds K fd ["rule", "leg", "other"] [])
    (n_regrouped : PySem.W.nsIn K mainGlobals "regrouped" = some (some (.ref f_regrouped))) (e_regrouped : ∃ fd, Fun K "regrouped" "regrouped" sRegrouped f_regrouped fd ∧ L2.Binds K fd ["rule", "order"] [])
    (n_rows_by_bit : PySem.W.nsIn K mainGlobals "rows_by_bit" = some (some (.ref f_rows_by_bit))) (e_rows_by_bit : ∃ fd, Fun K "rows_by_bit" "rows_by_bit" sRowsByBit f_rows_by_bit fd ∧ L2.Binds K fd ["rule", "leg"] [])
    (n_turned : PySem.W.nsIn K mainGlobals "turned" = some (some (.ref f_turned))) (e_turned : ∃ fd, Fun K "turned" "turned" sTurned f_turned fd ∧ L2.Binds K fd ["rule", "many"] [] ∧ KwBinds fd ["rule", "many"])
    (n_beside : PySem.W.nsIn K mainGlobals "beside" = some (some (.ref f_beside))) (e_beside : ∃ fd, Fun K "beside" "beside" sBeside f_beside fd ∧ L2.Binds K fd ["rule", "other"] [] ∧ KwBinds fd ["rule", "other"])
    (n_closed : PySem.W.nsIn K mainGlobals "closed" = some (some (.ref f_closed))) (e_closed : ∃ fd, Fun K "closed" "closed" sClosed f_closed fd ∧ L2.Binds K fd ["rule", "leg", "other"] [] ∧ KwBinds fd ["rule", "leg", "other"])
    (n_joined : PySem.W.nsIn K mainGlobals "joined" = some (some (.ref f_joined))) (e_joined : ∃ fd, Fun K "joined" "joined" sJoined f_joined fd ∧ L2.Binds K fd ["rule", "leg", "other", "place"] [] ∧ KwBinds fd ["rule", "leg", "other", "place"])
    (n_law_begun : PySem.W.nsIn K mainGlobals "_law_begun" = some (some (.ref f_law_begun))) (e_law_begun : ∃ fd, Fun K "_law_begun" "_law_begun" sLBegun f_law_begun fd ∧ L2.Binds K fd ["script"] [])
    (n_law_mixed : PySem.W.nsIn K mainGlobals "_law_mixed" = some (some (.ref f_law_mixed))) (e_law_mixed : ∃ fd, Fun K "_law_mixed" "_law_mixed" sLMixed f_law_mixed fd ∧ L2.Binds K fd ["draw"] [])
    (n_law_take : PySem.W.nsIn K mainGlobals "_law_take" = some (some (.ref f_law_take))) (e_law_take : ∃ fd, Fun K "_law_take" "_law_take" sLTake f_law_take fd ∧ L2.Binds K fd ["draw", "amount"] [])
    (n_law_pick : PySem.W.nsIn K mainGlobals "_law_pick" = some (some (.ref f_law_pick))) (e_law_pick : ∃ fd, Fun K "_law_pick" "_law_pick" sLPick f_law_pick fd ∧ L2.Binds K fd ["draw", "some"] [])
    (n_law_caught : PySem.W.nsIn K mainGlobals "_law_caught" = some (some (.ref f_law_caught))) (e_law_caught : ∃ fd, Fun K "_law_caught" "_law_caught" sLCaught f_law_caught fd ∧ L2.Binds K fd ["work"] [])
    (n_law_prime : PySem.W.nsIn K mainGlobals "_law_prime" = some (some (.ref f_law_prime))) (e_law_prime : ∃ fd, Fun K "_law_prime" "_law_prime" sLPrime f_law_prime fd ∧ L2.Binds K fd ["draw"] [])
    (n_law_numbers : PySem.W.nsIn K mainGlobals "_law_numbers" = some (some (.ref f_law_numbers))) (e_law_numbers : ∃ fd, Fun K "_law_numbers" "_law_numbers" sLNumbers f_law_numbers fd ∧ L2.Binds K fd ["draw", "prime_here", "many"] [])
    (n_law_bits : PySem.W.nsIn K mainGlobals "_law_bits" = some (some (.ref f_law_bits))) (e_law_bits : ∃ fd, Fun K "_law_bits" "_law_bits" sLBits f_law_bits fd ∧ L2.Binds K fd ["number", "many"] [])
    (n_law_number : PySem.W.nsIn K mainGlobals "_law_number" = some (some (.ref f_law_number))) (e_law_number : ∃ fd, Fun K "_law_number" "_law_number" sLNumber f_law_number fd ∧ L2.Binds K fd ["bits"] [])
    (n_law_is_rule : PySem.W.nsIn K mainGlobals "_law_is_rule" = some (some (.ref f_law_is_rule))) (e_law_is_rule : ∃ fd, Fun K "_law_is_rule" "_law_is_rule" sLIsRule f_law_is_rule fd ∧ L2.Binds K fd ["thing", "prime_here", "table_here"] [])
    (n_law_is_bad : PySem.W.nsIn K mainGlobals "_law_is_bad" = some (some (.ref f_law_is_bad))) (e_law_is_bad : ∃ fd, Fun K "_law_is_bad" "_law_is_bad" sLIsBad f_law_is_bad fd ∧ L2.Binds K fd ["caught", "kind_here"] [])
    (z_abs : PySem.W.nsIn K mainGlobals "abs" = some none)
    (z_int : PySem.W.nsIn K mainGlobals "int" = some none)
    (z_len : PySem.W.nsIn K mainGlobals "len" = some none)
    (z_isinstance : PySem.W.nsIn K mainGlobals "isinstance" = some none)
    (z_bool : PySem.W.nsIn K mainGlobals "bool" = some none)
    (z_list : PySem.W.nsIn K mainGlobals "list" = some none)
    (z_tuple : PySem.W.nsIn K mainGlobals "tuple" = some none)
    (z_all : PySem.W.nsIn K mainGlobals "all" = some none)
    (z_range : PySem.W.nsIn K mainGlobals "range" = some none)
    (z_repr : PySem.W.nsIn K mainGlobals "repr" = some none)
    (z_min : PySem.W.nsIn K mainGlobals "min" = some none)
    : codeAny (model P w) callerA (.call (.ref fa) ⟨[.ref a], []⟩) (fun r s' => r = .ok (.ret (.bool true)) ∧ OldK s₁.heap s'.heap ∧ s'.os = s₁.os ∧ AllBare s'.gens) s₁ := by
  have e := hfa.symm.trans (PySem.W.mg_of KX G n_law)
  cases e
  have zz : ∀ {x : Str}, PySem.W.nsIn K mainGlobals x = some none → mg x = none := fun e => PySem.W.mg_none_of KX G e
  have gg : ∀ {x : Str} {v : Value}, PySem.W.nsIn K mainGlobals x = some (some v) → mg x = some v := fun e => PySem.W.mg_of KX G e
  have B : Bts mg := ⟨zz z_isinstance, zz z_int, zz z_bool, zz z_list, zz z_tuple, zz z_all, zz z_len, zz z_range⟩
  obtain ⟨T, M⟩ := ruleB_ok rB (gg nC) rI rF
  have NR := notRB_ok nR
  obtain ⟨dI, FI, bI⟩ := eI
  obtain ⟨dE, FE, bE⟩ := eE
  have T_BadNumber : Err P K mg "BadNumber" CN "part" := by
    obtain ⟨fX, dX, IK, iX, tX, bX, _, XF⟩ := ow_BadNumber.ex
    exact ⟨⟨fX, dX, IK, iX, tX, bX⟩, gg n_BadNumber⟩
  have E_BadNumber : ErrC K CB CN "part" := by
    obtain ⟨fX, dX, IK, iX, tX, bX, _, XF⟩ := ow_BadNumber.ex
    exact ⟨exm_BadNumber, XF, xno_BadNumber, excB_ok xb_BadNumber⟩
  have T_BadRule : Err P K mg "BadRule" CR "part" := by
    obtain ⟨fX, dX, IK, iX, tX, bX, _, XF⟩ := ow_BadRule.ex
    exact ⟨⟨fX, dX, IK, iX, tX, bX⟩, gg n_BadRule⟩
  have E_BadRule : ErrC K CB CR "part" := by
    obtain ⟨fX, dX, IK, iX, tX, bX, _, XF⟩ := ow_BadRule.ex
    exact ⟨exm_BadRule, XF, xno_BadRule, excB_ok xb_BadRule⟩
  have T_TooMany : Err P K mg "TooMany" CT "most" := by
    obtain ⟨fX, dX, IK, iX, tX, bX, _, XF⟩ := ow_TooMany.ex
    exact ⟨⟨fX, dX, IK, iX, tX, bX⟩, gg n_TooMany⟩
  have E_TooMany : ErrC K CB CT "most" := by
    obtain ⟨fX, dX, IK, iX, tX, bX, _, XF⟩ := ow_TooMany.ex
    exact ⟨exm_TooMany, XF, xno_TooMany, excB_ok xb_TooMany⟩
  obtain ⟨d_is_number, F_is_number, b_is_number⟩ := e_is_number
  obtain ⟨d_is_from, F_is_from, b_is_from⟩ := e_is_from
  obtain ⟨d_is_list, F_is_list, b_is_list⟩ := e_is_list
  obtain ⟨d_is_prime, F_is_prime, b_is_prime⟩ := e_is_prime
  obtain ⟨d_is_field_number, F_is_field_number, b_is_field_number⟩ := e_is_field_number
  obtain ⟨d_are_field_numbers, F_are_field_numbers, b_are_field_numbers⟩ := e_are_field_numbers
  obtain ⟨d_is_table, F_is_table, b_is_table⟩ := e_is_table
  obtain ⟨d_leg_mask, F_leg_mask, b_leg_mask⟩ := e_leg_mask
  obtain ⟨d_sums_of, F_sums_of, b_sums_of⟩ := e_sums_of
  obtain ⟨d_leg_sums, F_leg_sums, b_leg_sums⟩ := e_leg_sums
  obtain ⟨d_behind, F_behind, b_behind⟩ := e_behind
  obtain ⟨d_want_rule, F_want_rule, b_want_rule⟩ := e_want_rule
  obtain ⟨d_want_leg, F_want_leg, b_want_leg⟩ := e_want_leg
  obtain ⟨d_want_two_legs, F_want_two_legs, b_want_two_legs⟩ := e_want_two_legs
  obtain ⟨d_regrouped, F_regrouped, b_regrouped⟩ := e_regrouped
  obtain ⟨d_rows_by_bit, F_rows_by_bit, b_rows_by_bit⟩ := e_rows_by_bit
  obtain ⟨d_turned, F_turned, b_turned, w_turned⟩ := e_turned
  obtain ⟨d_beside, F_beside, b_beside, w_beside⟩ := e_beside
  obtain ⟨d_closed, F_closed, b_closed, w_closed⟩ := e_closed
  obtain ⟨d_joined, F_joined, b_joined, w_joined⟩ := e_joined
  obtain ⟨d_law_begun, F_law_begun, b_law_begun⟩ := e_law_begun
  obtain ⟨d_law_mixed, F_law_mixed, b_law_mixed⟩ := e_law_mixed
  obtain ⟨d_law_take, F_law_take, b_law_take⟩ := e_law_take
  obtain ⟨d_law_pick, F_law_pick, b_law_pick⟩ := e_law_pick
  obtain ⟨d_law_caught, F_law_caught, b_law_caught⟩ := e_law_caught
  obtain ⟨d_law_prime, F_law_prime, b_law_prime⟩ := e_law_prime
  obtain ⟨d_law_numbers, F_law_numbers, b_law_numbers⟩ := e_law_numbers
  obtain ⟨d_law_bits, F_law_bits, b_law_bits⟩ := e_law_bits
  obtain ⟨d_law_number, F_law_number, b_law_number⟩ := e_law_number
  obtain ⟨d_law_is_rule, F_law_is_rule, b_law_is_rule⟩ := e_law_is_rule
  obtain ⟨d_law_is_bad, F_law_is_bad, b_law_is_bad⟩ := e_law_is_bad
  obtain ⟨oc_law, kV_law, doc_law, pm_law, ct_law, od_law, an_law, osl_law, ll_law, lc_law, lk_law, lb_law⟩ := e_law
  obtain ⟨oc_law_refused, kV_law_refused, doc_law_refused, pm_law_refused, ct_law_refused, od_law_refused, an_law_refused, osl_law_refused, ll_law_refused, lc_law_refused, lk_law_refused, lb_law_refused⟩ := e_law_refused
  refine callGTs (Ts := [(c_law, P_law), (c_law_refused, P_law_refused)]) KX G hb hbb hlim hg ?hT ?nT ?cT hbm ha hi (Nat.le_trans hl (by rw [sizeLine_eq]; decide)) (k := 12) ⟨rfl, by decide, by decide⟩
    (fun base _ _ TBs => fnG_at (sp := spLaw K P_law P_law_refused) ll_law lc_law scL (fun vs H Q E h => by obtain ⟨a, ns, rfl, _⟩ := h; rfl) fun A outer s H vs Q E hG hr h => ?body)
    (fun s u => .of_eq (lb_law [u] rfl)) (fun H hT hS => ⟨a, ns, rfl, hS, hl, fun p hp => ?tabs, fun _ => rfl⟩)
  case hT =>
    intro p hp
    simp only [List.mem_cons, List.not_mem_nil, or_false] at hp
    rcases hp with rfl | rfl
    · exact tab_law.2
    · exact tab_law_refused.2
  case nT =>
    intro p hp
    simp only [List.mem_cons, List.not_mem_nil, or_false] at hp
    rcases hp with rfl | rfl
    · exact nT_law
    · exact nT_law_refused
  case cT =>
    intro p hp
    simp only [List.mem_cons, List.not_mem_nil, or_false] at hp
    rcases hp with rfl | rfl
    · exact tab_law.1
    · exact tab_law_refused.1
  case tabs =>
    refine ⟨#[], ?_, trivial, fun pos cv hc => by cases hc⟩
    simp only [List.mem_cons, List.not_mem_nil, or_false] at hp
    rcases hp with rfl | rfl
    · exact hT (c_law, P_law) (List.mem_of_getElem? (i := 0) rfl)
    · exact hT (c_law_refused, P_law_refused) (List.mem_of_getElem? (i := 1) rfl)
  case body =>
    have TB_law : TabB base mg c_law P_law := TBs (c_law, P_law) (List.mem_of_getElem? (i := 0) rfl)
    have TB_law_refused : TabB base mg c_law_refused P_law_refused := TBs (c_law_refused, P_law_refused) (List.mem_of_getElem? (i := 1) rfl)
    have GR : FnOk P w K mg base CX0 2 _ _ ["thing", "least", "most"] (spIsFrom K) := ok_is_from F_is_from F_is_number b_is_number (gg n_is_number) B
    have GP : FnOk P w K mg base CX0 3 _ _ ["thing"] (spIsPrime K) := ok_is_prime F_is_prime F_is_from GR b_is_from (gg n_is_from) B
    have GF : FnOk P w K mg base CX0 3 _ _ ["prime", "thing"] (spIsField K) := ok_is_field F_is_field_number F_is_from GR b_is_from (gg n_is_from)
    have GA : FnOk P w K mg base CX0 4 _ _ ["prime", "things"] (spAreField K) := ok_are_field F_are_field_numbers F_is_list b_is_list (gg n_is_list) F_is_field_number GF b_is_field_number (gg n_is_field_number) B
    have GT : FnOk P w K mg base CX0 5 _ _ ["prime", "things"] (spIsTable K) := ok_is_table F_is_table F_is_list b_is_list (gg n_is_list) F_are_field_numbers GA b_are_field_numbers (gg n_are_field_numbers) (gg n_MOST_LEGS) B
    have GI : FnOk P w K mg base CX0 6 fI dI ["self", "prime", "table"] (spRInit K C) := ok_rinit FI T F_is_prime GP b_is_prime (gg n_is_prime) F_is_table GT b_is_table (gg n_is_table) B
    have MR : MkRule P w K mg base C fI dI := ⟨T, M, GI, bI⟩
    have GS : FnOk P w K mg base CX0 2 _ _ ["many", "legs", "base"] (spLegSums K) := ok_leg_sums F_leg_sums F_leg_mask b_leg_mask (gg n_leg_mask) F_sums_of b_sums_of (gg n_sums_of)
    have GG : FnOk P w K mg base CX0 8 _ _ ["rule", "order"] (spRegrouped K C) := ok_regrouped F_regrouped MR F_leg_sums GS b_leg_sums (gg n_leg_sums)
    have LW : Low P w K mg base C CN fI dI := ⟨MR, T_BadNumber, B, ⟨_, _, ok_want_rule F_want_rule T B, b_want_rule, (gg n_want_rule), F_want_rule.kp⟩, ⟨_, _, ok_want_leg F_want_leg T T_BadNumber F_is_from GR b_is_from (gg n_is_from), b_want_leg, (gg n_want_leg), F_want_leg.kp⟩, ⟨_, _, GR, b_is_from, (gg n_is_from), F_is_from.kp⟩, ⟨_, _, ok_leg_mask F_leg_mask, b_leg_mask, (gg n_leg_mask), F_leg_mask.kp⟩, ⟨_, _, GS, b_leg_sums, (gg n_leg_sums), F_leg_sums.kp⟩, ⟨_, gg n_MOST_LEGS⟩⟩
    have GW : FnOk P w K mg base (L2.CX P w) 3 _ _ ["rule"] (spWant K C CR) := ok_want F_want_rule T T_BadRule NR B
    have GH : FnOk P w K mg base CX0 1 _ _ ["many", "leg"] spBehind := ok_behind F_behind B
    have GO : FnOk P w K mg base CX0 3 _ _ ["rule", "leg"] (spRows C) := ok_rows F_rows_by_bit LW GH b_behind (gg n_behind) F_behind.kp
    have Gk : FnOk P w K mg base CX0 2 _ _ ["draw", "amount"] spTake := ok_take F_law_take F_law_mixed b_law_mixed (gg n_law_mixed) (zz z_int)
    have Gp : FnOk P w K mg base CX0 3 _ _ ["draw", "some"] spPick := ok_pick F_law_pick F_law_take Gk b_law_take (gg n_law_take) (zz z_len)
    have GQ : FnOk P w K mg base (L2.CX P w) 4 _ _ ["rule", "leg", "other"] (spWantTwo K C CN) := ok_want_two F_want_two_legs T_BadNumber (ok_want_leg F_want_leg T T_BadNumber F_is_from GR b_is_from (gg n_is_from)) b_want_leg (gg n_want_leg) F_want_leg.kp
    have LL : LD P w K mg base C CN CR CT CB fI dI := { MR := MR, B := B, begun := ⟨_, _, ok_begun F_law_begun (zz z_abs), b_law_begun, (gg n_law_begun), F_law_begun.kp⟩, take := ⟨_, _, Gk, b_law_take, (gg n_law_take), F_law_take.kp⟩, prime := ⟨_, _, ok_prime F_law_prime Gp b_law_pick (gg n_law_pick) F_law_pick.kp, b_law_prime, (gg n_law_prime), F_law_prime.kp⟩, numbers := ⟨_, _, ok_numbers F_law_numbers Gp b_law_pick (gg n_law_pick) F_law_pick.kp Gk b_law_take (gg n_law_take) F_law_take.kp B, b_law_numbers, (gg n_law_numbers), F_law_numbers.kp⟩, bits := ⟨_, _, ok_bits F_law_bits B, b_law_bits, (gg n_law_bits), F_law_bits.kp⟩, number := ⟨_, _, ok_number F_law_number, b_law_number, (gg n_law_number), F_law_number.kp⟩, isRule := ⟨_, _, ok_is_rule F_law_is_rule T B (zz z_repr), b_law_is_rule, (gg n_law_is_rule), F_law_is_rule.kp⟩, turned := ⟨_, _, ok_turned F_turned LW GG b_regrouped (gg n_regrouped) F_regrouped.kp, b_turned, (gg n_turned), F_turned.kp, w_turned⟩, beside := ⟨_, _, ok_beside F_beside MR T_BadRule T_TooMany GW b_want_rule (gg n_want_rule) F_want_rule.kp (gg n_MOST_LEGS), b_beside, (gg n_beside), F_beside.kp, w_beside⟩, closed := ⟨_, _, ok_closed F_closed LW GW b_want_rule (gg n_want_rule) F_want_rule.kp GQ b_want_two_legs (gg n_want_two_legs) F_want_two_legs.kp, b_closed, (gg n_closed), F_closed.kp, w_closed⟩, joined := ⟨_, _, ok_joined F_joined LW T_BadRule T_TooMany GW b_want_rule (gg n_want_rule) F_want_rule.kp GO b_rows_by_bit (gg n_rows_by_bit) F_rows_by_bit.kp, b_joined, (gg n_joined), F_joined.kp, w_joined⟩, eq := ⟨_, _, neB_ok nE, ok_req FE T B, bE⟩, mn := zz z_min, caught := ⟨⟨_, _, F_law_caught, b_law_caught, (gg n_law_caught)⟩, gg nB⟩, eT := E_TooMany, gT := gg n_TooMany }
    have DB : Df P w K mg base CX0 1 "_law_is_bad" ["caught", "kind_here"] (spIsBad CR CN) := ⟨_, _, ok_is_bad F_law_is_bad B (gg n_BadRule) (gg n_BadNumber) E_BadRule.xc E_BadNumber.xc, b_law_is_bad, (gg n_law_is_bad), F_law_is_bad.kp⟩
    have FR : FnG P w K mg base 11 _ _ ["draw", "rule", "other"] (spRefused C (TL P_law P_law_refused)) := fnG_at ll_law_refused lc_law_refused scR (fun vs H Q E h => by obtain ⟨d, l, c, r, o, p, n, m, ns, ms, rfl, _⟩ := h; rfl)
      fun A outer s H vs Q E hG hr h => refused_body LL DB E_BadRule E_BadNumber TB_law_refused ne_law_law_refused hr h
    exact law_body (C := C) (CN := CN) (CR := CR) (CT := CT) (CB := CB) (fI := fI) (fdI := dI) ⟨LL, ⟨_, _, FR, .all lb_law_refused, gg n_law_refused, lk_law_refused⟩⟩ TB_law ne_law_law_refused hG hr h
end K
end
section
set_option linter.all false
open PySem PySem.W PyProof.Rows L2 K Ob
set_option maxRecDepth 100000
set_option maxHeartbeats 0
theorem PySem.Challenge.cw_onebasis_k03_whole_rules_joined_and_clos_holds : PySem.Challenge.rw_onebasis_k03_whole_rules_joined_and_clos.Holds := by
  w_on; o_law; k_headL; (case hw => w_witness2)
  k_fill
  refine Att.attach_call (n := 63) rfl rfl fun w s₀ s₁ mg mb fa o pm cd doc a vs ns G Y ho hd hcd hmg hobj hints hlen hg => ?_
  have KX := PySem.W.kIn_of Y
  have zs : mg "super" = none := PySem.W.mg_none_of KX G.T.g (by k_is)
  refine' Kend KX G.T.g G.T.b G.T.builtins G.T.nolimit hg hobj hints hlen hmg G.T.bmain ?n_law ?e_law ?tab_law ?nT_law ?n_law_refused ?e_law_refused ?tab_law_refused ?nT_law_refused ?ne_law_law_refused ?nC ?nB ?rB ?rI ?rF ?nQ ?nE ?nR ?eI ?eE ?n_BadNumber ?exm_BadNumber ?xb_BadNumber ?xno_BadNumber ?ow_BadNumber ?n_BadRule ?exm_BadRule ?xb_BadRule ?xno_BadRule ?ow_BadRule ?n_TooMany ?exm_TooMany ?xb_TooMany ?xno_TooMany ?ow_TooMany ?n_MOST_LEGS ?n_is_number ?e_is_number ?n_is_from ?e_is_from ?n_is_list ?e_is_list ?n_is_prime ?e_is_prime ?n_is_field_number ?e_is_field_number ?n_are_field_numbers ?e_are_field_numbers ?n_is_table ?e_is_table ?n_leg_mask ?e_leg_mask ?n_sums_of ?e_sums_of ?n_leg_sums ?e_leg_sums ?n_behind ?e_behind ?n_want_rule ?e_want_rule ?n_want_leg ?e_want_leg ?n_want_two_legs ?e_want_two_legs ?n_regrouped ?e_regrouped ?n_rows_by_bit ?e_rows_by_bit ?n_turned ?e_turned ?n_beside ?e_beside ?n_closed ?e_closed ?n_joined ?e_joined ?n_law_begun ?e_law_begun ?n_law_mixed ?e_law_mixed ?n_law_take ?e_law_take ?n_law_pick ?e_law_pick ?n_law_caught ?e_law_caught ?n_law_prime ?e_law_prime ?n_law_numbers ?e_law_numbers ?n_law_bits ?e_law_bits ?n_law_number ?e_law_number ?n_law_is_rule ?e_law_is_rule ?n_law_is_bad ?e_law_is_bad ?z_abs ?z_int ?z_len ?z_isinstance ?z_bool ?z_list ?z_tuple ?z_all ?z_range ?z_repr ?z_min
  (case n_law => k_is)
  (case n_law_refused => k_is)
  (case nC => k_is)
  (case nB => k_is)
  (case rI => k_is)
  (case nQ => k_is)
  (case n_BadNumber => k_is)
  (case n_BadRule => k_is)
  (case n_TooMany => k_is)
  (case xno_BadNumber => k_is)
  (case xno_BadRule => k_is)
  (case xno_TooMany => k_is)
  (case n_MOST_LEGS => k_is)
  (case n_is_number => k_is)
  (case n_is_from => k_is)
  (case n_is_list => k_is)
  (case n_is_prime => k_is)
  (case n_is_field_number => k_is)
  (case n_are_field_numbers => k_is)
  (case n_is_table => k_is)
  (case n_leg_mask => k_is)
  (case n_sums_of => k_is)
  (case n_leg_sums => k_is)
  (case n_behind => k_is)
  (case n_want_rule => k_is)
  (case n_want_leg => k_is)
  (case n_want_two_legs => k_is)
  (case n_regrouped => k_is)
  (case n_rows_by_bit => k_is)
  (case n_turned => k_is)
  (case n_beside => k_is)
  (case n_closed => k_is)
  (case n_joined => k_is)
  (case n_law_begun => k_is)
  (case n_law_mixed => k_is)
  (case n_law_take => k_is)
  (case n_law_pick => k_is)
  (case n_law_caught => k_is)
  (case n_law_prime => k_is)
  (case n_law_numbers => k_is)
  (case n_law_bits => k_is)
  (case n_law_number => k_is)
  (case n_law_is_rule => k_is)
  (case n_law_is_bad => k_is)
  (case z_abs => k_is)
  (case z_int => k_is)
  (case z_len => k_is)
  (case z_isinstance => k_is)
  (case z_bool => k_is)
  (case z_list => k_is)
  (case z_tuple => k_is)
  (case z_all => k_is)
  (case z_range => k_is)
  (case z_repr => k_is)
  (case z_min => k_is)
  (case e_law => (refine' K_at KX ?l ?k ?p ?b; (case l => k_is); (case k => k_is); (case p => k_is); (case b => exact fun us hl => match us, hl with | [_], _ => rfl)))
  (case tab_law => (refine' PySem.W.tab_of (x := "law") G.T KX ?rec ?tin; (case tin => (refine' tab_in ?n ?l ?e ?lc ?hv; (case n => k_is); (case l => k_is); (case e => exact rfl); (case lc => k_is); (case hv => exact rfl))); (case rec => rfl)))
  (case nT_law => kernel_rfl)
  (case e_law_refused => (refine' K_at KX ?l ?k ?p ?b; (case l => k_is); (case k => k_is); (case p => k_is); (case b => exact fun us hl => match us, hl with | [_, _, _], _ => rfl)))
  (case tab_law_refused => (refine' PySem.W.tab_of (x := "_law_refused") G.T KX ?rec ?tin; (case tin => (refine' tab_in ?n ?l ?e ?lc ?hv; (case n => k_is); (case l => k_is); (case e => exact rfl); (case lc => k_is); (case hv => exact rfl))); (case rec => rfl)))
  (case nT_law_refused => kernel_rfl)
  (case ne_law_law_refused => decide)
  (case rB => kernel_rfl); (case rF => kernel_rfl); (case nR => kernel_rfl)
  (case eE => (refine' K2met KX ?l ?k ?p ?b; (case l => k_is); (case k => k_is); (case p => k_is); (case b => exact fun us hl => match us, hl with | [_, _], _ => rfl)))
  (case eI => (refine' K2met KX ?l ?k ?p ?b; (case l => k_is); (case k => k_is); (case p => k_is); (case b => exact fun us hl => match us, hl with | [_, _, _], _ => rfl)))
  (case nE => kernel_rfl)
  (case exm_BadNumber => kernel_rfl); (case xb_BadNumber => kernel_rfl)
  case ow_BadNumber =>
    refine' K2own KX ?iC ?l ?tI ?hco ?lc ?lcc ?hv ?hf ?st ?pb ?kb ?ob zs ?top
    (case iC => k_is); (case l => k_is); (case tI => k_is); (case hco => k_is); (case lc => k_is); (case lcc => k_is)
    (case hv => exact rfl); (case hf => exact rfl); (case st => decide +kernel); (case pb => exact fun u v => rfl); (case kb => exact fun s a v => .of_eq rfl); (case ob => kernel_rfl); (case top => decide +kernel)
  (case exm_BadRule => kernel_rfl); (case xb_BadRule => kernel_rfl)
  case ow_BadRule =>
    refine' K2own KX ?iC ?l ?tI ?hco ?lc ?lcc ?hv ?hf ?st ?pb ?kb ?ob zs ?top
    (case iC => k_is); (case l => k_is); (case tI => k_is); (case hco => k_is); (case lc => k_is); (case lcc => k_is)
    (case hv => exact rfl); (case hf => exact rfl); (case st => decide +kernel); (case pb => exact fun u v => rfl); (case kb => exact fun s a v => .of_eq rfl); (case ob => kernel_rfl); (case top => decide +kernel)
  (case exm_TooMany => kernel_rfl); (case xb_TooMany => kernel_rfl)
  case ow_TooMany =>
    refine' K2own KX ?iC ?l ?tI ?hco ?lc ?lcc ?hv ?hf ?st ?pb ?kb ?ob zs ?top
    (case iC => k_is); (case l => k_is); (case tI => k_is); (case hco => k_is); (case lc => k_is); (case lcc => k_is)
    (case hv => exact rfl); (case hf => exact rfl); (case st => decide +kernel); (case pb => exact fun u v => rfl); (case kb => exact fun s a v => .of_eq rfl); (case ob => kernel_rfl); (case top => decide +kernel)
  (case e_is_number => (refine' K2def KX ?l ?k ?p ?b; (case l => k_is); (case k => k_is); (case p => k_is); (case b => exact fun us hl => match us, hl with | [_], _ => rfl)))
  (case e_is_from => (refine' K2def KX ?l ?k ?p ?b; (case l => k_is); (case k => k_is); (case p => k_is); (case b => exact fun us hl => match us, hl with | [_, _, _], _ => rfl)))
  (case e_is_list => (refine' K2def KX ?l ?k ?p ?b; (case l => k_is); (case k => k_is); (case p => k_is); (case b => exact fun us hl => match us, hl with | [_], _ => rfl)))
  (case e_is_prime => (refine' K2def KX ?l ?k ?p ?b; (case l => k_is); (case k => k_is); (case p => k_is); (case b => exact fun us hl => match us, hl with | [_], _ => rfl)))
  (case e_is_field_number => (refine' K2def KX ?l ?k ?p ?b; (case l => k_is); (case k => k_is); (case p => k_is); (case b => exact fun us hl => match us, hl with | [_, _], _ => rfl)))
  (case e_are_field_numbers => (refine' K2def KX ?l ?k ?p ?b; (case l => k_is); (case k => k_is); (case p => k_is); (case b => exact fun us hl => match us, hl with | [_, _], _ => rfl)))
  (case e_is_table => (refine' K2def KX ?l ?k ?p ?b; (case l => k_is); (case k => k_is); (case p => k_is); (case b => exact fun us hl => match us, hl with | [_, _], _ => rfl)))
  (case e_leg_mask => (refine' K2def KX ?l ?k ?p ?b; (case l => k_is); (case k => k_is); (case p => k_is); (case b => exact fun us hl => match us, hl with | [_, _], _ => rfl)))
  (case e_sums_of => (refine' K2def KX ?l ?k ?p ?b; (case l => k_is); (case k => k_is); (case p => k_is); (case b => exact fun us hl => match us, hl with | [_, _], _ => rfl)))
  (case e_leg_sums => (refine' K2def KX ?l ?k ?p ?b; (case l => k_is); (case k => k_is); (case p => k_is); (case b => exact fun us hl => match us, hl with | [_, _, _], _ => rfl)))
  (case e_behind => (refine' K2def KX ?l ?k ?p ?b; (case l => k_is); (case k => k_is); (case p => k_is); (case b => exact fun us hl => match us, hl with | [_, _], _ => rfl)))
  (case e_want_rule => (refine' K2def KX ?l ?k ?p ?b; (case l => k_is); (case k => k_is); (case p => k_is); (case b => exact fun us hl => match us, hl with | [_], _ => rfl)))
  (case e_want_leg => (refine' K2def KX ?l ?k ?p ?b; (case l => k_is); (case k => k_is); (case p => k_is); (case b => exact fun us hl => match us, hl with | [_, _, _], _ => rfl)))
  (case e_want_two_legs => (refine' K2def KX ?l ?k ?p ?b; (case l => k_is); (case k => k_is); (case p => k_is); (case b => exact fun us hl => match us, hl with | [_, _, _], _ => rfl)))
  (case e_regrouped => (refine' K2def KX ?l ?k ?p ?b; (case l => k_is); (case k => k_is); (case p => k_is); (case b => exact fun us hl => match us, hl with | [_, _], _ => rfl)))
  (case e_rows_by_bit => (refine' K2def KX ?l ?k ?p ?b; (case l => k_is); (case k => k_is); (case p => k_is); (case b => exact fun us hl => match us, hl with | [_, _], _ => rfl)))
  (case e_turned => (refine' K2kw KX ?l ?k ?p ?b ?b2; (case l => k_is); (case k => k_is); (case p => k_is); (case b => exact fun us hl => match us, hl with | [_, _], _ => rfl); (case b2 => exact fun us hl => match us, hl with | [_, _], _ => rfl)))
  (case e_beside => (refine' K2kw KX ?l ?k ?p ?b ?b2; (case l => k_is); (case k => k_is); (case p => k_is); (case b => exact fun us hl => match us, hl with | [_, _], _ => rfl); (case b2 => exact fun us hl => match us, hl with | [_, _], _ => rfl)))
  (case e_closed => (refine' K2kw KX ?l ?k ?p ?b ?b2; (case l => k_is); (case k => k_is); (case p => k_is); (case b => exact fun us hl => match us, hl with | [_, _, _], _ => rfl); (case b2 => exact fun us hl => match us, hl with | [_, _, _], _ => rfl)))
  (case e_joined => (refine' K2kw KX ?l ?k ?p ?b ?b2; (case l => k_is); (case k => k_is); (case p => k_is); (case b => exact fun us hl => match us, hl with | [_, _, _, _], _ => rfl); (case b2 => exact fun us hl => match us, hl with | [_, _, _, _], _ => rfl)))
  (case e_law_begun => (refine' K2def KX ?l ?k ?p ?b; (case l => k_is); (case k => k_is); (case p => k_is); (case b => exact fun us hl => match us, hl with | [_], _ => rfl)))
  (case e_law_mixed => (refine' K2def KX ?l ?k ?p ?b; (case l => k_is); (case k => k_is); (case p => k_is); (case b => exact fun us hl => match us, hl with | [_], _ => rfl)))
  (case e_law_take => (refine' K2def KX ?l ?k ?p ?b; (case l => k_is); (case k => k_is); (case p => k_is); (case b => exact fun us hl => match us, hl with | [_, _], _ => rfl)))
  (case e_law_pick => (refine' K2def KX ?l ?k ?p ?b; (case l => k_is); (case k => k_is); (case p => k_is); (case b => exact fun us hl => match us, hl with | [_, _], _ => rfl)))
  (case e_law_caught => (refine' K2def KX ?l ?k ?p ?b; (case l => k_is); (case k => k_is); (case p => k_is); (case b => exact fun us hl => match us, hl with | [_], _ => rfl)))
  (case e_law_prime => (refine' K2def KX ?l ?k ?p ?b; (case l => k_is); (case k => k_is); (case p => k_is); (case b => exact fun us hl => match us, hl with | [_], _ => rfl)))
  (case e_law_numbers => (refine' K2def KX ?l ?k ?p ?b; (case l => k_is); (case k => k_is); (case p => k_is); (case b => exact fun us hl => match us, hl with | [_, _, _], _ => rfl)))
  (case e_law_bits => (refine' K2def KX ?l ?k ?p ?b; (case l => k_is); (case k => k_is); (case p => k_is); (case b => exact fun us hl => match us, hl with | [_, _], _ => rfl)))
  (case e_law_number => (refine' K2def KX ?l ?k ?p ?b; (case l => k_is); (case k => k_is); (case p => k_is); (case b => exact fun us hl => match us, hl with | [_], _ => rfl)))
  (case e_law_is_rule => (refine' K2def KX ?l ?k ?p ?b; (case l => k_is); (case k => k_is); (case p => k_is); (case b => exact fun us hl => match us, hl with | [_, _, _], _ => rfl)))
  (case e_law_is_bad => (refine' K2def KX ?l ?k ?p ?b; (case l => k_is); (case k => k_is); (case p => k_is); (case b => exact fun us hl => match us, hl with | [_, _], _ => rfl)))
end
