import PyProof.Rows.All
import Wide.All
import OpenK.AllK
import Wide.FinOn
import HandS.ForMost
import HandS.Wide
import HandS.Style
import HandS.IsInst
import HandS.WideBits
import HandS.Walk
import HandS.Exc
import HandS.ExcInit
import HandS.Nested
import HandS.FStr
import KE.KExcSuper
import HandS.ExcValue
import HandS.ExcField
import HandS.ExcIs
import KE.KExcIs
import HandS.Lambda
import HandS.WordsExc
import PyProof.ReprRoads
import PyProof.ReprLen
import HandS.Defaults
import HandS.OwnEq
import PyProof.InstNe
import HandS.EndTab
import HandS.TupAny
import HandS.CallLocal
import KE.OsRunLaw
import PySem.Challenge.RW_onebasis_k02_whole_rules_turned_and_set
set_option Elab.async false
section
set_option linter.all false
namespace K
open PySem PySem.Spec PyProof.Rows L2
def top (i : Nat) : Stmt := PySem.Challenge.pw_onebasis_k02_whole_rules_turned_and_set.main.body.getD i (.Pass ⟨0, 0, 0, 0⟩)
abbrev sIsNumber : Stmt := top 2
abbrev sIsFrom : Stmt := top 3
abbrev sIsList : Stmt := top 4
abbrev sIsPrime : Stmt := top 5
abbrev sIsFieldNumber : Stmt := top 6
abbrev sAreFieldNumbers : Stmt := top 7
abbrev sIsTable : Stmt := top 8
abbrev sIsBit : Stmt := top 9
abbrev sBadNumber_init : Stmt := inClass (top 12) 0
abbrev sBadRule_init : Stmt := inClass (top 13) 0
abbrev sLegMask : Stmt := top 15
abbrev sSumsOf : Stmt := top 16
abbrev sLegSums : Stmt := top 17
abbrev sRule_init : Stmt := inClass (top 19) 0
abbrev sRule_eq : Stmt := inClass (top 19) 1
abbrev sWantRule : Stmt := top 20
abbrev sWantLeg : Stmt := top 21
abbrev sScaled : Stmt := top 22
abbrev sRegrouped : Stmt := top 23
abbrev sTurned : Stmt := top 24
abbrev sMirrored : Stmt := top 25
abbrev sFlipped : Stmt := top 26
abbrev sSetLeg : Stmt := top 27
abbrev sLBegun : Stmt := top 29
abbrev sLMixed : Stmt := top 30
abbrev sLTake : Stmt := top 31
abbrev sLPick : Stmt := top 32
abbrev sLCaught : Stmt := top 33
abbrev sLPrime : Stmt := top 34
abbrev sLNumbers : Stmt := top 35
abbrev sLBits : Stmt := top 36
abbrev sLNumber : Stmt := top 37
abbrev sLIsRule : Stmt := top 38
abbrev sLaw : Stmt := top 39
end K
end
section
set_option linter.all false
set_option maxRecDepth 100000
set_option maxHeartbeats 4000000
namespace K
open PySem PySem.Spec PyProof.Rows L2
/-- the draws: what is left of a large number, the great ones, all numbers -/
structure DrawAt (H : Hp) (d l c : Addr) : Prop where
  ex : ∃ (rest turn : Int), 0 ≤ rest ∧ H d = some (.dK [(Sum.inr "large", .ref l), (Sum.inr "rest", .int rest), (Sum.inr "cells", .ref c), (Sum.inr "turn", .int turn)])
  large : ∃ ns : List Int, (∀ n ∈ ns, 0 ≤ n) ∧ ns.length ≤ 63 ∧ H l = some (.lst (ns.map V.int))
  cells : ∃ ns : List Int, (∀ n ∈ ns, 0 ≤ n) ∧ ns.length ≤ 63 ∧ H c = some (.lst (ns.map V.int))
  ne : l ≠ c
def spBegun (K : PySem.W.Frag) : Sp := fun vs H Q _ => ∃ (a : Addr) (ns : List Int), vs = [.ref a] ∧ SqL K H a (ns.map V.int) ∧ ns.length ≤ 63 ∧
  ∀ (d l c : Addr) (H' : Hp), Same H H' → DrawAt H' d l c → Q (.ref d) H'
section
variable {P : Program} {w : World} {K : PySem.W.Frag} {mg : Str → Option Value} {base : Heap}
theorem scB : FnScope ["script", "large", "grain"] ["script"] (defScope sLBegun) := ⟨rfl, rfl, rfl, by decide +kernel, rfl, by decide +kernel, by decide +kernel⟩
theorem int_at {ns : List Int} {i : Nat} {x : V} (h : (ns.map V.int)[i]? = some x) : ∃ z, x = V.int z ∧ z ∈ ns := by
  rw [List.getElem?_map] at h
  cases e : ns[i]? with
  | none =>
    rw [e] at h
    cases h
  | some z =>
    rw [e] at h
    exact ⟨z, (Option.some.inj h).symm, List.mem_of_getElem? e⟩
theorem ok_begun {f : Addr} {fd : FuncData} (F : Fun K "_law_begun" "_law_begun" sLBegun f fd) (hab : mg "abs" = none) : FnOk P w K mg base CX0 1 f fd ["script"] (spBegun K) := by
  refine F.ok scB (fun vs H Q E h => ?_) (fun cdv A outer s H vs Q E hr h => ?_)
  · obtain ⟨a, ns, rfl, _⟩ := h
    rfl
  · obtain ⟨a, ns, rfl, hS, hlen, k⟩ := h
    refine ⟨_, pss_cons (ps_setLc (i := 1) (own := [("grain", 2)]) (g := gName 2) rfl scB.nd rfl rfl (sw_true rfl rfl rfl (by decide +kernel)) (pi_list (pv 0)) (blkOk_by (N := ["script", "large", "grain"]) (sc := defScope sLBegun) (by decide +kernel)) (fun _ _ _ _ _ => pg_name (i := 2) scB.nd rfl (Or.inl rfl))
        (fun _ _ _ _ _ => pts_one (pt_cmpR op_ge (pe_callB call_abs (by rfl) hab (by decide +kernel) (pa_cons (pv 2) pa_nil)) (pe_op op_pow pe_int pe_int) (nomark _)))
        (fun _ _ _ _ _ => pe_op op_sub (pe_callB call_abs (by rfl) hab (by decide +kernel) (pa_cons (pv 2) pa_nil)) (pe_op op_pow pe_int pe_int)))
      (pss_one (ps_ret (pe_disp (pps_cons pe_str (pv 1) (pps_cons pe_str pe_int (pps_cons pe_str
        (pe_lc (own := [("grain", 2)]) (g := gName 2) (tt := tYes) rfl scB.nd (pi_list (pv 0)) (blkOk_by (N := ["script", "large", "grain"]) (sc := defScope sLBegun) (by decide +kernel)) (fun _ _ _ _ _ => pg_name (i := 2) scB.nd rfl (Or.inl rfl)) (fun _ _ _ _ _ => pts_nil)
          (fun _ _ _ _ _ => pe_callB call_abs (by rfl) hab (by decide +kernel) (pa_cons (pv 2) pa_nil))) (pps_cons pe_str pe_int pps_nil)))) rfl rfl (by simp) (by decide)))), ?_⟩
    -- large
    refine ⟨_, rfl, a, rfl, ⟨_, hS⟩, fun D hD => lc_list (K := K) (a := a) (xs := ns.map V.int) (fun i H2 => ∃ ms : List Int, (∀ m ∈ ms, 0 ≤ m) ∧ ms.length ≤ i ∧ H2 = upd H D (.lst (ms.map V.int)))
      ⟨[], by simp, Nat.le_refl _, rfl⟩ ?_ ?_ ?_⟩
    · rintro i H2 hi ⟨ms, _, _, rfl⟩
      exact Same.seq (fun b o e => by rw [upd_ne (ne_of_none e hD)]; exact e) hS
    · rintro i x H2 hx ⟨ms, hm, hl, rfl⟩
      obtain ⟨z, rfl, hz⟩ := int_at hx
      have hi := (List.getElem?_eq_some_iff.mp hx).1
      rw [List.length_map] at hi
      refine ⟨rfl, ?_⟩
      refine ⟨_, rfl, z, rfl, _, _, rfl, rfl, ⟨by decide, by decide, by decide⟩, _, _, rfl, rfl, _, rfl, ?_⟩
      refine ite2 (fun hb => ?_) (fun hb => ?_)
      · refine ⟨_, rfl, z, rfl, _, _, rfl, rfl, ⟨by decide, by decide, by decide⟩, _, _, rfl, rfl, ms.map V.int, upd_same, ?_, ms ++ [(if z < 0 then -z else z) - 10 ^ 18], ?_, ?_, ?_⟩
        · rw [List.length_map, sizeLine_eq]
          omega
        · intro m hm2
          rcases List.mem_append.mp hm2 with q | q
          · exact hm m q
          · rw [List.mem_singleton.mp q]
            have hb : (10 : Int) ^ (18 : Int).toNat ≤ (if z < 0 then -z else z) := of_decide_eq_true hb
            have e : (10 : Int) ^ (18 : Int).toNat = 10 ^ 18 := rfl
            omega
        · rw [List.length_append]
          simp only [List.length_singleton]
          omega
        · rw [upd_upd, List.map_append]
          rfl
      · exact ⟨ms, hm, Nat.le_succ_of_le hl, rfl⟩
    · rintro H2 ⟨ms, hm, hl, rfl⟩
      rw [List.length_map] at hl
      -- the dict
      refine fun d hd => ?_
      have hdD : d ≠ D := fun z => by
        rw [z, upd_same] at hd
        cases hd
      have hd0 : H d = none := by
        rw [upd_ne hdD] at hd
        exact hd
      let H1 : Hp := upd (upd H D (.lst (ms.map V.int))) d (.dK [])
      have s1 : Same H H1 := fun b o e => by
        show upd _ _ _ _ = _
        rw [upd_ne (ne_of_none e hd0), upd_ne (ne_of_none e hD)]
        exact e
      refine ⟨_, rfl, _, rfl, a, rfl, ⟨_, s1.seq hS⟩, fun c hc => lc_list (K := K) (a := a) (xs := ns.map V.int) (fun i H2 => ∃ ms : List Int, (∀ m ∈ ms, 0 ≤ m) ∧ ms.length ≤ i ∧ H2 = upd H1 c (.lst (ms.map V.int)))
        ⟨[], by simp, Nat.le_refl _, rfl⟩ ?_ ?_ ?_⟩
      · rintro i H2 hi ⟨ms, _, _, rfl⟩
        exact Same.seq (fun b o e => by rw [upd_ne (ne_of_none (s1 b o e) hc)]; exact s1 b o e) hS
      · rintro i x H2 hx ⟨ms2, hm2, hl2, rfl⟩
        obtain ⟨z, rfl, hz⟩ := int_at hx
        have hi := (List.getElem?_eq_some_iff.mp hx).1
        rw [List.length_map] at hi
        refine ⟨rfl, ?_⟩
        unfold tYes
        dsimp only
        rw [if_pos rfl]
        refine ⟨_, rfl, z, rfl, ms2.map V.int, upd_same, ?_, ms2 ++ [if z < 0 then -z else z], ?_, ?_, ?_⟩
        · rw [List.length_map, sizeLine_eq]
          omega
        · intro m hq
          rcases List.mem_append.mp hq with q | q
          · exact hm2 m q
          · rw [List.mem_singleton.mp q]
            split <;> omega
        · rw [List.length_append]
          simp only [List.length_singleton]
          omega
        · rw [upd_upd, List.map_append]
          rfl
      · rintro H2 ⟨ms2, hm2, hl2, rfl⟩
        rw [List.length_map] at hl2
        have hcd : c ≠ d := fun z => by
          have hc : H1 c = none := hc
          rw [z] at hc
          have : H1 d = some (.dK []) := upd_same
          rw [this] at hc
          cases hc
        have hcD : c ≠ D := fun z => by
          have hc : H1 c = none := hc
          rw [z] at hc
          have : H1 D = some (.lst (ms.map V.int)) := by
            show upd _ _ _ _ = _
            rw [upd_ne (Ne.symm hdD), upd_same]
          rw [this] at hc
          cases hc
        have hd2 : upd H1 c (.lst (ms2.map V.int)) d = some (.dK []) := by
          rw [upd_ne (Ne.symm hcd)]
          exact upd_same
        refine ⟨hd2, [(Sum.inr "large", .ref D), (Sum.inr "rest", .int 0), (Sum.inr "cells", .ref c), (Sum.inr "turn", .int 0)], rfl, (by show 4 ≤ 15; decide), ?_⟩
        refine k d D c _ (fun b o e => ?_) ⟨⟨0, 0, by decide, ?_⟩, ⟨ms, hm, by omega, ?_⟩, ⟨ms2, hm2, by omega, ?_⟩, Ne.symm hcD⟩
        · rw [upd_ne (ne_of_none e hd0), upd_ne (ne_of_none (s1 b o e) hc)]
          exact s1 b o e
        · rw [upd_same]
          congr 1
        · rw [upd_ne (Ne.symm hdD), upd_ne (Ne.symm hcD)]
          show upd _ _ _ _ = _
          rw [upd_ne (Ne.symm hdD), upd_same]
        · rw [upd_ne hcd, upd_same]
end
end K
end
section
set_option linter.all false
set_option maxRecDepth 100000
set_option maxHeartbeats 4000000
namespace K
open PySem PySem.Spec PyProof.Rows L2
/-- the dict of the draws -/
def dkv (l c : Addr) (rest turn : Int) : List (Key × V) := [(Sum.inr "large", .ref l), (Sum.inr "rest", .int rest), (Sum.inr "cells", .ref c), (Sum.inr "turn", .int turn)]
theorem dk_large (l c : Addr) (r t : Int) : valV (dkv l c r t) (Sum.inr "large") = some (.ref l) := rfl
theorem dk_rest (l c : Addr) (r t : Int) : valV (dkv l c r t) (Sum.inr "rest") = some (.int r) := rfl
theorem dk_cells (l c : Addr) (r t : Int) : valV (dkv l c r t) (Sum.inr "cells") = some (.ref c) := rfl
theorem dk_turn (l c : Addr) (r t : Int) : valV (dkv l c r t) (Sum.inr "turn") = some (.int t) := rfl
theorem dk_put_turn (l c : Addr) (r t z : Int) : putK (dkv l c r t) (Sum.inr "turn") (.int z) = dkv l c r z := rfl
theorem dk_put_rest (l c : Addr) (r t z : Int) : putK (dkv l c r t) (Sum.inr "rest") (.int z) = dkv l c z t := rfl
def spMixed : Sp := fun vs H Q _ => ∃ (d l c : Addr), vs = [.ref d] ∧ DrawAt H d l c ∧
  ∀ (r : Int) (H' : Hp), 0 ≤ r → DrawAt H' d l c → (∀ b o, H b = some o → b ≠ d → H' b = some o) → Q (.int r) H'
section
variable {P : Program} {w : World} {K : PySem.W.Frag} {mg : Str → Option Value} {base : Heap}
theorem scM : FnScope ["draw", "turn", "found", "great", "blend", "grain"] ["draw"] (defScope sLMixed) := ⟨rfl, rfl, rfl, by decide +kernel, rfl, by decide +kernel, by decide +kernel⟩
theorem ok_mixed {f : Addr} {fd : FuncData} (F : Fun K "_law_mixed" "_law_mixed" sLMixed f fd) (hint : mg "int" = none) : FnOk P w K mg base CX0 1 f fd ["draw"] spMixed := by
  refine F.ok scM (fun vs H Q E h => ?_) (fun cdv A outer s H vs Q E hr h => ?_)
  · obtain ⟨d, l, c, rfl, _⟩ := h
    rfl
  · obtain ⟨d, l, c, rfl, D, k⟩ := h
    have hu := hu_of hr
    refine ⟨_, pss_cons (ps_dput hu (pv 0) pe_str (pe_op op_add (pe_dget hu (pv 0) pe_str (fun _ _ => rfl)) pe_int) rfl)
      (pss_cons (ps_par (i := 1) (j := 2) rfl scM.nd rfl rfl (by decide) rfl rfl (pa_cons (pe_callTy call_int1 (by rfl) hint (by decide +kernel) (pa_cons (pe_dget hu (pv 0) pe_str (fun _ _ => rfl)) pa_nil)) (pa_cons pe_int pa_nil)) (by rfl))
      (pss_cons (ps_for PassesOwn.never rfl (pi_list (pe_lst (pa_cons pe_int (pa_cons pe_int (pa_cons pe_int pa_nil))))) (pg_name (i := 3) scM.nd rfl (Or.inl rfl))
        (pss_cons (ps_set (i := 4) scM.nd rfl (Or.inl rfl) (pe_op op_mod (pe_op op_add (pe_op op_mul (pv 1) pe_int) (pe_op op_fdiv (pv 3) pe_int)) (pv 3)))
        (pss_cons (ps_for PassesOwn.never rfl (pi_list (pe_dget hu (pv 0) pe_str (fun _ _ => rfl))) (pg_name (i := 5) scM.nd rfl (Or.inl rfl))
          (pss_one (ps_set (i := 4) scM.nd rfl (Or.inl rfl) (pe_op op_mod (pe_op op_add (pe_op op_mul (pv 4) pe_int) (pe_callTy call_int1 (by rfl) hint (by decide +kernel) (pa_cons (pv 5) pa_nil))) (pv 3)))))
        (pss_one (ps_set (i := 2) scM.nd rfl (Or.inl rfl) (pe_op op_add (pe_op op_mul (pv 2) pe_int) (pe_op op_mod (pe_op op_pow (pv 4) pe_int) (pv 3))))))))
      (pss_one (ps_ret (pv 2))))), ?_⟩
    obtain ⟨⟨rest, turn, h0, hd⟩, hl, ⟨cs, hcs, hcl, hcc⟩, ne⟩ := id D
    have hd : H d = some (.dK (dkv l c rest turn)) := hd
    have hz : (dkv l c rest turn).length < sizeLine := by show 4 < sizeLine; decide
    have ncd : c ≠ d := ne_of hcc hd (by intro z; cases z)
    let H1 : Hp := upd H d (.dK (dkv l c rest (turn + 1)))
    have hd1 : H1 d = some (.dK (dkv l c rest (turn + 1))) := upd_same
    refine ⟨_, rfl, d, _, rfl, DGet.k (k := Sum.inr "turn") hd, _, _, rfl, rfl, _, rfl, d, H1, rfl, DPut.k (k := Sum.inr "turn") hd hz, ?_⟩
    refine ⟨_, rfl, d, _, rfl, DGet.k (k := Sum.inr "turn") hd1, .inl ⟨_, rfl, _, _, rfl, ?_⟩⟩
    refine ⟨by show 3 ≤ sizeLine; decide, fun p hp => ?_⟩
    let H3 : Hp := upd H1 p (.lst [.int 2147483629, .int 2147483587, .int 2147483579])
    have npd : d ≠ p := ne_of_none hd1 hp
    have hd3 : H3 d = some (.dK (dkv l c rest (turn + 1))) := (upd_ne npd).trans hd1
    have hc1 : H1 c = some (.lst (cs.map V.int)) := (upd_ne ncd).trans hcc
    have hc3 : H3 c = some (.lst (cs.map V.int)) := (upd_ne (ne_of_none hc1 hp)).trans hc1
    have hp3 : H3 p = some (.lst [.int 2147483629, .int 2147483587, .int 2147483579]) := upd_same
    refine ⟨p, rfl, ⟨_, SqL.of hp3⟩, for_list (K := K) (a := p) (xs := [.int 2147483629, .int 2147483587, .int 2147483579]) (fun i σ H2 => ∃ (fo : Int) (v3 v4 v5 : Option V), σ = [some (.ref d), some (.int (turn + 1)), some (.int fo), v3, v4, v5] ∧ 0 ≤ fo ∧ H2 = H3)
      ⟨0, none, none, none, rfl, by decide, rfl⟩ ?_ ?_ ?_⟩
    · rintro i σ H2 _ ⟨_, _, _, _, _, _, rfl⟩
      exact SqL.of hp3
    · rintro i x σ H2 hx ⟨fo, v3, v4, v5, rfl, hfo, rfl⟩
      obtain ⟨g, rfl, hg0, hg1⟩ : ∃ g : Int, x = V.int g ∧ 0 < g ∧ g < 2147483648 := by
        rcases i with _ | _ | _ | i
        · exact ⟨_, (Option.some.inj hx).symm, by decide, by decide⟩
        · exact ⟨_, (Option.some.inj hx).symm, by decide, by decide⟩
        · exact ⟨_, (Option.some.inj hx).symm, by decide, by decide⟩
        · cases hx
      refine ⟨_, rfl, _, _, rfl, rfl, .inr ⟨by decide, by decide⟩, _, rfl, _, _, rfl, rfl, ⟨by decide, by decide⟩, _, _, rfl, rfl, _, rfl, _, _, rfl, rfl, hg0, ?_⟩
      refine ⟨_, rfl, d, _, rfl, DGet.k (k := Sum.inr "cells") hd3, c, rfl, ⟨_, SqL.of hc3⟩, for_list (K := K) (a := c) (xs := cs.map V.int) (fun i σ H2 => ∃ (bl : Int) (v5 : Option V), σ = [some (.ref d), some (.int (turn + 1)), some (.int fo), some (.int g), some (.int bl), v5] ∧ 0 ≤ bl ∧ bl < g ∧ H2 = H3)
        ⟨_, v5, rfl, Int.emod_nonneg _ (by omega), Int.emod_lt_of_pos _ hg0, rfl⟩ ?_ ?_ ?_⟩
      · rintro i σ H2 _ ⟨_, _, _, _, _, rfl⟩
        exact SqL.of hc3
      · rintro j y σ H2 hy ⟨bl, v5, rfl, hb0, hb1, rfl⟩
        obtain ⟨z, rfl, hzc⟩ := int_at hy
        refine ⟨_, rfl, _, _, rfl, rfl, .inr ⟨by decide, by decide⟩, _, rfl, .inl ⟨_, rfl, _, _, rfl, rfl, _, rfl, _, _, rfl, rfl, hg0, ?_⟩⟩
        exact ⟨_, _, rfl, Int.emod_nonneg _ (by omega), Int.emod_lt_of_pos _ hg0, rfl⟩
      · rintro σ H2 ⟨bl, v5, rfl, hb0, hb1, rfl⟩
        refine ⟨_, rfl, _, _, rfl, rfl, .inr ⟨by decide, by decide⟩, _, rfl, _, _, rfl, rfl, ⟨by decide, by decide, by omega⟩, _, rfl, _, _, rfl, rfl, hg0, _, _, rfl, rfl, ?_⟩
        refine ⟨_, _, _, _, rfl, ?_, rfl⟩
        have h1 : 0 ≤ bl ^ (5 : Int).toNat % g := Int.emod_nonneg _ (by omega)
        omega
    · rintro σ H2 ⟨fo, v3, v4, v5, rfl, hfo, rfl⟩
      refine ⟨_, rfl, k fo H3 hfo ⟨⟨rest, turn + 1, h0, hd3⟩, ?_, ⟨cs, hcs, hcl, hc3⟩, ne⟩ fun b o e hb => ?_⟩
      · obtain ⟨ns, a1, a2, a3⟩ := hl
        have nld : l ≠ d := ne_of a3 hd (by intro z; cases z)
        have hl1 : H1 l = some (.lst (ns.map V.int)) := (upd_ne nld).trans a3
        exact ⟨ns, a1, a2, (upd_ne (ne_of_none hl1 hp)).trans hl1⟩
      · have e1 : H1 b = some o := (upd_ne hb).trans e
        exact (upd_ne (ne_of_none e1 hp)).trans e1
end
end K
end
section
set_option linter.all false
set_option maxRecDepth 100000
set_option maxHeartbeats 4000000
namespace K
open PySem PySem.Spec PyProof.Rows L2
def spTake : Sp := fun vs H Q _ => ∃ (d l c : Addr) (n : Int), vs = [.ref d, .int n] ∧ DrawAt H d l c ∧ 0 < n ∧ n < 1073741824 ∧
  ∀ (r : Int) (H' : Hp), 0 ≤ r → r < n → DrawAt H' d l c → (∀ b o, H b = some o → b ≠ d → b ≠ l → H' b = some o) → Q (.int r) H'
theorem dp_ints {K : PySem.W.Frag} {H : Hp} : ∀ ns : List Int, DpAll K H (ns.map V.int) (ns.map PyData.int)
  | [] => .nil
  | n :: ns => .cons (.int n) (dp_ints ns)
theorem ints_lay : ∀ ns : List Int, PyData.canLay0 (.list (ns.map PyData.int)) = true ∧ (PyData.list (ns.map PyData.int)).depth ≤ 1
  | [] => ⟨by simp [PyData.canLay0, PyData.canLayAll0], by simp [PyData.depth, PyData.depthAll]⟩
  | n :: ns => by
    obtain ⟨h1, h2⟩ := ints_lay ns
    simp only [List.map_cons, PyData.canLay0, PyData.canLayAll0, PyData.depth, PyData.depthAll] at h1 h2 ⊢
    refine ⟨by simp [h1], by omega⟩
theorem ints_shaped (ns : List Int) : SeqAt.shaped (.list (ns.map PyData.int)) = true := by
  unfold SeqAt.shaped
  rw [(ints_lay ns).1, Bool.true_and]
  exact decide_eq_true (Nat.le_trans (ints_lay ns).2 (by decide))
section
variable {P : Program} {w : World} {K : PySem.W.Frag} {mg : Str → Option Value} {base : Heap}
theorem scT : FnScope ["draw", "amount", "found"] ["draw", "amount"] (defScope sLTake) := ⟨rfl, rfl, rfl, by decide +kernel, rfl, by decide +kernel, by decide +kernel⟩
theorem ok_take {f fM : Addr} {fd fdM : FuncData} (F : Fun K "_law_take" "_law_take" sLTake f fd) (FM : Fun K "_law_mixed" "_law_mixed" sLMixed fM fdM) (bM : Binds K fdM ["draw"] []) (gM : mg "_law_mixed" = some (.ref fM)) (hint : mg "int" = none) :
    FnOk P w K mg base CX0 2 f fd ["draw", "amount"] spTake := by
  have GM : FnOk P w K mg base CX0 1 fM fdM ["draw"] spMixed := ok_mixed FM hint
  refine F.ok scT (fun vs H Q E h => ?_) (fun cdv A outer s H vs Q E hr h => ?_)
  · obtain ⟨d, l, c, n, rfl, _⟩ := h
    rfl
  · obtain ⟨d, l, c, n, rfl, D, hn0, hn1, k⟩ := h
    have hu := hu_of hr
    have hu64 : (A.deeper (envOfC "_law_take" (defScope sLTake) s.heap.objs.size f cdv)).units + 64 < cLine := hr.units
    refine ⟨_, pss_cons (ps_if (pt_cmpR op_eq (pe_dget hu (pv 0) pe_str (fun _ _ => rfl)) pe_int (nomark _))
        (pss_one (ps_dput hu (pv 0) pe_str (pe_ifExp (pt_cmpR (op_neD hu64) (pe_dget hu (pv 0) pe_str (fun _ _ => rfl)) (pe_lst pa_nil) (nomark _))
          (pe_bm PySem.F.plainAttrs_list PySem.F.slot_list_pop PySem.F.type_list_pop mt_popAt (pe_dget hu (pv 0) pe_str (fun _ _ => rfl)) (pa_cons pe_int pa_nil))
          (pe_call GM hr rfl gM FM.kp bM .nil pass0 (pa_cons (pv 0) pa_nil))) rfl)) pss_nil)
      (pss_cons (ps_set (i := 2) scT.nd rfl (Or.inl rfl) (pe_op op_mod (pe_callTy call_int1 (by rfl) hint (by decide +kernel) (pa_cons (pe_dget hu (pv 0) pe_str (fun _ _ => rfl)) pa_nil)) (pv 1)))
      (pss_cons (ps_dput hu (pv 0) pe_str (pe_op op_fdiv (pe_callTy call_int1 (by rfl) hint (by decide +kernel) (pa_cons (pe_dget hu (pv 0) pe_str (fun _ _ => rfl)) pa_nil)) (pv 1)) rfl)
      (pss_one (ps_ret (pv 2))))), ?_⟩
    -- the second half, from a state with a rest
    have half : ∀ (H2 : Hp), DrawAt H2 d l c → (∀ b o, H b = some o → b ≠ d → b ≠ l → H2 b = some o) →
        tSeq (tAsg (tOp (rI (fun x j => 0 < j) fun i j => V.int (i % j)) (tCB (fun xs H Q => (∃ i, xs = [V.int i] ∧ Q (V.int i) H) ∨ ∃ k, xs = [V.bl k] ∧ Q (V.int (if k = true then 1 else 0)) H) (tCons (tDGet (tVar 0) (tC (V.str "rest"))) tNil)) (tVar 1)) (gName 2))
          (tSeq (sDPut (tVar 0) (tC (V.str "rest")) (tOp (rI CDiv fun i j => V.int (i / j)) (tCB (fun xs H Q => (∃ i, xs = [V.int i] ∧ Q (V.int i) H) ∨ ∃ k, xs = [V.bl k] ∧ Q (V.int (if k = true then 1 else 0)) H) (tCons (tDGet (tVar 0) (tC (V.str "rest"))) tNil)) (tVar 1)))
            (tRet (tVar 2))) { nx := fun _ H' => Q .non H', rt := Q } [some (.ref d), some (.int n), none] H2 := by
      intro H2 D2 kp
      obtain ⟨⟨rest, turn, h0, hd⟩, hl, hc, ne⟩ := id D2
      have hd : H2 d = some (.dK (dkv l c rest turn)) := hd
      have hz : (dkv l c rest turn).length < sizeLine := by show 4 < sizeLine; decide
      refine ⟨_, rfl, d, _, rfl, DGet.k (k := Sum.inr "rest") hd, .inl ⟨_, rfl, _, rfl, _, _, rfl, rfl, hn0, ?_⟩⟩
      refine ⟨_, rfl, d, _, rfl, DGet.k (k := Sum.inr "rest") hd, .inl ⟨_, rfl, _, rfl, _, _, rfl, rfl, ⟨hn0, hn1⟩, _, rfl, d, upd H2 d (.dK (dkv l c (rest / n) turn)), rfl, DPut.k (k := Sum.inr "rest") hd hz, ?_⟩⟩
      refine ⟨_, rfl, k (rest % n) _ (Int.emod_nonneg _ (by omega)) (Int.emod_lt_of_pos _ hn0) ⟨⟨rest / n, turn, Int.ediv_nonneg h0 (by omega), upd_same⟩, ?_, ?_, ne⟩ fun b o e h1 h2 => ?_⟩
      · obtain ⟨ns, a1, a2, a3⟩ := hl
        exact ⟨ns, a1, a2, (upd_ne (ne_of a3 hd (by intro z; cases z))).trans a3⟩
      · obtain ⟨ns, a1, a2, a3⟩ := hc
        exact ⟨ns, a1, a2, (upd_ne (ne_of a3 hd (by intro z; cases z))).trans a3⟩
      · exact (upd_ne h1).trans (kp b o e h1 h2)
    obtain ⟨⟨rest, turn, h0, hd⟩, ⟨ns, n1, n2, hl⟩, hc, ne⟩ := id D
    have hd : H d = some (.dK (dkv l c rest turn)) := hd
    have hz : (dkv l c rest turn).length < sizeLine := by show 4 < sizeLine; decide
    refine ⟨_, rfl, d, _, rfl, DGet.k (k := Sum.inr "rest") hd, rfl, _, rfl, ?_⟩
    refine ite2 (fun hb => ?_) (fun hb => ?_)
    · refine ⟨_, rfl, d, _, rfl, DGet.k (k := Sum.inr "large") hd, by show 0 ≤ sizeLine; decide, fun p hp => ?_⟩
      have npl : l ≠ p := ne_of_none hl hp
      have npd : d ≠ p := ne_of_none hd hp
      obtain ⟨cs, c1, c2, hcc⟩ := id hc
      have npc : c ≠ p := ne_of_none hcc hp
      let H1 : Hp := upd H p (.lst [])
      have hl1 : H1 l = some (.lst (ns.map V.int)) := (upd_ne npl).trans hl
      have hd1 : H1 d = some (.dK (dkv l c rest turn)) := (upd_ne npd).trans hd
      have hc1 : H1 c = some (.lst (cs.map V.int)) := (upd_ne npc).trans hcc
      have k1 : ∀ b o, H b = some o → H1 b = some o := fun b o e => (upd_ne (ne_of_none e hp)).trans e
      have D1 : DrawAt H1 d l c := ⟨⟨rest, turn, h0, hd1⟩, ⟨ns, n1, n2, hl1⟩, ⟨cs, c1, c2, hc1⟩, ne⟩
      have nld : l ≠ d := ne_of hl hd (by intro z; cases z)
      have ncd : c ≠ d := ne_of hcc hd (by intro z; cases z)
      cases ns with
      | nil =>
        refine ⟨.list [], .list [], .lst (SqL.of hl1) .nil, .lst (SqL.of upd_same) .nil, by decide +kernel, by decide +kernel, _, rfl, ?_⟩
        show (if (false : Bool) = true then _ else _)
        refine iteF ?_
        refine ⟨_, rfl, d, l, c, rfl, D1, fun r H2 hr0 D2 kp => ?_⟩
        obtain ⟨⟨rest2, turn2, _, hd2⟩, ⟨ns2, m1, m2, hl2⟩, ⟨cs2, e1, e2, hc2⟩, _⟩ := id D2
        have hd2 : H2 d = some (.dK (dkv l c rest2 turn2)) := hd2
        refine ⟨_, rfl, d, _, rfl, DPut.k (k := Sum.inr "rest") hd2 hz, half _ ⟨⟨r, turn2, hr0, upd_same⟩, ⟨ns2, m1, m2, (upd_ne nld).trans hl2⟩, ⟨cs2, e1, e2, (upd_ne ncd).trans hc2⟩, ne⟩ fun b o e h1 h2 => ?_⟩
        exact (upd_ne h1).trans (kp b o (k1 b o e) h1)
      | cons m ns =>
        refine ⟨.list ((m :: ns).map PyData.int), .list [], .lst (SqL.of hl1) (dp_ints _), .lst (SqL.of upd_same) .nil, ints_shaped _, by decide +kernel, _, rfl, ?_⟩
        have e : (!PyData.eqv (.list ((m :: ns).map PyData.int)) (.list [])) = true := by simp [PyData.eqv, PyData.eqvAll]
        rw [e]
        refine iteT ?_
        refine ⟨_, rfl, d, _, rfl, DGet.k (k := Sum.inr "large") hd1, .inl ⟨rfl, _, .inl (.inl hl1)⟩, l, _, 0, 0, .int m, rfl, rfl, hl1, by decide, by decide, by simp [seqIndex?], rfl, ?_⟩
        have hd2 : upd H1 l (.lst (((m :: ns).map V.int).eraseIdx 0)) d = some (.dK (dkv l c rest turn)) := (upd_ne (Ne.symm nld)).trans hd1
        refine ⟨_, rfl, d, _, rfl, DPut.k (k := Sum.inr "rest") hd2 hz, half _ ⟨⟨m, turn, n1 m (by simp), upd_same⟩, ⟨ns, fun q hq => n1 q (by simp [hq]), by simp only [List.length_cons] at n2; omega, ?_⟩, ⟨cs, c1, c2, ?_⟩, ne⟩ fun b o e h1 h2 => ?_⟩
        · rw [upd_ne nld, upd_same]
          rfl
        · rw [upd_ne ncd, upd_ne (Ne.symm ne)]
          exact hc1
        · rw [upd_ne h1, upd_ne h2]
          exact k1 b o e
    · exact half H D fun b o e _ _ => e
end
end K
end
section
set_option linter.all false
set_option maxRecDepth 100000
set_option maxHeartbeats 4000000
namespace K
open PySem PySem.Spec PyProof.Rows L2
/-- the frame of a draw: all but the draws' own two objects stands -/
def Kept (H H' : Hp) (d l : Addr) : Prop := ∀ b o, H b = some o → b ≠ d → b ≠ l → H' b = some o
def spPick : Sp := fun vs H Q _ => ∃ (d l c q : Addr) (xs : List V), vs = [.ref d, .ref q] ∧ DrawAt H d l c ∧ H q = some (.lst xs) ∧ q ≠ l ∧ 0 < xs.length ∧ xs.length < 1000 ∧
  ∀ (i : Nat) (v : V) (H' : Hp), xs[i]? = some v → DrawAt H' d l c → Kept H H' d l → Q v H'
section
variable {P : Program} {w : World} {K : PySem.W.Frag} {mg : Str → Option Value} {base : Heap}
theorem scP : FnScope ["draw", "some"] ["draw", "some"] (defScope sLPick) := ⟨rfl, rfl, rfl, by decide +kernel, rfl, by decide +kernel, by decide +kernel⟩
theorem ok_pick {f fT : Addr} {fd fdT : FuncData} (F : Fun K "_law_pick" "_law_pick" sLPick f fd) (FT : Fun K "_law_take" "_law_take" sLTake fT fdT) (GT : FnOk P w K mg base CX0 2 fT fdT ["draw", "amount"] spTake) (bT : Binds K fdT ["draw", "amount"] []) (gT : mg "_law_take" = some (.ref fT)) (hlen : mg "len" = none) :
    FnOk P w K mg base CX0 3 f fd ["draw", "some"] spPick := by
  refine F.ok scP (fun vs H Q E h => ?_) (fun cdv A outer s H vs Q E hr h => ?_)
  · obtain ⟨d, l, c, q, xs, rfl, _⟩ := h
    rfl
  · obtain ⟨d, l, c, q, xs, rfl, D, hq, nql, hx0, hx1, k⟩ := h
    refine ⟨_, pss_one (ps_ret (pe_ix ix_list (pv 1) (pe_call GT hr rfl gT FT.kp bT .nil pass0 (pa_cons (pv 0) (pa_cons (pe_callB call_len_seq (by rfl) hlen PySem.boot_len (pa_cons (pv 1) pa_nil)) pa_nil))) (fun _ _ => rfl))), ?_⟩
    obtain ⟨⟨rest, turn, h0, hd⟩, hl, hc, ne⟩ := id D
    have nqd : q ≠ d := ne_of hq hd (by intro z; cases z)
    refine ⟨_, rfl, _, rfl, _, rfl, q, _, rfl, .inl (SqL.of hq), d, l, c, _, rfl, D, by omega, by omega, fun r H' h1 h2 D' kp => ?_⟩
    obtain ⟨i, rfl⟩ : ∃ i : Nat, r = i := ⟨r.toNat, by omega⟩
    have hi : i < xs.length := by omega
    refine ⟨q, _, _, xs[i], rfl, rfl, SqL.of (kp q _ hq nqd nql), atI_nat (by simp [hi]), ?_⟩
    exact k i _ H' (by simp [hi]) D' kp
end
end K
end
section
set_option linter.all false
set_option maxRecDepth 100000
set_option maxHeartbeats 4000000
/-! all(xs), xs a list of whole numbers -/
namespace Ob
open PySem PySem.Spec PyProof.Rows L2
theorem truth_nums {P : Program} {w : World} {A : Around} {ns : List Int} {its : List Value} (rv : Vals (ns.map V.int) its) : TruthOf P w A (fun i v => its.toArray[i]? = some v) (fun i => ns.getD i 0 != 0) := fun i v s Q E hv hq => by
  have hv : its[i]? = some v := by simpa using hv
  have hi : i < ns.length := by
    have := (List.getElem?_eq_some_iff.mp hv).1
    rw [← rv.length, List.length_map] at this
    exact this
  obtain ⟨u, e1, e2⟩ := rv.get (i := i) (x := .int ns[i]) (by rw [List.getElem?_map, List.getElem?_eq_getElem hi] <;> rfl)
  rw [hv] at e1
  obtain rfl := Option.some.inj e1
  obtain ⟨t, rfl⟩ := e2
  have hg : ns.getD i 0 = ns[i] := by rw [List.getD_eq_getElem?_getD, List.getElem?_eq_getElem hi] <;> rfl
  have hq : Q (ns.getD i 0 != 0) s := hq
  rw [hg] at hq
  exact PySem.P.truthy_int hq
theorem all_nums : ∀ ns : List Int, (List.range ns.length).all (fun i => ns.getD i 0 != 0) = ns.all (· != 0)
  | [] => rfl
  | n :: ns => by
    have ih := all_nums ns
    rw [List.length_cons, List.range_succ_eq_map, List.all_cons, List.all_map, List.all_cons, ← ih]
    rfl
def rAllI (K : PySem.W.Frag) : List V → Hp → VK → Prop := fun vs H Q => ∃ (a : Addr) (ns : List Int), vs = [V.ref a] ∧ SqL K H a (ns.map V.int) ∧ Q (.bl (ns.all (· != 0))) H
theorem cr_allI {X : Cx} (hc : X.calm = true) : CallR X (.builtin "all") (rAllI X.K) := by
  intro pins s σ H vs us Q I r h
  obtain ⟨a, ns, rfl, hs, q⟩ := h
  obtain ⟨its, rv, hl, _⟩ := I.list hs
  rw [Vals.ref1 r]
  refine call_all_walk (iter_any hl.isList fun s₂ e2 st hne => ?_)
  subst e2
  refine ⟨_, _, _, _, _, _, _, rfl, Walks.list (A := X.A.in1) (I.ok.hd hc) _ a hne its.toArray, st, truth_nums rv, fun h' tk hk => ⟨.bl (ns.all (· != 0)), H, I.kept fun b o eo => hk b o (fun m => ?_) (Heap.get?_push_of_some _ eo), ?_, q⟩⟩
  · have e1 : b = s.heap.objs.size := by simpa using m
    exact Nat.lt_irrefl _ (e1 ▸ Heap.lt_size eo)
  · have hsz : its.toArray.size = ns.length := by rw [List.size_toArray, ← rv.length, List.length_map]
    show Value.bool _ = Value.bool _
    rw [hsz, all_nums]
end Ob
end
section
set_option linter.all false
set_option maxRecDepth 100000
set_option maxHeartbeats 4000000
/-! values that a check may get: a whole number, or something else -/
namespace Ob
open PySem PySem.Spec PyProof.Rows L2
def oddKinds : List String := ["bool", "str", "NoneType", "list", "tuple", "dict"]
inductive Thing (K : PySem.W.Frag) (H : Hp) : V → Option Int → Prop
  | num (i : Int) : Thing K H (.int i) (some i)
  | odd {x : V} {t : String} (h : TyX K H x (.type t)) (k : t ∈ oddKinds) : Thing K H x none
section
variable {K : PySem.W.Frag} {H H' : Hp}
theorem tyof_same (s : ∀ b o, H b = some o → H' b = some o) {x : V} {t : Value} (h : TyOf K H x t) : TyOf K H' x t := by
  cases h with
  | non => exact .non
  | bl b => exact .bl b
  | int i => exact .int i
  | str x => exact .str x
  | flt x => exact .flt x
  | lst e => exact .lst (s _ _ e)
  | frz e => exact .frz (s _ _ e)
  | tup e => exact .tup (s _ _ e)
  | dK e => exact .dK (s _ _ e)
  | dT e => exact .dT (s _ _ e)
  | ins e a b c d f => exact .ins (s _ _ e) a b c d f
theorem tyx_same (s : ∀ b o, H b = some o → H' b = some o) {x : V} {t : Value} (h : TyX K H x t) : TyX K H' x t := by
  cases h with
  | base b => exact .base (tyof_same s b)
  | byt b => exact .byt b
  | set e => exact .set (s _ _ e)
  | kList e c => exact .kList e c
  | kTuple e c => exact .kTuple e c
  | kDict e c => exact .kDict e c
  | fTuple e => exact .fTuple (s _ _ e)
  | fDict e => exact .fDict (s _ _ e)
theorem thing_same (s : ∀ b o, H b = some o → H' b = some o) {x : V} {r : Option Int} (h : Thing K H x r) : Thing K H' x r := by
  cases h with
  | num i => exact .num i
  | odd h k => exact .odd (tyx_same s h) k
theorem thing_non : Thing K H .non none := .odd (.base .non) (by decide)
theorem thing_bl {b : Bool} : Thing K H (.bl b) none := .odd (.base (.bl b)) (by decide)
theorem thing_str {x : Str} : Thing K H (.str x) none := .odd (.base (.str x)) (by decide)
theorem kit_odd : ∀ t ∈ oddKinds, ∃ a b, kitB t "int" = some a ∧ kitB t "bool" = some b ∧ (a && !b) = false := by
  have e : oddKinds.all (fun t => match kitB t "int", kitB t "bool" with | some a, some b => (a && !b) == false | _, _ => false) = true := by decide +kernel
  intro t ht
  have q := List.all_eq_true.mp e t ht
  revert q
  cases h1 : kitB t "int" with
  | none =>
    intro q
    cases kitB t "bool" <;> cases q
  | some a =>
    cases h2 : kitB t "bool" with
    | none =>
      intro q
      cases q
    | some b =>
      intro q
      exact ⟨a, b, rfl, rfl, beq_iff_eq.mp q⟩
theorem new_same {H : Hp} {p : Addr} {o : HO} (h : H p = none) : ∀ b u, H b = some u → upd H p o b = some u := fun b u e => by
  rw [upd_ne (ne_of_none e h)]
  exact e
def within (r : Option Int) (lo hi : Int) : Bool := r.any fun i => decide (lo ≤ i) && decide (i ≤ hi)
theorem kit_list : ∀ t ∈ "int" :: oddKinds, ∃ a b, kitB t "list" = some a ∧ kitB t "tuple" = some b ∧ (a || b) = (t == "list" || t == "tuple") := by
  have e : ("int" :: oddKinds).all (fun t => match kitB t "list", kitB t "tuple" with | some a, some b => (a || b) == (t == "list" || t == "tuple") | _, _ => false) = true := by decide +kernel
  intro t ht
  have q := List.all_eq_true.mp e t ht
  revert q
  cases h1 : kitB t "list" with
  | none =>
    intro q
    cases kitB t "tuple" <;> cases q
  | some a =>
    cases h2 : kitB t "tuple" with
    | none =>
      intro q
      cases q
    | some b =>
      intro q
      exact ⟨a, b, rfl, rfl, beq_iff_eq.mp q⟩
theorem kitAny2 {t : String} {a b : Bool} (h1 : kitB t "list" = some a) (h2 : kitB t "tuple" = some b) : PySem.W.kitAny K (.type t) [.type "list", .type "tuple"] = some (a || b) := by
  refine kitAny_cons (kit_ty h1) (fun z => ?_) fun z => by rw [z]; rfl
  refine kitAny_cons (kit_ty h2) (fun y => ?_) fun y => by rw [y, z]; rfl
  rw [z, y]
  rfl
/-- the rests of a number by 2 to 9 where these are less -/
def rests (i : Int) (n : Nat) : List Int := (((List.range n).map fun (k : Nat) => (2 : Int) + (k : Int)).filter fun k => decide (k < i)).map fun k => i.fmod k
def primeB (i : Int) : Bool := within (some i) 3 97 && (rests i 8).all (· != 0)
theorem rests_len (i : Int) (n : Nat) : (rests i n).length ≤ n := by
  unfold rests
  rw [List.length_map]
  exact Nat.le_trans (List.length_filter_le _ _) (by simp)
theorem rests_yes {i : Int} {n : Nat} (h : (2 : Int) + n < i) : rests i (n + 1) = rests i n ++ [i.fmod (2 + n)] := by
  unfold rests
  rw [List.range_succ, List.map_append, List.filter_append, List.map_append]
  simp [h]
theorem rests_no {i : Int} {n : Nat} (h : ¬(2 : Int) + n < i) : rests i (n + 1) = rests i n := by
  unfold rests
  rw [List.range_succ, List.map_append, List.filter_append, List.map_append]
  simp [h]
/-- item by item -/
def Things (K : PySem.W.Frag) (H : Hp) (xs : List V) (rs : List (Option Int)) : Prop := xs.length = rs.length ∧ ∀ (i : Nat) (x : V) (r : Option Int), xs[i]? = some x → rs[i]? = some r → Thing K H x r
theorem things_same (s : ∀ b o, H b = some o → H' b = some o) {xs : List V} {rs : List (Option Int)} (h : Things K H xs rs) : Things K H' xs rs := ⟨h.1, fun i x r a b => thing_same s (h.2 i x r a b)⟩
theorem things_ints (ns : List Int) : Things K H (ns.map V.int) (ns.map some) := ⟨by simp, fun i x r a b => by
  rw [List.getElem?_map] at a b
  cases e : ns[i]? with
  | none =>
    rw [e] at a
    cases a
  | some n =>
    rw [e] at a b
    cases a
    cases b
    exact .num n⟩
theorem take_more {α : Type} {xs : List α} {i : Nat} {x : α} (h : xs[i]? = some x) : xs.take (i + 1) = xs.take i ++ [x] := by
  rw [List.take_succ, h]
  rfl
/-- what all built-ins that are named are still -/
structure Bts (mg : Str → Option Value) : Prop where
  isi : mg "isinstance" = none
  int : mg "int" = none
  bool : mg "bool" = none
  list : mg "list" = none
  tuple : mg "tuple" = none
  all : mg "all" = none
  len : mg "len" = none
  range : mg "range" = none
end
end Ob
end
section
set_option linter.all false
set_option maxRecDepth 100000
set_option maxHeartbeats 4000000
namespace K
open PySem PySem.Spec PyProof.Rows L2 Ob
section
variable {P : Program} {w : World} {K : PySem.W.Frag} {mg : Str → Option Value} {base : Heap}
def spIsNumber (K : PySem.W.Frag) : Sp := fun vs H Q _ => ∃ x r, vs = [x] ∧ Thing K H x r ∧ Q (.bl r.isSome) H
theorem scIsNumber : FnScope ["thing"] ["thing"] (defScope sIsNumber) := ⟨rfl, rfl, rfl, by decide +kernel, rfl, by decide +kernel, by decide +kernel⟩
theorem ok_is_number {f : Addr} {fd : FuncData} (F : Fun K "is_number" "is_number" sIsNumber f fd) (B : Bts mg) : FnOk P w K mg base CX0 1 f fd ["thing"] (spIsNumber K) := by
  refine F.ok scIsNumber (fun vs H Q E h => ?_) (fun cdv A outer s H vs Q E hr h => ?_)
  · obtain ⟨x, r, rfl, _⟩ := h
    rfl
  · obtain ⟨x, r, rfl, ht, q⟩ := h
    refine ⟨_, pss_one (ps_ret (pe_and (pe_callB call_isi (by rfl) B.isi (by decide +kernel) (pa_cons (pv 0) (pa_cons (pe_bltn (v := .ty "int") (by rfl) B.int (by decide +kernel) rfl) pa_nil)))
      (pe_one (pe_not (pe_callB call_isi (by rfl) B.isi (by decide +kernel) (pa_cons (pv 0) (pa_cons (pe_bltn (v := .ty "bool") (by rfl) B.bool (by decide +kernel) rfl) pa_nil))))))), ?_⟩
    cases ht with
    | num i =>
      refine ⟨_, rfl, _, _, _, _, true, rfl, .ty "int", .base (.int i), kit_ty (by decide +kernel), true, rfl, ?_⟩
      exact ⟨_, rfl, _, _, _, _, false, rfl, .ty "bool", .base (.int i), kit_ty (by decide +kernel), false, rfl, q⟩
    | odd h k =>
      obtain ⟨a, b, e1, e2, e3⟩ := kit_odd _ k
      refine ⟨_, rfl, _, _, _, _, a, rfl, .ty "int", h, kit_ty e1, a, rfl, ?_⟩
      cases a with
      | false => exact q
      | true =>
        obtain rfl : b = true := by simpa using e3
        exact ⟨_, rfl, _, _, _, _, true, rfl, .ty "bool", h, kit_ty e2, true, rfl, q⟩
def spIsFrom (K : PySem.W.Frag) : Sp := fun vs H Q _ => ∃ x r lo hi, vs = [x, .int lo, .int hi] ∧ Thing K H x r ∧ Q (.bl (within r lo hi)) H
theorem scIsFrom : FnScope ["thing", "least", "most"] ["thing", "least", "most"] (defScope sIsFrom) := ⟨rfl, rfl, rfl, by decide +kernel, rfl, by decide +kernel, by decide +kernel⟩
theorem ok_is_from {f fN : Addr} {fd fdN : FuncData} (F : Fun K "is_from" "is_from" sIsFrom f fd) (FN : Fun K "is_number" "is_number" sIsNumber fN fdN) (bN : Binds K fdN ["thing"] []) (gN : mg "is_number" = some (.ref fN)) (B : Bts mg) :
    FnOk P w K mg base CX0 2 f fd ["thing", "least", "most"] (spIsFrom K) := by
  have GN : FnOk P w K mg base CX0 1 fN fdN ["thing"] (spIsNumber K) := ok_is_number FN B
  refine F.ok scIsFrom (fun vs H Q E h => ?_) (fun cdv A outer s H vs Q E hr h => ?_)
  · obtain ⟨x, r, lo, hi, rfl, _⟩ := h
    rfl
  · obtain ⟨x, r, lo, hi, rfl, ht, q⟩ := h
    refine ⟨_, pss_one (ps_ret (pe_and (pe_call GN hr rfl gN FN.kp bN .nil pass0 (pa_cons (pv 0) pa_nil)) (pe_one (pe_chain op_le op_le (pv 1) (pv 0) (pv 2))))), ?_⟩
    refine ⟨_, rfl, x, r, rfl, ht, r.isSome, rfl, ?_⟩
    cases ht with
    | odd h k => exact q
    | num i =>
      refine ⟨_, rfl, _, rfl, lo, i, rfl, rfl, _, rfl, ?_⟩
      by_cases h1 : lo ≤ i
      · rw [decide_eq_true h1]
        refine ⟨_, rfl, i, hi, rfl, rfl, ?_⟩
        have e : within (some i) lo hi = decide (i ≤ hi) := by simp [within, h1]
        rw [e] at q
        exact q
      · rw [decide_eq_false h1]
        have e : within (some i) lo hi = false := by simp [within, h1]
        rw [e] at q
        exact q
def spIsList (K : PySem.W.Frag) : Sp := fun vs H Q _ => ∃ x t, vs = [x] ∧ TyX K H x (.type t) ∧ t ∈ "int" :: oddKinds ∧ ∀ H', Same H H' → Q (.bl (t == "list" || t == "tuple")) H'
theorem scIsList : FnScope ["thing"] ["thing"] (defScope sIsList) := ⟨rfl, rfl, rfl, by decide +kernel, rfl, by decide +kernel, by decide +kernel⟩
theorem ok_is_list {f : Addr} {fd : FuncData} (F : Fun K "is_list" "is_list" sIsList f fd) (B : Bts mg) : FnOk P w K mg base CX0 1 f fd ["thing"] (spIsList K) := by
  refine F.ok scIsList (fun vs H Q E h => ?_) (fun cdv A outer s H vs Q E hr h => ?_)
  · obtain ⟨x, r, rfl, _⟩ := h
    rfl
  · obtain ⟨x, t, rfl, ht, hk, q⟩ := h
    refine ⟨_, pss_one (ps_ret (pe_callB call_isiT (by rfl) B.isi (by decide +kernel) (pa_cons (pv 0) (pa_cons (pe_tup (pa_cons (pe_bltn (v := .ty "list") (by rfl) B.list (by decide +kernel) rfl) (pa_cons (pe_bltn (v := .ty "tuple") (by rfl) B.tuple (by decide +kernel) rfl) pa_nil))) pa_nil)))), ?_⟩
    obtain ⟨a, b, e1, e2, e3⟩ := kit_list t hk
    refine ⟨_, rfl, (by rw [sizeLine_eq]; decide), fun tp hp => ?_⟩
    have sm := new_same (o := .tup [.ty "list", .ty "tuple"]) hp
    refine ⟨x, tp, _, .type t, [.type "list", .type "tuple"], a || b, rfl, upd_same, .cons (.ty "list") (.cons (.ty "tuple") .nil), tyx_same sm ht, kitAny2 e1 e2, ?_⟩
    rw [e3]
    exact q _ sm
def spIsPrime (K : PySem.W.Frag) : Sp := fun vs H Q _ => ∃ x r, vs = [x] ∧ Thing K H x r ∧ ∀ H', Same H H' → Q (.bl (r.any primeB)) H'
theorem scIsPrime : FnScope ["thing", "k"] ["thing"] (defScope sIsPrime) := ⟨rfl, rfl, rfl, by decide +kernel, rfl, by decide +kernel, by decide +kernel⟩
theorem ok_is_prime {f fR : Addr} {fd fdR : FuncData} (F : Fun K "is_prime" "is_prime" sIsPrime f fd) (FR : Fun K "is_from" "is_from" sIsFrom fR fdR) (GR : FnOk P w K mg base CX0 2 fR fdR ["thing", "least", "most"] (spIsFrom K)) (bR : Binds K fdR ["thing", "least", "most"] [])
    (gR : mg "is_from" = some (.ref fR)) (B : Bts mg) : FnOk P w K mg base CX0 3 f fd ["thing"] (spIsPrime K) := by
  refine F.ok scIsPrime (fun vs H Q E h => ?_) (fun cdv A outer s H vs Q E hr h => ?_)
  · obtain ⟨x, r, rfl, _⟩ := h
    rfl
  · obtain ⟨x, r, rfl, ht, q⟩ := h
    refine ⟨_, PSs.nox (pss_cons (ps_if (pt_not (pt_val (pe_call GR hr rfl gR FR.kp bR .nil pass0 (pa_cons (pv 0) (pa_cons pe_int (pa_cons pe_int pa_nil)))))) (pss_one (ps_ret pe_bl)) pss_nil)
      (pss_one (ps_ret (pe_callB (cr_allI rfl) (by rfl) B.all (by decide +kernel) (pa_cons (pe_lc (own := [("k", 1)]) (g := gName 1) rfl scIsPrime.nd (pi_range2 (by rfl) B.range (pa_cons pe_int (pa_cons pe_int pa_nil))) (blkOk_by (N := ["thing", "k"]) (sc := defScope sIsPrime) (by decide +kernel))
        (fun _ _ _ _ _ => pg_name (i := 1) scIsPrime.nd rfl (Or.inl rfl)) (fun _ _ _ _ _ => pts_one (pt_cmpR op_lt (pv 1) (pv 0) (nomark _))) (fun _ _ _ _ _ => pe_op op_modN (pv 0) (pv 1))) pa_nil))))), ?_⟩
    refine ⟨_, rfl, x, r, 3, 97, rfl, ht, within r 3 97, rfl, ?_⟩
    cases ht with
    | odd h k =>
      show (if (true : Bool) = true then _ else _)
      refine iteT ?_
      exact q H (fun _ _ z => z)
    | num i =>
      cases hw : within (some i) 3 97 with
      | false =>
        refine iteT ?_
        have e : (some i).any primeB = false := by
          show primeB i = false
          unfold primeB
          rw [hw]
          rfl
        rw [e] at q
        exact q H (fun _ _ z => z)
      | true =>
        refine iteF ?_
        refine ⟨2, 10, rfl, ⟨by decide, by decide, by decide, by decide⟩, fun D hD => lc_it walk_range (fun n H' => H' = upd H D (.lst ((rests i n).map V.int))) rfl (fun _ _ _ _ => trivial) ?_ ?_⟩
        · rintro n y H' H'' hn rfl ⟨rfl, rfl⟩
          refine ⟨rfl, ?_⟩
          refine ⟨_, rfl, _, rfl, _, _, rfl, rfl, _, rfl, ?_⟩
          by_cases h : (2 : Int) + n < i
          · rw [decide_eq_true h]
            refine iteT ?_
            refine ⟨_, rfl, _, rfl, i, 2 + n, rfl, rfl, by omega, _, upd_same, ?_, ?_⟩
            · rw [List.length_map, sizeLine_eq]
              have := rests_len i n
              have : n < 8 := hn
              omega
            · rw [upd_upd, rests_yes h, List.map_append]
              rfl
          · rw [decide_eq_false h]
            refine iteF ?_
            rw [rests_no h]
        · rintro H'' rfl
          refine ⟨D, rests i 8, rfl, SqL.of upd_same, ?_⟩
          have e : (some i).any primeB = (rests i 8).all (· != 0) := by
            show primeB i = _
            unfold primeB
            rw [hw]
            rfl
          rw [e] at q
          exact q _ (new_same hD)
def fieldB (p : Int) (r : Option Int) : Bool := within r 0 (p - 1)
def spIsField (K : PySem.W.Frag) : Sp := fun vs H Q _ => ∃ p x r, vs = [.int p, x] ∧ Thing K H x r ∧ Q (.bl (fieldB p r)) H
theorem scIsField : FnScope ["prime", "thing"] ["prime", "thing"] (defScope sIsFieldNumber) := ⟨rfl, rfl, rfl, by decide +kernel, rfl, by decide +kernel, by decide +kernel⟩
theorem ok_is_field {f fR : Addr} {fd fdR : FuncData} (F : Fun K "is_field_number" "is_field_number" sIsFieldNumber f fd) (FR : Fun K "is_from" "is_from" sIsFrom fR fdR) (GR : FnOk P w K mg base CX0 2 fR fdR ["thing", "least", "most"] (spIsFrom K)) (bR : Binds K fdR ["thing", "least", "most"] [])
    (gR : mg "is_from" = some (.ref fR)) : FnOk P w K mg base CX0 3 f fd ["prime", "thing"] (spIsField K) := by
  refine F.ok scIsField (fun vs H Q E h => ?_) (fun cdv A outer s H vs Q E hr h => ?_)
  · obtain ⟨p, x, r, rfl, _⟩ := h
    rfl
  · obtain ⟨p, x, r, rfl, ht, q⟩ := h
    exact ⟨_, pss_one (ps_ret (pe_call GR hr rfl gR FR.kp bR .nil pass0 (pa_cons (pv 1) (pa_cons pe_int (pa_cons (pe_op op_sub (pv 0) pe_int) pa_nil))))), _, rfl, _, rfl, p, 1, rfl, rfl, x, r, 0, p - 1, rfl, ht, q⟩
def spIsBit (K : PySem.W.Frag) : Sp := fun vs H Q _ => ∃ x r, vs = [x] ∧ Thing K H x r ∧ Q (.bl (within r 0 1)) H
theorem scIsBit : FnScope ["thing"] ["thing"] (defScope sIsBit) := ⟨rfl, rfl, rfl, by decide +kernel, rfl, by decide +kernel, by decide +kernel⟩
theorem ok_is_bit {f fR : Addr} {fd fdR : FuncData} (F : Fun K "is_bit" "is_bit" sIsBit f fd) (FR : Fun K "is_from" "is_from" sIsFrom fR fdR) (GR : FnOk P w K mg base CX0 2 fR fdR ["thing", "least", "most"] (spIsFrom K)) (bR : Binds K fdR ["thing", "least", "most"] [])
    (gR : mg "is_from" = some (.ref fR)) : FnOk P w K mg base CX0 3 f fd ["thing"] (spIsBit K) := by
  refine F.ok scIsBit (fun vs H Q E h => ?_) (fun cdv A outer s H vs Q E hr h => ?_)
  · obtain ⟨x, r, rfl, _⟩ := h
    rfl
  · obtain ⟨x, r, rfl, ht, q⟩ := h
    exact ⟨_, pss_one (ps_ret (pe_call GR hr rfl gR FR.kp bR .nil pass0 (pa_cons (pv 0) (pa_cons pe_int (pa_cons pe_int pa_nil))))), _, rfl, x, r, 0, 1, rfl, ht, q⟩
end
end K
end
section
set_option linter.all false
set_option maxRecDepth 100000
set_option maxHeartbeats 4000000
namespace K
open PySem PySem.Spec PyProof.Rows L2 Ob
section
variable {P : Program} {w : World} {K : PySem.W.Frag} {mg : Str → Option Value} {base : Heap}
/-- a list of things -/
structure ListOf (K : PySem.W.Frag) (H : Hp) (a : Addr) (xs : List V) (rs : List (Option Int)) : Prop where
  seq : SqL K H a xs
  kind : TyX K H (.ref a) (.type "list")
  each : Things K H xs rs
theorem ListOf.same {H H' : Hp} {a : Addr} {xs : List V} {rs : List (Option Int)} (s : ∀ b o, H b = some o → H' b = some o) (h : ListOf K H a xs rs) : ListOf K H' a xs rs := ⟨Same.seq s h.seq, tyx_same s h.kind, things_same s h.each⟩
def spAreField (K : PySem.W.Frag) : Sp := fun vs H Q _ => ∃ p a xs rs, vs = [.int p, .ref a] ∧ ListOf K H a xs rs ∧ xs.length ≤ 1000 ∧ ∀ H', Same H H' → Q (.bl (rs.all (fieldB p))) H'
theorem scAreField : FnScope ["prime", "things", "x"] ["prime", "things"] (defScope sAreFieldNumbers) := ⟨rfl, rfl, rfl, by decide +kernel, rfl, by decide +kernel, by decide +kernel⟩
theorem ok_are_field {f fL fI : Addr} {fd fdL fdI : FuncData} (F : Fun K "are_field_numbers" "are_field_numbers" sAreFieldNumbers f fd) (FL : Fun K "is_list" "is_list" sIsList fL fdL) (bL : Binds K fdL ["thing"] []) (gL : mg "is_list" = some (.ref fL))
    (FI : Fun K "is_field_number" "is_field_number" sIsFieldNumber fI fdI) (GI : FnOk P w K mg base CX0 3 fI fdI ["prime", "thing"] (spIsField K)) (bI : Binds K fdI ["prime", "thing"] []) (gI : mg "is_field_number" = some (.ref fI)) (B : Bts mg) :
    FnOk P w K mg base CX0 4 f fd ["prime", "things"] (spAreField K) := by
  have GL : FnOk P w K mg base CX0 1 fL fdL ["thing"] (spIsList K) := ok_is_list FL B
  refine F.ok scAreField (fun vs H Q E h => ?_) (fun cdv A outer s H vs Q E hr h => ?_)
  · obtain ⟨p, a, xs, rs, rfl, _⟩ := h
    rfl
  · obtain ⟨p, a, xs, rs, rfl, hl, hz, q⟩ := h
    refine ⟨_, PSs.nox (pss_one (ps_ret (pe_and (pe_call GL (hr.mono (by decide)) rfl gL FL.kp bL .nil pass0 (pa_cons (pv 1) pa_nil)) (pe_one (pe_callB (cr_all rfl) (by rfl) B.all (by decide +kernel) (pa_cons
      (pe_lc (own := [("x", 2)]) (g := gName 2) (tt := tYes) rfl scAreField.nd (pi_list (pv 1)) (blkOk_by (N := ["prime", "things", "x"]) (sc := defScope sAreFieldNumbers) (by decide +kernel)) (fun _ _ _ _ _ => pg_name (i := 2) scAreField.nd rfl (Or.inl rfl)) (fun _ _ _ _ _ => pts_nil)
        (fun _ _ _ _ _ => pe_call GI (hr.mono (by decide)) rfl gI FI.kp bI .nil pass0 (pa_cons (pv 0) (pa_cons (pv 2) pa_nil)))) pa_nil)))))), ?_⟩
    refine ⟨_, rfl, .ref a, "list", rfl, hl.kind, by decide, fun H1 s1 => ⟨_, rfl, ?_⟩⟩
    refine ⟨_, rfl, a, rfl, ⟨_, (hl.same s1).seq⟩, fun D hD => lc_list (K := K) (a := a) (xs := xs) (fun i H' => H' = upd H1 D (.lst (((rs.take i).map (fieldB p)).map V.bl))) rfl ?_ ?_ ?_⟩
    · rintro i H' _ rfl
      exact Same.seq (new_same hD) (hl.same s1).seq
    · rintro i x H' hx rfl
      have hi := (List.getElem?_eq_some_iff.mp hx).1
      have hr' : rs[i]? = some (rs[i]'(by rw [← hl.each.1]; exact hi)) := List.getElem?_eq_getElem _
      have ht := thing_same (new_same (o := .lst (((rs.take i).map (fieldB p)).map V.bl)) hD) ((hl.same s1).each.2 i x _ hx hr')
      refine ⟨rfl, ?_⟩
      unfold tYes
      dsimp only
      rw [if_pos rfl]
      refine ⟨_, rfl, _, rfl, p, x, _, rfl, ht, _, upd_same, ?_, ?_⟩
      · rw [List.length_map, List.length_map, List.length_take, sizeLine_eq]
        omega
      · rw [upd_upd, take_more hr', List.map_append, List.map_append]
        rfl
    · rintro H' rfl
      refine ⟨D, rs.map (fieldB p), rfl, SqL.of (upd_same.trans ?_), ?_⟩
      · rw [hl.each.1, List.take_length]
      · have e : (rs.map (fieldB p)).all id = rs.all (fieldB p) := by rw [List.all_map]; rfl
        rw [e]
        exact q _ fun b o z => new_same hD b o (s1 b o z)
def pows : List V := (List.range 9).map fun n => V.int (1 * 2 ^ ((0 : Int) + (n : Nat)).toNat)
def tableB (p : Int) (n : Nat) (rs : List (Option Int)) : Bool := inV (.int n) pows && rs.all (fieldB p)
def spIsTable (K : PySem.W.Frag) : Sp := fun vs H Q _ => ∃ p a xs rs, vs = [.int p, .ref a] ∧ ListOf K H a xs rs ∧ xs.length ≤ 1000 ∧ ∀ H', Same H H' → Q (.bl (tableB p xs.length rs)) H'
theorem scIsTable : FnScope ["prime", "things", "n"] ["prime", "things"] (defScope sIsTable) := ⟨rfl, rfl, rfl, by decide +kernel, rfl, by decide +kernel, by decide +kernel⟩
theorem ok_is_table {f fL fA : Addr} {fd fdL fdA : FuncData} {tM : Tok} (F : Fun K "is_table" "is_table" sIsTable f fd) (FL : Fun K "is_list" "is_list" sIsList fL fdL) (bL : Binds K fdL ["thing"] []) (gL : mg "is_list" = some (.ref fL))
    (FA : Fun K "are_field_numbers" "are_field_numbers" sAreFieldNumbers fA fdA) (GA : FnOk P w K mg base CX0 4 fA fdA ["prime", "things"] (spAreField K)) (bA : Binds K fdA ["prime", "things"] []) (gA : mg "are_field_numbers" = some (.ref fA)) (gM : mg "MOST_LEGS" = some (.int 8 tM)) (B : Bts mg) :
    FnOk P w K mg base CX0 5 f fd ["prime", "things"] (spIsTable K) := by
  have GL : FnOk P w K mg base CX0 1 fL fdL ["thing"] (spIsList K) := ok_is_list FL B
  refine F.ok scIsTable (fun vs H Q E h => ?_) (fun cdv A outer s H vs Q E hr h => ?_)
  · obtain ⟨p, a, xs, rs, rfl, _⟩ := h
    rfl
  · obtain ⟨p, a, xs, rs, rfl, hl, hz, q⟩ := h
    refine ⟨_, PSs.nox (pss_cons (ps_if (pw_or (pt_not (pt_val (pe_call GL (hr.mono (by decide)) (by rfl) gL FL.kp bL .nil pass0 (pa_cons (pv 1) pa_nil))))
        (pw_or1 (pt_cmpR op_notIn_seq (pe_callB call_len_seq (by rfl) B.len PySem.boot_len (pa_cons (pv 1) pa_nil))
          (pe_lc (own := [("n", 2)]) (g := gName 2) (tt := tYes) rfl scIsTable.nd (pi_range1 (by rfl) B.range (pa_cons (pe_op op_add (pe_glob (v := .int 8) (by rfl) gM ⟨_, rfl⟩) pe_int) pa_nil)) (blkOk_by (N := ["prime", "things", "n"]) (sc := defScope sIsTable) (by decide +kernel)) (fun _ _ _ _ _ => pg_name (i := 2) scIsTable.nd rfl (Or.inl rfl)) (fun _ _ _ _ _ => pts_nil)
            (fun _ _ _ _ _ => pe_op op_shl pe_int (pv 2))) (by rfl)))).pt (pss_one (ps_ret pe_bl)) pss_nil)
      (pss_one (ps_ret (pe_call GA (hr.mono (by decide)) rfl gA FA.kp bA .nil pass0 (pa_cons (pv 0) (pa_cons (pv 1) pa_nil)))))), ?_⟩
    refine ⟨_, rfl, .ref a, "list", rfl, hl.kind, by decide, fun H1 s1 => ⟨_, rfl, iteF ?_⟩⟩
    have hl1 := hl.same s1
    refine ⟨_, rfl, a, xs, rfl, .inl hl1.seq, ?_⟩
    refine ⟨8, 1, rfl, rfl, 9, rfl, by decide, by decide, fun D hD => lc_it walk_range (fun i H' => H' = upd H1 D (.lst ((List.range i).map fun n => V.int (1 * 2 ^ ((0 : Int) + (n : Nat)).toNat)))) rfl (fun _ _ _ _ => trivial) ?_ ?_⟩
    · rintro i x H' H'' hi rfl ⟨rfl, rfl⟩
      have hi9 : i < 9 := hi
      refine ⟨rfl, ?_⟩
      unfold tYes
      dsimp only
      rw [if_pos rfl]
      refine ⟨_, rfl, 1, 0 + (i : Nat), rfl, rfl, ⟨by omega, by omega, by decide⟩, _, upd_same, ?_, ?_⟩
      · rw [List.length_map, List.length_range, sizeLine_eq]
        omega
      · rw [upd_upd, List.range_succ, List.map_append]
        rfl
    · rintro H'' rfl
      refine ⟨D, pows, rfl, .inl (SqL.of upd_same), rfl, by decide +kernel, _, rfl, ?_⟩
      have s2 : Same H (upd H1 D (.lst pows)) := fun b o z => new_same hD b o (s1 b o z)
      cases e : inV (V.int (xs.length : Nat)) pows with
      | false =>
        refine iteT ?_
        have e2 : tableB p xs.length rs = false := by
          unfold tableB
          rw [e]
          rfl
        rw [e2] at q
        exact q _ s2
      | true =>
        refine iteF ?_
        refine ⟨_, rfl, _, rfl, p, a, xs, rs, rfl, hl.same s2, hz, fun H3 s3 => ?_⟩
        have e2 : tableB p xs.length rs = rs.all (fieldB p) := by
          unfold tableB
          rw [e]
          rfl
        rw [e2] at q
        exact q _ fun b o z => s3 b o (s2 b o z)
end
end K
end
section
set_option linter.all false
set_option maxRecDepth 100000
set_option maxHeartbeats 4000000
/-! tuples and lists of whole numbers, compared -/
namespace Ob
open PySem PySem.Spec PyProof.Rows L2
theorem ints_lay : ∀ ns : List Int, PyData.canLayAll0 (ns.map PyData.int) = true ∧ PyData.depthAll (ns.map PyData.int) = 0
  | [] => ⟨rfl, rfl⟩
  | n :: ns => by
    obtain ⟨h1, h2⟩ := ints_lay ns
    refine ⟨?_, ?_⟩
    · simp only [List.map_cons, PyData.canLayAll0, PyData.canLay0, h1]
      rfl
    · simp only [List.map_cons, PyData.depthAll, PyData.depth, h2]
      rfl
theorem ints_eqv : ∀ ns ms : List Int, PyData.eqvAll (ns.map PyData.int) (ms.map PyData.int) = decide (ns = ms)
  | [], [] => by simp [PyData.eqvAll]
  | [], m :: ms => by simp [PyData.eqvAll]
  | n :: ns, [] => by simp [PyData.eqvAll]
  | n :: ns, m :: ms => by
    simp only [List.map_cons, PyData.eqvAll, PyData.eqv, ints_eqv ns ms]
    by_cases h : n = m <;> by_cases h2 : ns = ms <;> simp [h, h2]
theorem tup_shaped (ns : List Int) : SeqAt.shaped (.tuple (ns.map PyData.int)) = true := by
  obtain ⟨h1, h2⟩ := ints_lay ns
  unfold SeqAt.shaped
  simp only [PyData.canLay0, PyData.depth, h1, h2, Bool.true_and]
  decide
theorem lst_shaped (ns : List Int) : SeqAt.shaped (.list (ns.map PyData.int)) = true := by
  obtain ⟨h1, h2⟩ := ints_lay ns
  unfold SeqAt.shaped
  simp only [PyData.canLay0, PyData.depth, h1, h2, Bool.true_and]
  decide
theorem dp_ints {K : PySem.W.Frag} {H : Hp} : ∀ ns : List Int, DpAll K H (ns.map V.int) (ns.map PyData.int)
  | [] => .nil
  | n :: ns => .cons (.int n) (dp_ints ns)
theorem tup_eqv (ns ms : List Int) : PyData.eqv (.tuple (ns.map PyData.int)) (.tuple (ms.map PyData.int)) = decide (ns = ms) := by
  simp only [PyData.eqv, ints_eqv]
theorem lst_eqv (ns ms : List Int) : PyData.eqv (.list (ns.map PyData.int)) (.list (ms.map PyData.int)) = decide (ns = ms) := by
  simp only [PyData.eqv, ints_eqv]
end Ob
end
section
set_option linter.all false
set_option maxRecDepth 100000
set_option maxHeartbeats 4000000
namespace K
open PySem PySem.Spec PyProof.Rows L2 Ob
/-- a rule stands at r -/
structure RuleAt (C : Addr) (H : Hp) (r : Addr) (p : Int) (n : Nat) (ns : List Int) : Prop where
  ex : ∃ dx t, H r = some (.ins C dx [("prime", .int p), ("legs", .int n), ("table", .ref t)]) ∧ H t = some (.tup (ns.map V.int))
theorem RuleAt.same {C : Addr} {H H' : Hp} {r : Addr} {p : Int} {n : Nat} {ns : List Int} (s : ∀ b o, H b = some o → H' b = some o) (h : RuleAt C H r p n ns) : RuleAt C H' r p n ns := by
  obtain ⟨dx, t, h1, h2⟩ := h.ex
  exact ⟨dx, t, s _ _ h1, s _ _ h2⟩
/-- what the text tells of the class -/
structure RuleC (K : PySem.W.Frag) (mg : Str → Option Value) (C : Addr) : Prop where
  cl : Cls K C
  nP : NoAttr K C "prime"
  nL : NoAttr K C "legs"
  nT : NoAttr K C "table"
  g : mg "Rule" = some (.ref C)
  ha : PySem.W.findIn K (.ref C) "__class__" = some (some (.builtin "object.__class__"))
  hn : PySem.W.specialIn K (.builtin "object.__class__") "__get__" = some (some (.builtin "getset_descriptor.__get__"))
  ht : PySem.W.takesIn K (.builtin "object.__class__") = some true
  hm : PySem.W.mroIn K C (.type "object") = some true
theorem kit_self {K : PySem.W.Frag} {C : Addr} : PySem.W.kitOne K (.ref C) (.ref C) = some true := by
  unfold PySem.W.kitOne
  rw [if_pos (by simp)]
theorem RuleC.ty {K : PySem.W.Frag} {mg : Str → Option Value} {C : Addr} (T : RuleC K mg C) {H : Hp} {r : Addr} {p : Int} {n : Nat} {ns : List Int} (h : RuleAt C H r p n ns) : TyX K H (.ref r) (.ref C) := by
  obtain ⟨dx, t, h1, h2⟩ := h.ex
  exact .base (.ins h1 T.cl T.ha T.hn T.ht T.hm)
theorem bits_pow : ∀ n : Nat, n ≤ 8 → Builtin.Int.intBits (((2 ^ n : Nat)) : Int) = n + 1 := by decide +kernel
section
variable {P : Program} {w : World} {K : PySem.W.Frag} {mg : Str → Option Value} {base : Heap} {C : Addr}
def spRInit (K : PySem.W.Frag) (C : Addr) : Sp := fun vs H Q _ => ∃ r dx p a ns n, vs = [.ref r, .int p, .ref a] ∧ H r = some (.ins C dx []) ∧ ListOf K H a (ns.map V.int) (ns.map some) ∧ a ≠ r ∧ primeB p = true ∧ tableB p ns.length (ns.map some) = true ∧ ns.length = 2 ^ n ∧ n ≤ 8 ∧
  ∀ H', (∀ b o, H b = some o → b ≠ r → H' b = some o) → RuleAt C H' r p n ns → Q .non H'
theorem scRInit : FnScope ["self", "prime", "table"] ["self", "prime", "table"] (defScope sRule_init) := ⟨rfl, rfl, rfl, by decide +kernel, rfl, by decide +kernel, by decide +kernel⟩
theorem ok_rinit {f fP fT : Addr} {fd fdP fdT : FuncData} (F : Fun K "__init__" "Rule.__init__" sRule_init f fd) (T : RuleC K mg C) (FP : Fun K "is_prime" "is_prime" sIsPrime fP fdP) (GP : FnOk P w K mg base CX0 3 fP fdP ["thing"] (spIsPrime K)) (bP : Binds K fdP ["thing"] []) (gP : mg "is_prime" = some (.ref fP))
    (FT : Fun K "is_table" "is_table" sIsTable fT fdT) (GT : FnOk P w K mg base CX0 5 fT fdT ["prime", "things"] (spIsTable K)) (bT : Binds K fdT ["prime", "things"] []) (gT : mg "is_table" = some (.ref fT)) (B : Bts mg) :
    FnOk P w K mg base CX0 6 f fd ["self", "prime", "table"] (spRInit K C) := by
  refine F.ok scRInit (fun vs H Q E h => ?_) (fun cdv A outer s H vs Q E hr h => ?_)
  · obtain ⟨r, dx, p, a, ns, n, rfl, _⟩ := h
    rfl
  · obtain ⟨r, dx, p, a, ns, n, rfl, hr0, hl, hne, hp, ht, hn, h8, k⟩ := h
    refine ⟨_, PSs.nox (pss_cons (ps_if (pt_not (pt_val (pe_call GP (hr.mono (by decide)) rfl gP FP.kp bP .nil pass0 (pa_cons (pv 1) pa_nil)))) (pss_one ps_never) pss_nil)
      (pss_cons (ps_if (pt_not (pt_val (pe_call GT (hr.mono (by decide)) rfl gT FT.kp bT .nil pass0 (pa_cons (pv 1) (pa_cons (pv 2) pa_nil))))) (pss_one ps_never) pss_nil)
      (pss_cons (ps_fld (pv 0) (pv 1) rfl)
      (pss_cons (ps_fld (pv 0) (pe_op op_sub (pe_bits (pe_callB call_len_seq (by rfl) B.len PySem.boot_len (pa_cons (pv 2) pa_nil))) pe_int) rfl)
      (pss_one (ps_fld (pv 0) (pe_callTy call_tuple_of (by rfl) B.tuple (by decide +kernel) (pa_cons (pv 2) pa_nil)) rfl)))))), ?_⟩
    refine ⟨_, rfl, _, some p, rfl, .num p, fun H1 s1 => ⟨_, rfl, ?_⟩⟩
    have e1 : (some p).any primeB = true := hp
    rw [e1]
    refine iteF ?_
    have hz : (ns.map V.int).length ≤ 1000 := by
      rw [List.length_map, hn]
      exact Nat.le_trans (Nat.pow_le_pow_right (by decide) h8) (by decide)
    refine ⟨_, rfl, _, rfl, p, a, _, _, rfl, hl.same s1, hz, fun H2 s2 => ⟨_, rfl, ?_⟩⟩
    rw [List.length_map, ht]
    refine iteF ?_
    have s02 : ∀ b o, H b = some o → H2 b = some o := fun b o z => s2 b o (s1 b o z)
    have r2 := s02 _ _ hr0
    refine ⟨_, rfl, _, rfl, r, C, dx, [], rfl, r2, T.cl, T.nP, (by decide), ?_⟩
    have l2 := (hl.same s02).seq
    have kp : ∀ (o : HO) (H : Hp), ∀ b u, H b = some u → b ≠ r → upd H r o b = some u := fun o H b u e hb => by
      rw [upd_ne hb]
      exact e
    have seqKeep : ∀ {H H' : Hp}, (∀ b u, H b = some u → b ≠ r → H' b = some u) → SqL K H a (ns.map V.int) → SqL K H' a (ns.map V.int) := fun {H H'} kk z =>
      z.elim (fun z => .inl (z.elim (fun z => .inl (kk _ _ z hne)) fun ⟨o, z⟩ => .inr ⟨o, kk _ _ z hne⟩)) .inr
    have l3 := seqKeep (kp (.ins C dx (putF "prime" (.int p) [])) H2) l2
    refine ⟨_, rfl, a, _, rfl, .inl l3, _, rfl, _, _, rfl, rfl, _, rfl, r, C, dx, _, rfl, upd_same, T.cl, T.nL, (by show 1 < 1000; decide), ?_⟩
    have eL : (fun i j : Int => V.int (i - j)) ((Builtin.Int.intBits (((ns.map V.int).length : Nat) : Int) : Nat) : Int) 1 = V.int (n : Int) := by
      show V.int (((Builtin.Int.intBits (((ns.map V.int).length : Nat) : Int) : Nat) : Int) - 1) = V.int (n : Int)
      rw [List.length_map, hn, bits_pow n h8]
      exact congrArg V.int (by omega)
    rw [eL, upd_upd]
    have l4 := seqKeep (kp (.ins C dx (putF "legs" (.int n) (putF "prime" (.int p) []))) H2) l2
    refine ⟨_, rfl, a, _, rfl, .inl ⟨l4, fun t ht => ?_⟩⟩
    have nrt : r ≠ t := fun z => by
      rw [← z, upd_same] at ht
      cases ht
    refine ⟨_, rfl, r, C, dx, _, rfl, (upd_ne nrt).trans upd_same, T.cl, T.nT, (by show 2 < 1000; decide), ?_⟩
    refine k _ (fun b o e hb => ?_) ⟨dx, t, upd_same, (upd_ne nrt.symm).trans upd_same⟩
    have e2 := s02 _ _ e
    have e3 : upd H2 r (.ins C dx (putF "legs" (.int n) (putF "prime" (.int p) []))) b = some o := (upd_ne hb).trans e2
    rw [upd_ne hb, upd_ne (ne_of_none e3 ht)]
    exact e3
def spREq (C : Addr) : Sp := fun vs H Q _ => ∃ a b p q n m ns ms, vs = [.ref a, .ref b] ∧ RuleAt C H a p n ns ∧ RuleAt C H b q m ms ∧ Q (.bl (decide (p = q) && decide (ns = ms))) H
theorem scREq : FnScope ["self", "other"] ["self", "other"] (defScope sRule_eq) := ⟨rfl, rfl, rfl, by decide +kernel, rfl, by decide +kernel, by decide +kernel⟩
theorem ok_req {f : Addr} {fd : FuncData} (F : Fun K "__eq__" "Rule.__eq__" sRule_eq f fd) (T : RuleC K mg C) (B : Bts mg) : FnOk P w K mg base CX0 1 f fd ["self", "other"] (spREq C) := by
  refine F.ok scREq (fun vs H Q E h => ?_) (fun cdv A outer s H vs Q E hr h => ?_)
  · obtain ⟨a, b, p, q, n, m, ns, ms, rfl, _⟩ := h
    rfl
  · obtain ⟨a, b, p, q, n, m, ns, ms, rfl, ra, rb, k⟩ := h
    obtain ⟨dx, t, ha, hta⟩ := id ra.ex
    obtain ⟨dy, u, hb, htb⟩ := id rb.ex
    refine ⟨_, pss_one (ps_ret (pe_and (pe_callB call_isi (by rfl) B.isi (by decide +kernel) (pa_cons (pv 1) (pa_cons (pe_glob (v := .ref C) (by rfl) T.g rfl) pa_nil)))
      (pe_and (pe_cmpR op_eq (pe_fld (pv 0) rfl) (pe_fld (pv 1) rfl) (nomark _)) (pe_one (pe_cmpR (op_eqD hr.units) (pe_fld (pv 0) rfl) (pe_fld (pv 1) rfl) (nomark _)))))), ?_⟩
    refine ⟨_, rfl, .ref b, .ref C, .ref C, .ref C, true, rfl, .own C, T.ty rb, kit_self, true, rfl, ?_⟩
    refine ⟨_, rfl, a, C, dx, _, _, rfl, ha, T.cl, T.nP, rfl, _, rfl, b, C, dy, _, _, rfl, hb, T.cl, T.nP, rfl, rfl, _, rfl, ?_⟩
    have eq0 : decide (V.int p = V.int q) = decide (p = q) := by
      by_cases h : p = q
      · subst h
        simp
      · rw [decide_eq_false h]
        exact decide_eq_false fun z => h (by injection z)
    rw [eq0]
    by_cases h : p = q
    · rw [decide_eq_true h] at k ⊢
      refine ⟨_, rfl, a, C, dx, _, _, rfl, ha, T.cl, T.nT, rfl, _, rfl, b, C, dy, _, _, rfl, hb, T.cl, T.nT, rfl, ?_⟩
      refine ⟨_, _, .tup (SqT.of hta) (dp_ints ns), .tup (SqT.of htb) (dp_ints ms), tup_shaped _, tup_shaped _, ?_⟩
      rw [tup_eqv]
      exact k
    · rw [decide_eq_false h] at k ⊢
      exact k
end
end K
end
section
set_option linter.all false
set_option maxRecDepth 100000
set_option maxHeartbeats 4000000
/-! a walk of any kind, its turn told by a shape -/
namespace Ob
open PySem PySem.Spec PyProof.Rows L2
theorem go_walk {J : It} {n : Nat} {G : Hp → Prop} {Y : Nat → Hp → V → Hp → Prop} (w : Walk J n G Y) {S : (Hp → Prop) → V → Hp → Prop} {H1 : Hp} {Qd : Hp → Prop} (Pv : Nat → Hp → Prop) (h0 : Pv 0 H1) (hG : ∀ i H, i ≤ n → Pv i H → G H)
    (hs : ∀ i x H H', i < n → Pv i H → Y i H x H' → S (Pv (i + 1)) x H') (hd : ∀ H, Pv n H → Qd H) :
    ∃ W : Nat → Nat → Hp → Prop, (∃ m, W 0 m H1) ∧ ∀ i m H, W i m H → (J.stop i H ∧ Qd H) ∨ (J.go i H ∧ ∃ Nx : Hp → Prop, (∀ H', Nx H' → ∃ m', m' < m ∧ W (i + 1) m' H') ∧ ∀ x H', J.yld i H x H' → S Nx x H') := by
  refine ⟨fun i m H => m + i = n ∧ Pv i H, ⟨n, rfl, h0⟩, fun i m H ⟨hi, p⟩ => ?_⟩
  have g := hG i H (by omega) p
  cases m with
  | zero =>
    have e : i = n := by omega
    subst e
    exact .inl ⟨w.stops H g, hd H p⟩
  | succ m => exact .inr ⟨w.goes i H (by omega) g, Pv (i + 1), fun H' p' => ⟨m, by omega, by omega, p'⟩, fun x H' y => hs i x H H' (by omega) p (w.yields i H x H' (by omega) g y)⟩
theorem at_ints {ns : List Int} {i : Nat} {x : V} (h : (ns.map V.int)[i]? = some x) : ∃ z, x = V.int z ∧ ns[i]? = some z := by
  rw [List.getElem?_map] at h
  cases e : ns[i]? with
  | none =>
    rw [e] at h
    cases h
  | some z =>
    rw [e] at h
    exact ⟨z, (Option.some.inj h).symm, rfl⟩
/-- len's reading, by a written part -/
def rLenS (K : PySem.W.Frag) : List V → Hp → VK → Prop := fun xs H Q => ∃ p ys, xs = [V.ref p] ∧ (SqL K H p ys ∨ SqT K H p ys) ∧ Q (V.int (ys.length : Nat)) H
/-- either of two kinds of walked things -/
theorem pi_or {X : Cx} {tg l : Expr} {w1 w2 : TI} (h1 : PI X tg l w1) (h2 : PI X tg l w2) : PI X tg l (fun σ H R => w1 σ H R ∨ w2 σ H R) :=
  ⟨fun pins s σ H R I h => h.elim (h1.run pins s σ H R I) (h2.run pins s σ H R I)⟩
/-- either of two readings -/
theorem pe_either {X : Cx} {e : Expr} {t1 t2 : TE} (h1 : PE X e t1) (h2 : PE X e t2) : PE X e (fun σ H Q => t1 σ H Q ∨ t2 σ H Q) :=
  ⟨fun pins s σ H Q I h => h.elim (h1.run pins s σ H Q I) (h2.run pins s σ H Q I)⟩
end Ob
end
section
set_option linter.all false
set_option maxRecDepth 100000
set_option maxHeartbeats 4000000
namespace K
open PySem PySem.Spec PyProof.Rows L2 Ob
def maskF (many leg : Int) : Int := 1 * 2 ^ (many - 1 - leg).toNat
def stepF (m : Int) (out : List Int) : List Int := out.flatMap fun x => [x + 0, x + m]
def sumsF (masks : List Int) (base : Int) : List Int := masks.foldl (fun out m => stepF m out) [base]
theorem step_len (m : Int) : ∀ out : List Int, (stepF m out).length = 2 * out.length
  | [] => rfl
  | x :: out => by
    have ih := step_len m out
    unfold stepF at ih ⊢
    rw [List.flatMap_cons, List.length_append, ih]
    simp
    omega
theorem sums_len (masks : List Int) (base : Int) : (sumsF masks base).length = 2 ^ masks.length := by
  have key : ∀ (ms out : List Int), (ms.foldl (fun out m => stepF m out) out).length = 2 ^ ms.length * out.length := by
    intro ms
    induction ms with
    | nil =>
      intro out
      simp
    | cons m ms ih =>
      intro out
      rw [List.foldl_cons, ih, step_len, List.length_cons, Nat.pow_succ]
      rw [Nat.mul_assoc]
  unfold sumsF
  rw [key]
  simp
theorem sums_more {masks : List Int} {base m : Int} {i : Nat} (h : masks[i]? = some m) : sumsF (masks.take (i + 1)) base = stepF m (sumsF (masks.take i) base) := by
  rw [take_more h]
  unfold sumsF
  rw [List.foldl_append]
  rfl
theorem step_more {m x : Int} {out : List Int} {i : Nat} (h : out[i]? = some x) : stepF m (out.take (i + 1)) = stepF m (out.take i) ++ [x + 0, x + m] := by
  rw [take_more h]
  unfold stepF
  rw [List.flatMap_append]
  rfl
section
variable {P : Program} {w : World} {K : PySem.W.Frag} {mg : Str → Option Value} {base : Heap}
def spLegMask : Sp := fun vs H Q _ => ∃ many leg : Int, vs = [.int many, .int leg] ∧ 0 ≤ many - 1 - leg ∧ many - 1 - leg ≤ 60 ∧ Q (.int (maskF many leg)) H
theorem scLegMask : FnScope ["many", "leg"] ["many", "leg"] (defScope sLegMask) := ⟨rfl, rfl, rfl, by decide +kernel, rfl, by decide +kernel, by decide +kernel⟩
theorem ok_leg_mask {f : Addr} {fd : FuncData} (F : Fun K "leg_mask" "leg_mask" sLegMask f fd) : FnOk P w K mg base CX0 1 f fd ["many", "leg"] spLegMask := by
  refine F.ok scLegMask (fun vs H Q E h => ?_) (fun cdv A outer s H vs Q E hr h => ?_)
  · obtain ⟨m, l, rfl, _⟩ := h
    rfl
  · obtain ⟨m, l, rfl, h0, h1, q⟩ := h
    exact ⟨_, pss_one (ps_ret (pe_op op_shl pe_int (pe_op op_sub (pe_op op_sub (pv 0) pe_int) (pv 1)))), _, rfl, _, _, rfl, rfl, _, rfl, _, _, rfl, rfl, 1, m - 1 - l, rfl, rfl, ⟨h0, by omega, by decide⟩, q⟩
def spSumsOf (K : PySem.W.Frag) : Sp := fun vs H Q _ => ∃ a masks b, vs = [.ref a, .int b] ∧ SqL K H a (masks.map V.int) ∧ masks.length ≤ 8 ∧ ∀ H' q, Same H H' → H' q = some (.lst ((sumsF masks b).map V.int)) → Q (.ref q) H'
theorem scSumsOf : FnScope ["masks", "base", "out", "mask", "number", "more"] ["masks", "base"] (defScope sSumsOf) := ⟨rfl, rfl, rfl, by decide +kernel, rfl, by decide +kernel, by decide +kernel⟩
theorem ok_sums_of {f : Addr} {fd : FuncData} (F : Fun K "sums_of" "sums_of" sSumsOf f fd) : FnOk P w K mg base CX0 1 f fd ["masks", "base"] (spSumsOf K) := by
  refine F.ok scSumsOf (fun vs H Q E h => ?_) (fun cdv A outer s H vs Q E hr h => ?_)
  · obtain ⟨a, ms, b, rfl, _⟩ := h
    rfl
  · obtain ⟨a, ms, b, rfl, hS, h8, k⟩ := h
    refine ⟨_, PSs.nox (pss_cons (ps_set (i := 2) scSumsOf.nd rfl (Or.inl rfl) (pe_lst (pa_cons (pv 1) pa_nil)))
      (pss_cons (ps_for PassesOwn.never rfl (pi_list (pv 0)) (pg_name (i := 3) scSumsOf.nd rfl (Or.inr rfl))
        (pss_one (ps_setLc2 (i := 2) (own := [("number", 4), ("more", 5)]) (vs1 := [5]) (g := gName 4) (g1 := gName 5) (tt := tYes) (tt1 := tYes) (wi1 := iTup K (tTup (tCons (tC (.int 0)) (tCons (tVar 3) tNil)))) rfl scSumsOf.nd rfl rfl (sw_true rfl rfl rfl (by decide +kernel)) (pi_list (pv 2))
          (blkOk_by (N := ["masks", "base", "out", "mask", "number", "more"]) (sc := defScope sSumsOf) (by decide +kernel)) (by decide) (fun _ _ _ _ _ => pg_name (i := 4) scSumsOf.nd rfl (Or.inl rfl)) (fun _ _ _ _ _ => pts_nil)
          (fun _ _ _ _ _ => by exact pi_tup (pe_tup (pa_cons pe_int (pa_cons (pv 3) pa_nil)))) (fun _ _ _ _ _ => pg_name (i := 5) scSumsOf.nd rfl (Or.inl rfl)) (fun _ _ _ _ _ => pts_nil) (fun _ _ _ _ _ => pe_op op_add (pv 4) (pv 5)))))
      (pss_one (ps_ret (pv 2))))), ?_⟩
    refine ⟨_, rfl, (show 1 ≤ sizeLine by rw [sizeLine_eq]; decide), fun p hp => ?_⟩
    refine ⟨_, rfl, a, rfl, ⟨_, Same.seq (new_same hp) hS⟩, for_list (K := K) (a := a) (xs := ms.map V.int) (fun i σ H' => ∃ (q : Addr) (v3 : Option V), σ = [some (.ref a), some (.int b), some (.ref q), v3, none, none] ∧ (∀ b o, H b = some o → H' b = some o) ∧ H' q = some (.lst ((sumsF (ms.take i) b).map V.int)))
      ⟨p, none, rfl, new_same hp, upd_same⟩ ?_ ?_ ?_⟩
    · rintro i σ H' _ ⟨q, v3, rfl, sm, hq⟩
      exact Same.seq sm hS
    · rintro i x σ H' hx ⟨q, v3, rfl, sm, hq⟩
      obtain ⟨m, rfl, hm⟩ := at_ints hx
      have hi : i < ms.length := (List.getElem?_eq_some_iff.mp hm).1
      have hl : (sumsF (ms.take i) b).length ≤ 256 := by
        rw [sums_len, List.length_take]
        exact Nat.le_trans (Nat.pow_le_pow_right (by decide) (show min i ms.length ≤ 8 by omega)) (by decide)
      obtain ⟨out, eo⟩ : ∃ out, sumsF (ms.take i) b = out := ⟨_, rfl⟩
      rw [eo] at hq hl
      refine ⟨_, rfl, q, rfl, ⟨_, SqL.of hq⟩, fun D hD => go_walk (walk_list (K := K) (a := q) (xs := out.map V.int)) (fun j H2 => (∀ b o, H' b = some o → H2 b = some o) ∧ H2 D = some (.lst ((stepF m (out.take j)).map V.int))) ⟨new_same hD, upd_same⟩ ?_ ?_ ?_⟩
      · rintro j H2 _ ⟨s2, _⟩
        exact SqL.of (s2 _ _ hq)
      · rintro j y H2 H3 hj ⟨s2, h2⟩ ⟨rfl, hy⟩
        obtain ⟨z, rfl, hz⟩ := at_ints hy
        rw [List.length_map] at hj
        refine ⟨rfl, ?_⟩
        unfold tYes
        dsimp only
        rw [if_pos rfl]
        refine ⟨_, rfl, (show 2 ≤ sizeLine by rw [sizeLine_eq]; decide), fun T hT => ⟨T, rfl, ⟨_, SqT.of upd_same⟩, go_walk (walk_tup (K := K) (a := T) (xs := [.int 0, .int m])) (fun l H4 => (∀ b o, H3 b = some o → b ≠ D → H4 b = some o) ∧ H4 T = some (.tup [.int 0, .int m]) ∧ T ≠ D ∧
          H4 D = some (.lst ((stepF m (out.take j) ++ [z + 0, z + m].take l).map V.int))) ⟨fun b o e _ => new_same hT b o e, upd_same, (fun e => by rw [e, h2] at hT; cases hT), (by rw [List.take_zero, List.append_nil]; exact new_same hT _ _ h2)⟩ ?_ ?_ ?_⟩⟩
        · rintro l H4 _ ⟨_, h4, _⟩
          exact SqT.of h4
        · rintro l u H4 H5 hl2 ⟨s4, h4, ne, h4D⟩ ⟨rfl, hu⟩
          have hl2 : l < 2 := hl2
          refine ⟨rfl, ?_⟩
          refine iteT ?_
          obtain ⟨w2, rfl, hw⟩ : ∃ w2 : Int, u = .int w2 ∧ [z + 0, z + m][l]? = some (z + w2) := by
            match l, hl2, hu with
            | 0, _, hu =>
              cases hu
              exact ⟨0, rfl, rfl⟩
            | 1, _, hu =>
              cases hu
              exact ⟨m, rfl, rfl⟩
          refine ⟨_, rfl, _, rfl, z, w2, rfl, rfl, _, h4D, ?_, ?_, ?_, ne, ?_⟩
          · rw [List.length_map, List.length_append, step_len, List.length_take, List.length_take, sizeLine_eq]
            have : out.length ≤ 256 := hl
            omega
          · intro b o e hb
            rw [upd_ne hb]
            exact s4 b o e hb
          · rw [upd_ne ne]
            exact h4
          · rw [upd_same, take_more hw, ← List.append_assoc, List.map_append (l₂ := [z + w2])]
            rfl
        · rintro H4 ⟨s4, _, _, h4D⟩
          refine ⟨fun b o e => ?_, ?_⟩
          · have ne : b ≠ D := fun z => by
              rw [z, hD] at e
              cases e
            exact s4 b o (s2 b o e) ne
          · rw [h4D, step_more hz]
            rfl
      · rintro H2 ⟨s2, h2⟩
        refine ⟨D, some (.int m), rfl, fun b o e => s2 b o (sm b o e), ?_⟩
        rw [h2, List.length_map, List.take_length, sums_more hm, eo]
    · rintro σ H' ⟨q, v3, rfl, sm, hq⟩
      rw [List.length_map, List.take_length] at hq
      exact ⟨_, rfl, k _ q sm hq⟩
end
end K
end
section
set_option linter.all false
set_option maxRecDepth 100000
set_option maxHeartbeats 4000000
/-! an error class of the program: def __init__(self, part): super().__init__(f'..{part}'); self.part = part -/
namespace Ob
open PySem PySem.Spec PyProof.Rows L2 NdefX

/-- v in an f-string gives some text of bounded length, and keeps all objects -/
def Fmt (P : Program) (w : World) (A : Around) (H : Hp) (y : V) : Prop :=
  ∀ (E : Value → Shared → Prop) (s : Shared) (u : Value) (Q : Value → Shared → Prop), HOk P w H s.heap → RelV y u →
    (∀ (m : Str) (t tk : Tok) (h' : Heap), m.length ≤ 100000 → (∀ b o, s.heap.get? b = some o → h'.get? b = some o) → Q (.str m t) { s with heap := h', toks := tk }) →
    wpAny (model P w) A (formatField u Str.empty) Q E s
theorem fmt_str {P : Program} {w : World} {A : Around} {H : Hp} {y : Str} (h : y.length ≤ 100000) : Fmt P w A H (.str y) := fun E s u Q _ r q => by
  obtain ⟨t, rfl⟩ := r
  have e : ∀ t tk, Q (.str y t) { s with toks := tk } := fun t tk => q y t tk s.heap h fun _ _ z => z
  exact wpAny_formatField_str (e t s.toks) (e _ _) (by rw [sizeLine_eq]; omega)
theorem fmt_none {P : Program} {w : World} {A : Around} {H : Hp} : Fmt P w A H .non := fun E s u Q _ r q => by
  cases r
  exact wpAny_formatField_none (q _ _ _ s.heap (by decide +kernel) fun _ _ z => z)
/-- {x} -/
def tFmtA (X : Cx) (te : TE) : TE := fun σ H Q => te σ H fun x H1 => Fmt X.prog X.w X.A H1 x ∧ ∀ y : Str, y.length ≤ 100000 → Q (.str y) H1
theorem pe_fmtA {X : Cx} {e : Expr} {te : TE} {pos : Pos} (he : PE X e te) : PE X (.FormattedValue e (-1) none pos) (tFmtA X te) := by
  refine ⟨fun pins s σ H Q I h => ?_⟩
  refine wpAny_FormattedValue_plain (thn (he.run pins s σ H _ I h) fun v s1 hv => ?_)
  obtain ⟨x, H1, I1, r1, f, q⟩ := hv
  exact f _ _ _ _ I1.hok r1 fun m t tk h' hm k => ⟨.str m, H1, I1.kept k, ⟨_, rfl⟩, q m hm⟩

/-! ### the wrapper of the built-in __init__, called -/
section
open PySem.W
variable {prog : Program} {w : World} {A : Around} {E : Value → Shared → Prop} {h : Heap} {g : Array GenState} {d : Drawn} {tk : Nat} {os : OsState}
variable {nm q : Str} {C N : Addr} {bs bm bmB : List Value} {hdct : Bool} {sn : List Str} {sub : List Value} {ab : Bool} {col : Option Bool} {dd : Option Addr} {k0 k1 k2 k3 k5 : Option Value} {B newId i : String}
theorem call_mw (FB : ExcBaseFacts B newId i bmB) {u x t : Addr} {rest : List Value} {Q : Value → Shared → Prop}
    (hC : h.get? C = some (excClassObj nm q C N bs bm hdct sn sub ab col dd k0 k1 k2 k3 k5 newId)) (hu : h.get? u = some (kxs_mw i x)) (he : h.get? x = some (excObj C t none .none)) (hz : rest.length ≤ sizeLine)
    (fin : ∀ h', (∀ b o, b ≠ x → h.get? b = some o → h'.get? b = some o) → h'.get? x = some (excObj C h.objs.size none .none) → Q .none ⟨h', g, d, tk, os⟩) :
    wpAny (model prog w) A (call (.ref u) rest) Q E ⟨h, g, d, tk, os⟩ := by
  refine wpAny_call (codeAny_of_tree ?_)
  show wpAny _ A.in1 (callAny (.ref u) ⟨rest, []⟩) _ _ _
  simp only [callAny]
  refine wpAny_bind (wpAny_load hu ?_)
  simp only [kxs_mw, show (Value.type "method-wrapper" == Value.type "method" || Value.type "method-wrapper" == Value.type "builtin_function_or_method" || Value.type "method-wrapper" == Value.type "method-wrapper") = true by decide, if_true]
  refine W.KFB.if_so (by decide) ?_
  refine wpAny_bind (check_bound_init FB.toExcCallFacts hC he rfl ?_)
  refine wpAny_bind (wpAny_pure (wpAny_pure ?_))
  refine ⟨plainId_quiet FB.init.plain _, codeAny_builtin FB.initEntry ?_⟩
  exact exc_init_tree (cls := .ref C) (t0 := t) (dv := none) (c2 := .none) (c3 := .none) (b4 := .bool false) he hz fun h' k e' _ => fin h' k e'
end
theorem eval_mcall {o : Expr} {name : Str} {q2 q7 : Pos} {vals : List Expr} {q6 : Pos} (env : Env) (hpos : (q2.endLine == q7.line) = true) :
    eval (.Call (.Attribute o name q2) [.JoinedStr vals q6] [] q7) env = (do
      let ov ← attributeBase o name env (eval o env)
      standAt q2.atName
      let (f, first) ← holding [ov] (getMethod ov name (do return (← importBound o env).getD true))
      callWith q7 f first (backTo q7 (starEach [.JoinedStr vals q6] env)) []) := by
  show (do
    let ov ← attributeBase o name env (eval o env)
    standAt q2.atName
    methodCall o name q2 q7 env ov 1 (backTo q7 (starEach [.JoinedStr vals q6] env)) []) = _
  have hf : methodCallForm 1 (backTo q7 (starEach [.JoinedStr vals q6] env)) [] = true := by rfl
  unfold methodCall methodCallPos calleeOf
  simp only [hf, hpos, Bool.not_true, Bool.false_or, if_true, pure_bind]
/-! ### the body, as it stands in the text -/
def initBody (pre part attr : Str) (j : Nat) (q0 q1 q2 q3 q4 q5 q6 q7 q8 q9 q10 q11 q12 : Pos) : List Stmt :=
  [.Expr (.Call (.Attribute (.Call (.Name "super" q0) [] [] q1) "__init__" q2) [.JoinedStr [.Constant (.str pre) j q3, .FormattedValue (.Name part q4) (-1) none q5] q6] [] q7) q8,
   .Assign [.Attribute (.Name "self" q9) attr q10] (.Name part q11) q12]
abbrev initScope (nms : List (Str × NameKind)) : Scope := { kind := .function, names := nms, isGenerator := false, isCoroutine := false, more := [] }
/-- what is known of such an __init__, written -/
structure InitK (P : Program) (K : PySem.W.Frag) (mg : Str → Option Value) (C fI : Addr) (part attr : Str) (fd : FuncData) : Prop where
  ex : ∃ (oc ccl cl0 dV kV doc pm ct : Value) (od cdd cld : Option Addr) (an : Option Addr) (osl ccs csl : Array (Option Value)) (cc cda : Addr) (qual pre file : Str) (tf : Tok) (params : Arguments) (nms : List (Str × NameKind)) (vs : Array Value) (j : Nat) (q0 q1 q2 q3 q4 q5 q6 q7 q8 q9 q10 q11 q12 : Pos),
    fd = PySem.W.ksFn "__init__" qual params (initBody pre part attr j q0 q1 q2 q3 q4 q5 q6 q7 q8 q9 q10 q11 q12) (initScope nms) dV kV doc pm an (.ref cda) ct cc ∧
    K.lookup fI = some ⟨oc, od, .func fd, osl⟩ ∧ PySem.W.codeIn K (.ref cda) qual = true ∧
    K.lookup cda = some ⟨ccl, cdd, .fields vs, ccs⟩ ∧ vs[2]? = some (.str file tf) ∧ ((P.main.file : Str) == file) = true ∧
    K.lookup cc = some ⟨cl0, cld, .cell (some (.ref C)), csl⟩ ∧
    NScope ["self", part, "__class__"] ["self", part] ["__class__"] (initScope nms) ∧ nms.lookup ("super" : Str) = some .globalImplicit ∧
    (q2.endLine == q7.line) = true ∧ (∃ ar : Arg, (params.posonlyargs ++ params.args).head? = some ar ∧ ar.arg = ("self" : Str)) ∧ pre.length ≤ 1000
  sup : mg "super" = none
  top : (P.main.scope.names.lookup ("super" : Str)).isSome = false
  cls : OexC K C
  along : ∃ cd, PySem.W.clsIn K C = some cd ∧ PySem.W.alongIn K "__init__" ((cd.mro.dropWhile (· != .ref C)).drop 1) = some (some (.builtin "ValueError.__init__"))
  ve : PySem.W.subIn K (.ref C) (.type "ValueError") = some true
  third : PySem.W.nsIn K cStatics "thirdparty.any" = some none
  no : PySem.W.findIn K (.ref C) attr = some none
  self : PySem.W.mroIn K C (.ref C) = some true
  dbg : (part == ("__debug__" : Str)) = false
  cdc : (part == ("__classdict__" : Str)) = false
section
variable {P : Program} {w : World} {K : PySem.W.Frag} {mg : Str → Option Value} {base : Heap} {CX : CXT} {C fI : Addr} {part attr : Str} {fd : FuncData}
theorem init_run (IK : InitK P K mg C fI part attr fd) (A : Around) (outer : List Env) (s : Shared) (H : Hp) (args : Args) (us : List Value) (a : Addr) (y : V) (Q : VK) (E : XK) (hr : Room 1 A) (e0 : Env0 P w K mg base A outer s H)
    (hb : BindsTo s fd args ((["self", part] : List Str).zip us)) (hv : Vals [.ref a, y] us) (ha : H a = some (exo a C none)) (hf : ∀ env : Env, Fmt P w (A.deeper env) H y)
    (hq : ∀ d, H d = none → d ≠ a → Q .non (upd (upd H d (exd d [(attr, y)])) a (exo a C (some d)))) :
    codeAny (model P w) A (.call (.ref fI) args) (CR CX outer P w H s Q E) s := by
  obtain ⟨oc, ccl, cl0, dV, kV, doc, pm, ct, od, cdd, cld, an, osl, ccs, csl, cc, cda, qual, pre, file, tf, params, nms, vs, j, q0, q1, q2, q3, q4, q5, q6, q7, q8, q9, q10, q11, q12, rfl, lk, hcd, hcode, hvs, hfile, hcell, S, hks, hpos, ⟨ar, har, har2⟩, hpre⟩ := IK.ex
  obtain ⟨cd, hcls, hal⟩ := IK.along
  have KX : K.In s.heap := e0.mod.kin.keeps fun b o e => (e0.bs b o e).1
  have lim : s.heap.NoLimit := e0.mod.nolimit.keeps fun b o e => (e0.bs b o e).1
  have hkc : nms.lookup ("__class__" : Str) = some .free := S.frk _ (by simp)
  refine PySem.ks_codeAny_call_defAt (binds := (["self", part] : List Str).zip us) hr.depth (KX _ _ lk) rfl lim (PySem.W.codeRec_of KX hcd) rfl hb S.nocell (fun ⟨n, _⟩ hy => S.par n (List.of_mem_zip hy).1) (fun h₁ hns kp => ?_) S.co S.gen S.kind
  let F : NF := ⟨"__init__", qual, params, initBody pre part attr j q0 q1 q2 q3 q4 q5 q6 q7 q8 q9 q10 q11 q12, initScope nms, [("__class__", cc)], cda⟩
  let X : Cx := ncx CX P w K mg base ["self", part, "__class__"] F fI A outer s H E
  have C0 : CellsAt F.cl ["__class__"] [none] s.heap H := by
    have hn : ∀ y c, List.lookup y F.cl = some c → y = "__class__" ∧ c = cc := fun y c e => by
      have e : List.lookup y [(("__class__" : Str), cc)] = some c := e
      simp only [List.lookup] at e
      split at e
      · rename_i z
        cases e
        exact ⟨by simpa using z, rfl⟩
      · cases e
    have hbase : base.get? cc = some ⟨cl0, cld, .cell (some (.ref C)), csl⟩ := e0.mod.kin _ _ hcell
    refine ⟨rfl, fun y c e => ?_, fun x y c e1 e2 => ?_, fun i y e => ?_⟩
    · obtain ⟨rfl, rfl⟩ := hn y c e
      exact ⟨(e0.bs _ _ hbase).2, _, _, (e0.bs _ _ hbase).1, rfl⟩
    · rw [(hn x c e1).1, (hn y c e2).1]
    · refine ⟨cc, ?_, fun v hv => ?_⟩
      · cases i with
        | zero =>
          cases e
          simp [F, List.lookup]
        | succ i => simp at e
      · cases i <;> simp at hv
  have I : Inv X [] (startF ["self", part, "__class__"] [.ref a, y] [none]) H { s with heap := h₁, toks := s.toks + ((["self", part] : List Str).zip us).length } := inv_startN S hr.hd e0 rfl hv C0 hns kp
  obtain ⟨nm, qn, N0, bs, bm, sn, sub, ab, col, dd0, k0, k1, k2, k3, k5, hC, hbm⟩ := IK.cls.cls
  -- super().__init__(f'..')
  refine PySem.ks_wpAt_execs_cons (PySem.ks_wpAt_Expr_any (PySem.ks_wpAt_MethodCall ?_ (eval_mcall _ hpos)))
  refine PySem.ks_wpAt_super_base (ar := ar) hks hkc (by decide +kernel) rfl (I.kIn _ _ lk) rfl har rfl (I.kIn _ _ hcode) rfl hvs hfile IK.top ?_
  obtain ⟨mb, hb1, hb2⟩ := I.mod.blt
  refine PySem.W.ks_loadName_global S.kind hks (Calls.loadGlobal_builtin (I.mod.glob.keeps I.bk) IK.sup (hb1.keeps I.bk) ((hb2 _ (by decide)).trans (by decide +kernel : bootBuiltins "super" = some (.type "super"))) ⟨rfl, ?_⟩)
  refine wpAny_loadName_free S.kind hkc (show (List.lookup ("__class__" : Str) [(("__class__" : Str), cc)]) = some cc by simp [List.lookup]) ⟨_, I.kIn _ _ hcell, rfl⟩ ?_
  rw [har2]
  obtain ⟨m, hn, hl⟩ := id I.loc
  obtain ⟨u0, ru, lu⟩ := hl 0 ("self" : Str) (.ref a) rfl rfl (.inl (S.par _ (by simp)))
  obtain rfl : u0 = Value.ref a := ru
  have hsl : nms.lookup ("self" : Str) = some .local := S.par _ (by simp)
  have hself : m ("self" : Str) = some (.ref a) := by
    rcases lu with ⟨_, z⟩ | ⟨z, _⟩
    · exact z
    · have z : nms.lookup ("self" : Str) = some .cell ∨ nms.lookup ("self" : Str) = some .free := z
      rw [hsl] at z
      rcases z with z | z <;> cases z
  refine wpAny_loadName_local S.kind hsl hn hself ?_
  obtain ⟨oD, hD1, hD2⟩ : ∃ oD, h₁.get? C = some oD ∧ oD.data = .cls cd := by
    unfold PySem.W.clsIn at hcls
    split at hcls
    · rename_i c d cd' sl ho
      cases hcls
      exact ⟨_, I.kIn _ _ ho, rfl⟩
    · cases hcls
  obtain ⟨t1, hx⟩ := exo_at I.hok ha
  have naC : a ≠ C := fun z => by
    have hb0 : base.get? C = _ := e0.mod.kin _ _ hC
    have := (e0.bs _ _ hb0).2
    rw [← z, ha] at this
    cases this
  refine PySem.ks_wpAny_isType_cls hD1 hD2 ⟨rfl, ?_⟩
  refine PySem.ks_wpAny_call_super hD1 hD2 hx rfl (fun c => by intro z; cases z) (PySem.W.looks_mroIn I.kIn IK.self) (fun h' e k => ?_)
  have I2 : Inv X [] (startF ["self", part, "__class__"] [.ref a, y] [none]) H { s with heap := h', toks := s.toks + ((["self", part] : List Str).zip us).length } := I.kept k
  obtain ⟨t2, hx2⟩ := exo_at I2.hok ha
  have IA : PySem.W.InstAt h' a (PySem.W.excObj C t2 none .none) C none := ⟨hx2, rfl, rfl, trivial⟩
  refine PySem.W.kxs_getMethod PySem.W.kxs_ValueError e (PySem.W.looks_opaque I2.kIn IK.third) (fun A Q E s k q => wpAny_bind ((PySem.W.looks_clsIn I2.kIn hcls) A _ E s k (wpAny_pure q))) rfl I2.kIn hal (IA.type.andThen (PySem.W.looks_subIn I2.kIn IK.ve)) naC (by decide +kernel) ?_
  have kp3 : ∀ b o, h'.get? b = some o → (h'.push (PySem.W.kxs_mw "ValueError.__init__" a)).get? b = some o := fun b o e => Heap.get?_push_of_some _ e
  have I3 : Inv X [(h'.objs.size, PySem.W.kxs_mw "ValueError.__init__" a)] (startF ["self", part, "__class__"] [.ref a, y] [none]) H { s with heap := h'.push (PySem.W.kxs_mw "ValueError.__init__" a), toks := s.toks + ((["self", part] : List Str).zip us).length + 1 } :=
    (I2.kept (t' := s.toks + ((["self", part] : List Str).zip us).length + 1) kp3).pins_of fun p hp => by
      obtain rfl := List.mem_singleton.mp hp
      have hnew : h'.objs.size ≤ h'.objs.size := Nat.le_refl _
      refine ⟨Heap.get?_push_size _ rfl, I2.hok.fresh hnew, fun z => ?_, I2.nofs hnew, fun v z => by cases z⟩
      have := I2.lt
      rw [← z] at this
      exact absurd this (Nat.lt_irrefl _)
  refine PySem.W.kxs_callWith (i := "ValueError.__init__") (x := a) rfl ?_
  refine Calls.evalArgs_plain ?_
  have hpj : PA X [.JoinedStr [.Constant (.str pre) j q3, .FormattedValue (.Name part q4) (-1) none q5] q6] _ :=
    pa_cons (pe_joined (PJ.cons pe_str (PJ.cons (pe_fmtA (pe_var (i := 1) rfl (.inl (S.par _ (by simp))) IK.dbg IK.cdc)) PJ.nil))) pa_nil
  refine wpAny_mono (hpj.run q7 _ _ _ H (fun vs1 H1 => H1 = H ∧ vs1.length = 1) I3 ?_) (fun us1 s4 h4 => ?_) fun er s' h' => h'
  · -- the text
    refine ⟨_, rfl, by rw [strLen_append]; rw [sizeLine_eq]; show 0 + pre.length ≤ _; omega, _, rfl, hf _, fun z hz => ⟨z, rfl, ?_, rfl, rfl⟩⟩
    rw [strLen_append, strLen_append, sizeLine_eq]
    show 0 + pre.length + z.length ≤ _
    omega
  obtain ⟨vs1, H1, I4, r4, rfl, hl4⟩ := h4
  have hu4 := (I4.pin (h'.objs.size, PySem.W.kxs_mw "ValueError.__init__" a) (by simp)).1
  obtain ⟨t4, hx4⟩ := exo_at I4.hok ha
  have hC4 := I4.kIn _ _ hC
  have hlen : us1.length ≤ sizeLine := by
    rw [← Paired.length r4, hl4, sizeLine_eq]
    omega
  obtain ⟨h4, g4, d4, tk4, os4⟩ := s4
  refine ⟨hu4, call_mw PySem.F.excBase_ValueError hC4 hu4 hx4 hlen fun h5 k5 e5 => ?_⟩
  have J := I4.write (t' := tk4) (x := a) (e := a) (o := exo a C none) (by rw [ha]; exact True.intro) (.inl rfl) k5 ⟨_, e5⟩ (exo_ok e5)
  have eu : upd H1 a (exo a C none) = H1 := by
    funext b
    by_cases hb : b = a
    · rw [hb, upd_same, ha]
    · rw [upd_ne hb]
  rw [eu] at J
  have I5 : Inv X [] (startF ["self", part, "__class__"] [.ref a, y] [none]) H1 ⟨h5, g4, d4, tk4, os4⟩ := J.pins_of fun p hp => by cases hp
  -- self.part = part
  refine wpAt_of_wpAny ?_
  have hps : PSs X [.Assign [.Attribute (.Name "self" q9) attr q10] (.Name part q11) q12] _ :=
    pss_one (ps_ost (pe_var (i := 0) rfl (.inl hsl)) (pe_var (i := 1) rfl (.inl (S.par _ (by simp))) IK.dbg IK.cdc))
  refine wpAny_mono (hps.run [] _ _ H1 { nx := fun _ H' => Q .non H', rt := Q } I5 ⟨y, rfl, .ref a, rfl, a, C, rfl, IK.cls, IK.no, .inl ⟨ha, fun dx n ne => hq dx n ne⟩⟩) (fun fl s' hs => ?_) fun e s' hs => hs
  cases fl with
  | ret u =>
    obtain ⟨v, σ', H', J, rv, q⟩ := hs
    exact ⟨v, H', J.os, J.bare, J.base, J.hok, rv, q⟩
  | next =>
    obtain ⟨σ', H', J, q⟩ := hs
    exact ⟨.non, H', J.os, J.bare, J.base, J.hok, rfl, q⟩
  | brk =>
    obtain ⟨_, _, _, q⟩ := hs
    exact False.elim q
  | cont =>
    obtain ⟨_, _, _, q⟩ := hs
    exact False.elim q
end
end Ob
end
section
set_option linter.all false
set_option maxRecDepth 100000
set_option maxHeartbeats 4000000
namespace Ob
open PySem PySem.Spec PyProof.Rows L2 NdefX
/-- an exception of the program stands at a, its class C -/
def XcAt (H : Hp) (a C : Addr) : Prop := (∃ od, H a = some (exo a C od) ∧ (od = none ∨ ∃ d fs, od = some d ∧ H d = some (exd d fs))) ∨ H a = some (ExO (.ref C) a)
section
variable {X : Cx} {pins : List (Addr × Obj)} {σ : L2.St} {H : Hp} {s : Shared} {a C : Addr}
theorem inst_of (I : Inv X pins σ H s) (h : XcAt H a C) : ∃ ox od, PySem.W.InstAt s.heap a ox C od := by
  rcases h with ⟨od, ha, rfl | ⟨d, fs, rfl, hd⟩⟩ | ha
  · obtain ⟨t, ho⟩ := exo_at I.hok ha
    exact ⟨_, none, ho, rfl, rfl, trivial⟩
  · obtain ⟨t, ho⟩ := exo_at I.hok ha
    obtain ⟨mA, ⟨od, es, ep, hod, _⟩, _⟩ := exd_at I.hok hd
    exact ⟨_, some od, ho, rfl, rfl, hod⟩
  · obtain ⟨⟨oe, vs, ho, ⟨hc, hd⟩, hv, _⟩, _, _⟩ := I.hok a _ ha
    obtain ⟨oc, od, oda, osl⟩ := oe
    dsimp only at hc hd hv
    subst hc hd hv
    exact ⟨_, none, ho, rfl, rfl, trivial⟩
/-- isinstance(e, c), e such an exception -/
def rIsX (K : PySem.W.Frag) : List V → Hp → VK → Prop := fun xs H Q => ∃ (a C : Addr) (c : V) (cv : Value) (b : Bool), xs = [.ref a, c] ∧ XcAt H a C ∧ ExcC K C ∧ (∀ u, RelV c u → u = cv) ∧ PySem.W.kitOne K (.ref C) cv = some b ∧ Q (.bl b) H
theorem call_isX : CallR X (.builtin "isinstance") (rIsX X.K) := by
  intro pins s σ H xs us Q I r h
  obtain ⟨a, C, c, cv, b, rfl, hx, T, hcv, e, q⟩ := h
  cases r with
  | cons rx rr =>
    cases rr with
    | cons rt rr =>
      cases rr
      cases rx
      have ec := hcv _ rt
      subst ec
      obtain ⟨ox, od, J⟩ := inst_of I hx
      obtain ⟨cd, hcd, _⟩ := PySem.W.any_some T.hd
      exact PySem.W.kia_one (PySem.W.kitx_exc (by rw [hcd]; rfl) T.hg T.hk T.hs T.ha T.hn T.ht T.hm) I.kIn J e (fun z => nomatch z) fun tk => ⟨.bl b, H, I.kept (t' := tk) fun _ _ z => z, rfl, q⟩
/-- e.f, e an exception with its own dict -/
def tXfV (K : PySem.W.Frag) (f : Str) (te : TE) : TE := fun σ H Q => te σ H fun x H1 => ∃ (a C d : Addr) (fs : List (Str × V)) (v : V), x = .ref a ∧ H1 a = some (exo a C (some d)) ∧ H1 d = some (exd d fs) ∧ XfC K C ∧ PySem.W.findIn K (.ref C) f = some none ∧ fs.lookup f = some v ∧ Q v H1
theorem pe_xfV {e : Expr} {te : TE} {pos : Pos} {n : Str} (he : PE X e te) (hb : attributeBase e n X.env (eval e X.env) = eval e X.env := by rfl) : PE X (.Attribute e n pos) (tXfV X.K n te) := by
  refine ⟨fun pins s σ H Q I h => ?_⟩
  refine attr_of hb (thn (he.run pins s σ H _ I h) fun u s1 hh => ?_)
  obtain ⟨x, H1, I1, rx, a, C, d, fs, v, ex, ha, hd, T, hno, l, q⟩ := hh
  subst ex
  obtain rfl : u = Value.ref a := rx
  obtain ⟨t, ho⟩ := exo_at I1.hok ha
  obtain ⟨mA, hns, hr⟩ := exd_at I1.hok hd
  obtain ⟨od, hod, hl⟩ := lookIn_ns hns
  obtain ⟨u, hu, ru⟩ := RelO.some_of (v := v) (o := mA n) (by rw [← l]; exact hr n)
  have J : PySem.W.InstAt s1.heap a _ C (some od) := ⟨ho, rfl, rfl, hod⟩
  exact HandSPX.exc_get I1.kIn J T.ga T.gg T.exC (PySem.W.findObj_own T.hdC hno rfl (by rw [hl, hu])) (handed_of ru) ⟨v, H1, I1.tok _, ru, q⟩
/-- X(e) as a value, X with an __init__ of the form of InitK -/
def tExcV (X : Cx) (C : Addr) (attr : Str) (ta : TA) : TE := fun σ H Q => ta σ H fun vs H1 => ∃ y, vs = [y] ∧ vs.length ≤ 1000 ∧
  (∀ a env us, H1 a = none → Fmt X.prog X.w ((X.A.under (.builtin "type.__call__" ⟨.ref C :: us, []⟩)).deeper env) (upd H1 a (exo a C none)) y) ∧
  ∀ a d, H1 a = none → H1 d = none → d ≠ a → Q (.ref a) (upd (upd H1 d (exd d [(attr, y)])) a (exo a C (some d)))
theorem pe_excV {x part attr : Str} {C fI : Addr} {fd : FuncData} {e : Expr} {ta : TA} {p pos : Pos} (IK : InitK X.prog X.K X.mg C fI part attr fd) (iC : PySem.W.findIn X.K (.ref C) "__init__" = some (some (.ref fI))) (tI : PySem.W.typeIn X.K (.ref fI) = some (.type "function"))
    (hr : Room 2 X.A) (hb : Binds X.K fd ["self", part] []) (hx : Passes CX0 X (fun _ _ _ => False)) (hg : Gl X x) (hm : X.mg x = some (.ref C)) (ha : PA X [e] ta)
    (hdb : (x == ("__debug__" : Str)) = false := by decide) (he : starEach [e] X.env = (false, eval e X.env) :: starEach [] X.env := by rfl) (hpl : (backTo pos (starEach [] X.env)).any (·.1) = false := by rfl) :
    PE X (.Call (.Name x p) [e] [] pos) (tExcV X C attr ta) := by
  refine ⟨fun pins s σ H Q I h => ?_⟩
  obtain ⟨nm, q, N, bs, bm, sn, sub, ab, col, dd, k0, k1, k2, k3, k5, hC, hbm⟩ := IK.cls.cls
  refine wpAny_Call_Name_kw (ld_glob I hg hm ?_ hdb)
  refine PySem.W.callWith_K (h₀ := X.base) I.ok.mod.kin IK.cls.kC (thn (ha.run pos pins s σ H _ I h) fun us s1 ⟨vs, H1, I1, r1, y, ey, hz, hf, q1⟩ => ⟨I1.kIn, ?_⟩) he hpl
  show wpAny _ _ (call (.ref C) us) _ _ _
  subst ey
  obtain ⟨hp, g, dr, tk, os⟩ := s1
  have hsz : hp.objs.size ≤ hp.objs.size + 1 := Nat.le_succ _
  have hn : H1 (hp.objs.size + 1) = none := I1.hok.fresh hsz
  have kk : ∀ b o, hp.get? b = some o → ((hp.push (PySem.W.kdv_tup us)).push (PySem.HandSPX.excO C hp.objs.size)).get? b = some o := fun b o e => Heap.get?_push_of_some _ (Heap.get?_push_of_some _ e)
  have hget : ((hp.push (PySem.W.kdv_tup us)).push (PySem.HandSPX.excO C hp.objs.size)).get? (hp.objs.size + 1) = some (PySem.HandSPX.excO C hp.objs.size) := by heap_get
  have I2 : Inv X pins σ (upd H1 (hp.objs.size + 1) (exo (hp.objs.size + 1) C none)) ⟨(hp.push (PySem.W.kdv_tup us)).push (PySem.HandSPX.excO C hp.objs.size), g, dr, tk, os⟩ :=
    I1.laid (t' := tk) (a := hp.objs.size + 1) (o := exo (hp.objs.size + 1) C none) (h' := (hp.push (PySem.W.kdv_tup us)).push (PySem.HandSPX.excO C hp.objs.size)) kk hsz (exo_ok hget)
  have r2 : Vals [V.ref (hp.objs.size + 1), y] (Value.ref (hp.objs.size + 1) :: us) := .cons rfl r1
  have hus : us.length ≤ sizeLine := by
    rw [← Paired.length r1, sizeLine_eq]
    omega
  have hb2 : BindsTo ⟨(hp.push (PySem.W.kdv_tup us)).push (PySem.HandSPX.excO C hp.objs.size), g, dr, tk, os⟩ fd ⟨Value.ref (hp.objs.size + 1) :: us, []⟩ ((["self", part] : List Str).zip (Value.ref (hp.objs.size + 1) :: us)) := by
    have := hb ⟨(hp.push (PySem.W.kdv_tup us)).push (PySem.HandSPX.excO C hp.objs.size), g, dr, tk, os⟩ (Value.ref (hp.objs.size + 1) :: us) I2.kIn (by rw [List.append_nil]; exact r2.length.symm)
    rw [List.append_nil] at this
    exact this
  refine wpAny_call (PySem.HandSPX.call_own F.excBase_ValueError (fun Y => PySem.HandSPX.refsVE_contains Y bm hbm) (I1.kIn _ _ hC) (PySem.W.looks_findIn I1.kIn iC) (fun self => PySem.W.bind_fn I1.kIn self tI) hus
    (codeAny_mono (init_run (CX := CX0) (Q := fun v H2 => v = .non ∧ Q (.ref (hp.objs.size + 1)) H2) (E := fun _ _ _ => False) IK _ X.stack _ _ _ (Value.ref (hp.objs.size + 1) :: us) (hp.objs.size + 1) y (hr.make C us []) (I2.env0.make C us []) hb2 r2 upd_same (fun env => hf _ env us hn) ?_) fun r s' hq' => ?_))
  · intro d hd hne
    refine ⟨rfl, ?_⟩
    have hd1 : H1 d = none := by
      rw [upd_ne hne] at hd
      exact hd
    have e1 : upd (upd (upd H1 (hp.objs.size + 1) (exo (hp.objs.size + 1) C none)) d (exd d [(attr, y)])) (hp.objs.size + 1) (exo (hp.objs.size + 1) C (some d)) = upd (upd H1 d (exd d [(attr, y)])) (hp.objs.size + 1) (exo (hp.objs.size + 1) C (some d)) := by
      funext b
      by_cases h1 : b = hp.objs.size + 1
      · rw [h1, upd_same, upd_same]
      · rw [upd_ne h1, upd_ne h1]
        by_cases h2 : b = d
        · rw [h2, upd_same, upd_same]
        · rw [upd_ne h2, upd_ne h2, upd_ne h1]
    rw [e1]
    exact q1 _ d hn hd1 hne
  · cases r with
    | error er => exact hx pins σ _ _ er s' I2 hq'
    | ok fl =>
      cases fl with
      | ret u =>
        obtain ⟨v, H2, J, rv, ev, q2⟩ := I2.after hq'
        subst ev
        exact ⟨rv, .ref (hp.objs.size + 1), H2, J, rfl, q2⟩
      | next => exact False.elim hq'
      | brk => exact False.elim hq'
      | cont => exact False.elim hq'
end
end Ob
end
section
set_option linter.all false
set_option maxRecDepth 100000
set_option maxHeartbeats 4000000
/-! raise X(e), X an error class of the program with an __init__ of the form of InitK -/
namespace Ob
open PySem PySem.Spec PyProof.Rows L2 NdefX
def tMkX (X : Cx) (C : Addr) (attr : Str) (ta : TA) : L2.St → Hp → XK → Prop := fun σ H Q => ta σ H fun vs H1 => ∃ y, vs = [y] ∧
  (∀ a env us, H1 a = none → Fmt X.prog X.w ((X.A.under (.builtin "type.__call__" ⟨.ref C :: us, []⟩)).deeper env) (upd H1 a (exo a C none)) y) ∧
  ∀ d, H1 d = none → Q (.ref C) (some d) (upd H1 d (.xd [(attr, y)]))
theorem pmk_exc {X : Cx} {x part attr : Str} {C fI : Addr} {fd : FuncData} {e : Expr} {ta : TA} {p pos : Pos} (IK : InitK X.prog X.K X.mg C fI part attr fd) (iC : PySem.W.findIn X.K (.ref C) "__init__" = some (some (.ref fI))) (tI : PySem.W.typeIn X.K (.ref fI) = some (.type "function"))
    (hr : Room 2 X.A) (hb : Binds X.K fd ["self", part] []) (hx : Passes CX0 X (fun _ _ _ => False)) (hg : Gl X x) (hm : X.mg x = some (.ref C)) (ha : PA X [e] ta)
    (hdb : (x == ("__debug__" : Str)) = false := by decide) (he : starEach [e] X.env = (false, eval e X.env) :: starEach [] X.env := by rfl) (hpl : (backTo pos (starEach [] X.env)).any (·.1) = false := by rfl) :
    PMk X (.Call (.Name x p) [e] [] pos) (tMkX X C attr ta) := by
  intro pins s σ H Q I h
  obtain ⟨nm, q, N, bs, bm, sn, sub, ab, col, dd, k0, k1, k2, k3, k5, hC, hbm⟩ := IK.cls.cls
  refine wpAny_Call_Name_kw (ld_glob I hg hm ?_ hdb)
  refine PySem.W.callWith_K (h₀ := X.base) I.ok.mod.kin IK.cls.kC (thn (ha.run pos pins s σ H _ I h) fun us s1 ⟨vs, H1, I1, r1, y, ey, hf, q1⟩ => ⟨I1.kIn, ?_⟩) he hpl
  show wpAny _ _ (call (.ref C) us) _ _ _
  subst ey
  obtain ⟨hp, g, dr, tk, os⟩ := s1
  have hsz : hp.objs.size ≤ hp.objs.size + 1 := Nat.le_succ _
  have hn : H1 (hp.objs.size + 1) = none := I1.hok.fresh hsz
  have kk : ∀ b o, hp.get? b = some o → ((hp.push (PySem.W.kdv_tup us)).push (PySem.HandSPX.excO C hp.objs.size)).get? b = some o := fun b o e => Heap.get?_push_of_some _ (Heap.get?_push_of_some _ e)
  have hget : ((hp.push (PySem.W.kdv_tup us)).push (PySem.HandSPX.excO C hp.objs.size)).get? (hp.objs.size + 1) = some (PySem.HandSPX.excO C hp.objs.size) := by heap_get
  have I2 : Inv X pins σ (upd H1 (hp.objs.size + 1) (exo (hp.objs.size + 1) C none)) ⟨(hp.push (PySem.W.kdv_tup us)).push (PySem.HandSPX.excO C hp.objs.size), g, dr, tk, os⟩ :=
    I1.laid (t' := tk) (a := hp.objs.size + 1) (o := exo (hp.objs.size + 1) C none) (h' := (hp.push (PySem.W.kdv_tup us)).push (PySem.HandSPX.excO C hp.objs.size)) kk hsz (exo_ok hget)
  have r2 : Vals [V.ref (hp.objs.size + 1), y] (Value.ref (hp.objs.size + 1) :: us) := .cons rfl r1
  have hus : us.length ≤ sizeLine := by
    have : us.length = 1 := (Paired.length r1).symm
    rw [this, sizeLine_eq]
    omega
  have hb2 : BindsTo ⟨(hp.push (PySem.W.kdv_tup us)).push (PySem.HandSPX.excO C hp.objs.size), g, dr, tk, os⟩ fd ⟨Value.ref (hp.objs.size + 1) :: us, []⟩ ((["self", part] : List Str).zip (Value.ref (hp.objs.size + 1) :: us)) := by
    have := hb ⟨(hp.push (PySem.W.kdv_tup us)).push (PySem.HandSPX.excO C hp.objs.size), g, dr, tk, os⟩ (Value.ref (hp.objs.size + 1) :: us) I2.kIn (by rw [List.append_nil]; exact r2.length.symm)
    rw [List.append_nil] at this
    exact this
  let a0 : Addr := hp.objs.size + 1
  refine wpAny_call (PySem.HandSPX.call_own F.excBase_ValueError (fun Y => PySem.HandSPX.refsVE_contains Y bm hbm) (I1.kIn _ _ hC) (PySem.W.looks_findIn I1.kIn iC) (fun self => PySem.W.bind_fn I1.kIn self tI) hus
    (codeAny_mono (init_run (CX := CX0) (Q := fun v H2 => v = .non ∧ ∃ d, H1 d = none ∧ d ≠ a0 ∧ H2 = upd (upd (upd H1 a0 (exo a0 C none)) d (exd d [(attr, y)])) a0 (exo a0 C (some d))) (E := fun _ _ _ => False) IK _ X.stack _ _ _ (Value.ref (hp.objs.size + 1) :: us) (hp.objs.size + 1) y (hr.make C us []) (I2.env0.make C us []) hb2 r2 upd_same (fun env => hf _ env us hn) ?_) fun r s' hq' => ?_))
  · intro d hd hne
    refine ⟨rfl, d, ?_, hne, rfl⟩
    rw [upd_ne hne] at hd
    exact hd
  · cases r with
    | error er => exact hx pins σ _ _ er s' I2 hq'
    | ok fl =>
      cases fl with
      | ret u =>
        obtain ⟨v, H2, os2, bare2, un2, hok2, rv, ev, d, hd1, hne, eH⟩ := hq'
        subst ev eH
        obtain ⟨h2, g2, d2, t2, os'⟩ := s'
        have ea : upd (upd (upd H1 a0 (exo a0 C none)) d (exd d [(attr, y)])) a0 (exo a0 C (some d)) a0 = some (exo a0 C (some d)) := upd_same
        have ed : upd (upd (upd H1 a0 (exo a0 C none)) d (exd d [(attr, y)])) a0 (exo a0 C (some d)) d = some (exd d [(attr, y)]) := by rw [upd_ne hne, upd_same]
        have eq2 : upd (del (upd (upd (upd H1 a0 (exo a0 C none)) d (exd d [(attr, y)])) a0 (exo a0 C (some d))) a0) d (.xd [(attr, y)]) = upd H1 d (.xd [(attr, y)]) := by
          funext b
          by_cases hb : b = d
          · rw [hb, upd_same, upd_same]
          · rw [upd_ne hb, upd_ne hb]
            by_cases hb2 : b = a0
            · rw [hb2, del_same]
              exact hn.symm
            · rw [del_ne hb2, upd_ne hb2, upd_ne hb, upd_ne hb2]
        exact ⟨rv, mk_end (raises_own IK.cls.exC IK.cls.tyC) I1 hsz kk un2 hok2 os2 bare2 ea ed hd1 (by rw [eq2]; exact q1 d hd1)⟩
      | next => exact False.elim hq'
      | brk => exact False.elim hq'
      | cont => exact False.elim hq'
end Ob
end
section
set_option linter.all false
set_option maxRecDepth 100000
set_option maxHeartbeats 4000000
/-! try: .. except X as n: y = n -- the caught error is kept, and known from then on -/
namespace Ob
open PySem PySem.Spec PyProof.Rows L2
/-- at a: a caught exception of the class cls, its own dict at d -/
def Cgt (cls : Value) (d : Option Addr) (a : Addr) : HO := .ext fun h => ∃ (oe : Obj) (vs : Array Value), h.get? a = some oe ∧ Zc cls d oe ∧ oe.data = .fields vs
theorem cgt_ok {P : Program} {w : World} {H : Hp} {h : Heap} {a : Addr} {cls : Value} {d : Option Addr} {oe : Obj} {vs : Array Value} (e : h.get? a = some oe) (z : Zc cls d oe) (f : oe.data = .fields vs) : ObjOk P w H h a (Cgt cls d a) :=
  ⟨⟨oe, vs, e, z, f⟩, ⟨oe, e⟩, fun h1 h2 ⟨o, v, q, r⟩ k => ⟨o, v, k o q, r⟩⟩
theorem cgt_at {P : Program} {w : World} {H : Hp} {h : Heap} {a : Addr} {cls : Value} {d : Option Addr} (ok : HOk P w H h) (e : H a = some (Cgt cls d a)) : ∃ (oe : Obj) (vs : Array Value), h.get? a = some oe ∧ Zc cls d oe ∧ oe.data = .fields vs := by
  have x : ObjOk P w H h a (.ext fun h => ∃ (oe : Obj) (vs : Array Value), h.get? a = some oe ∧ Zc cls d oe ∧ oe.data = .fields vs) := ok a _ e
  exact x.1
section
variable {X : Cx} {pins : List (Addr × Obj)} {σ : L2.St} {H : Hp} {s : Shared}
/-- an object that stands there since the entry is known from now on -/
theorem inv_know {a : Addr} {φ : Heap → Prop} (I : Inv X pins σ H s) (n : H a = none) (n0 : X.s_0.heap.get? a = none) (nL : a ≠ X.env.locals) (nC : ∀ x c, X.env.cells.lookup x = some c → c ≠ a) (nP : ∀ p ∈ X.pn ++ pins, p.1 ≠ a)
    (new : ObjOk X.prog X.w (upd H a (.ext φ)) s.heap a (.ext φ)) : Inv X pins σ (upd H a (.ext φ)) s := by
  have away : ∀ b u, H b = some u → b ≠ a := fun b u e => ne_of_none e n |> fun z => z
  have old : ∀ b o, X.s_0.heap.get? b = some o → b ≠ a := fun b o e z => by
    rw [z, n0] at e
    cases e
  refine ⟨I.ok, I.os, I.bare, ⟨I.base.keep, I.base.slot, fun b o e q x => ?_, I.base.there, fun b xs e => ?_, fun b o u e => ?_, fun b ps e => ?_⟩, I.loc, I.cell, ?_, fun x c e => ?_, fun p hp => ?_, fun b u e => ?_, I.len⟩
  · rw [upd_ne (old b o e)]
    exact I.base.free b o e q x
  · have z := I.base.tups b xs e
    rw [upd_ne (away b _ z)]
    exact z
  · have z := I.base.frzs b o u e
    rw [upd_ne (away b _ z)]
    exact z
  · obtain ⟨m, z⟩ := I.base.tbls b ps e
    exact ⟨m, by rw [upd_ne (away b _ z)]; exact z⟩
  · rw [upd_ne (Ne.symm nL)]
    exact I.free
  · rw [upd_ne (nC x c e)]
    exact I.freeC x c e
  · obtain ⟨q1, q2, q3⟩ := I.pin p hp
    exact ⟨q1, by rw [upd_ne (nP p hp)]; exact q2, q3⟩
  · by_cases hb : b = a
    · subst hb
      rw [upd_same] at e
      cases e
      exact new
    · rw [upd_ne hb] at e
      exact (I.hok b u e).stay (fun c v _ q => q) (fun c q => by rw [upd_ne (away c _ q)]; exact q) fun c xs q => by rw [upd_ne (away c _ q)]; exact q
end
/-- what is wished of an exception of the body: the class c names it; slot i is n's, slot j is y's -/
def wKeep (K : PySem.W.Frag) (c : Value) (i j : Nat) (D : Ends) : WX := fun cls d σ H => PySem.W.exmOne K cls c = some true ∧ ∀ a, H a = none → D.nx (((σ.set i (some (.ref a))).set j (some (.ref a))).set i none) (upd H a (Cgt cls d a))
theorem ps_try_keep {X : Cx} {x n y : Str} {c : Value} {i j : Nat} {body : List Stmt} {np yp mp ap pos pos' : Pos} {tb : WX → TS} (hs : X.stack = X.env :: X.outer) (hf : X.env.frame = some X.env.locals) (hex : X.ex = []) (hN : X.N.Nodup) (hi : X.N[i]? = some n) (hj : X.N[j]? = some y)
    (hln : X.env.kindOf n = some .local) (hly : X.env.kindOf y = some .local) (hdn : (n == ("__debug__" : Str)) = false) (hcn : (n == ("__classdict__" : Str)) = false) (hc : Names X x c)
    (hb : ∀ (W : WX) (pn : List (Addr × Obj)) (xe : Value → Shared → Prop), Takes (X.tr pn xe) W → PassesOwn (model X.prog X.w) X.A X.env xe → PSs (X.tr pn xe) body (tb W)) :
    PS X (.Try body [.ExceptHandler (some (.Name x np)) (some n) [.Assign [.Name y yp] (.Name n mp) ap] pos'] [] [] pos) (fun D σ H => tb (wKeep X.K c i j D) D σ H) := by
  refine ⟨fun pins s σ H D I h => ?_⟩
  have ok := I.ok
  have frames : X.A.frames = some (X.env :: X.outer) := ok.frames.trans (by rw [hs])
  let after : Value → Shared → Prop := fun e s1 => wpAny (model X.prog X.w) X.A (noteFrame e X.env) (fun _ s2 => wpAny (model X.prog X.w) X.A (setFlight e none)
    (fun _ s3 => wpAny (model X.prog X.w) X.A (handleBy e X.env [.ExceptHandler (some (.Name x np)) (some n) [.Assign [.Name y yp] (.Name n mp) ap] pos']) (SP X pins D) X.xe s3) X.xe s2) X.xe s1
  have caught : Takes (X.tr (X.pn ++ pins) after) (wKeep X.K c i j D) := by
    rintro u s1 ⟨a, B, sI, pins1, σ1, H1, cls, d, rfl, J0, ground, grown, sky, na, os1, bare1, isIt, go⟩
    have J : Inv X pins σ1 H1 sI := J0.ofTry ok
    show wpAny (model X.prog X.w) X.A (noteFrame (.ref a) X.env) _ _ _
    refine Sky.land Zc.steady frames hf (by rw [← hs]; exact sky) fun h3 fly3 up3 => ?_
    have J3 : Inv X pins σ1 H1 { s1 with heap := h3 } := J.landed ground fly3.1 (grown.trans up3) os1 bare1
    obtain ⟨o3, v3, e3, z3, f3⟩ := fly3.there
    have noFrame : a ∉ frs (X.env :: X.outer) := fun hm => by
      obtain ⟨_, o', e', bad⟩ := fly3.2.2.1.mem hm
      rw [e3] at e'
      cases e'
      exact bad _ f3
    have nL : a ≠ X.env.locals := fun z => noFrame (List.mem_filterMap.mpr ⟨X.env, List.mem_cons_self, by rw [hf, z]⟩)
    have nF : a ∉ X.fs := fun hm => by
      obtain ⟨v, hv, q⟩ := List.mem_filterMap.mp hm
      exact noFrame (List.mem_filterMap.mpr ⟨v, List.mem_cons_of_mem _ hv, q⟩)
    have notI : sI.heap.get? a = none := by
      cases e : sI.heap.get? a with
      | none => rfl
      | some o =>
        have z := ground a o e (by rw [hs]; exact noFrame)
        rw [fly3.2.1] at z
        cases z
    have not0 : X.s_0.heap.get? a = none := by
      cases e : X.s_0.heap.get? a with
      | none => rfl
      | some o =>
        obtain ⟨o', q⟩ := J.base.there a o e (by rw [hex]; exact fun z => nomatch z)
        rw [notI] at q
        cases q
    have S3 := J3.suite e3 f3 na nL nF
    refine wpAny_handleBy_cons (codeAny_handlers_test ?_) (fun q => by cases q)
    have kind : PySem.W.Looks (model X.prog X.w) h3 (typeOf (.ref a)) cls := fun A Q E s k q => wpAny_typeOf_ref (k _ _ e3) (by rw [z3.1]; exact q)
    have named : ∀ {Q : Value → Shared → Prop} {E : Value → Shared → Prop}, Q c { s1 with heap := h3 } → wpAny (model X.prog X.w) (X.A.mark (some (.ref a))) (eval (.Name x np) X.env) Q E { s1 with heap := h3 } := by
      intro Q E q
      obtain ⟨g1, g2, g3 | ⟨g3, g4, g5⟩⟩ := hc
      · exact ld_glob (X := X.suite a ((a, o3) :: (X.pn ++ pins))) S3 g1 g3 q g2
      · exact ld_blt (X := X.suite a ((a, o3) :: (X.pn ++ pins))) S3 g1 g3 g4 q g5 g2
    refine named ((PySem.W.exm_one (M := model X.prog X.w) J3.kIn kind isIt).here ?_)
    refine codeAny_handlers_suite_as (HandSPX.lands_againZ fly3 fun h4 fly4 up4 => ?_)
    have J4 : Inv X pins σ1 H1 { s1 with heap := h4 } := J.landed ground fly4.1 ((grown.trans up3).trans up4) os1 bare1
    obtain ⟨o4, v4, e4, z4, f4⟩ := fly4.there
    have S4 := J4.suite e4 f4 na nL nF
    have hlocN : Loc X.env.scope n := .inl hln
    refine store_ok (X := X.suite a ((a, o4) :: (X.pn ++ pins))) (v := .ref a) S4 hN hi hlocN rfl (fun s5 S5 => ?_) (.inr hln)
    have iN : i < σ1.length := by
      rw [J.len]
      exact (List.getElem?_eq_some_iff.mp hi).1
    have suite : PSs (X.suite a ((a, o4) :: (X.pn ++ pins))) [.Assign [.Name y yp] (.Name n mp) ap] _ :=
      pss_one (ps_asg (pe_var (X := X.suite a ((a, o4) :: (X.pn ++ pins))) (i := i) hi (.inl hln) hdn hcn) (pg_name (i := j) hN hj (.inl hly) (.inr hly)))
    refine wpAny_mono (suite.run [] s5 _ H1 { nx := fun σ' H' => σ' = (σ1.set i (some (.ref a))).set j (some (.ref a)) ∧ H' = H1, rt := fun _ _ => False, bk := fun _ _ => False, ct := fun _ _ => False } S5 ⟨.ref a, by rw [List.getElem?_set_self iN], rfl, rfl⟩) (fun f s6 q => ?_) fun _ _ z => False.elim z
    cases f with
    | ret u =>
      obtain ⟨_, _, _, _, _, q⟩ := q
      exact False.elim q
    | brk =>
      obtain ⟨_, _, _, q⟩ := q
      exact False.elim q
    | cont =>
      obtain ⟨_, _, _, q⟩ := q
      exact False.elim q
    | next =>
      obtain ⟨σ6, H6, S6, eσ, eH⟩ := q
      subst eσ
      subst eH
      have here : s6.heap.get? a = some o4 := (S6.pin (a, o4) (by simp)).1
      have J6 := Inv.unsuite (X := X) (pins := pins) S6 ok
      have K6 : Inv X pins ((σ1.set i (some (.ref a))).set j (some (.ref a))) (upd H6 a (Cgt cls d a)) s6 := by
        refine inv_know J6 na not0 nL (fun v c e z => ?_) (fun p hp z => ?_) (cgt_ok here z4 f4)
        · obtain ⟨w', o', e', d'⟩ := J6.cell v c e
          rw [z, here] at e'
          cases e'
          rw [f4] at d'
          cases d'
        · have e' := (J.pin p hp).1
          rw [z, notI] at e'
          cases e'
      exact gone_ok K6 hN hi hln fun s7 J7 => ⟨_, _, J7, go a na⟩
  refine wpAny_Try_except (wpAny_mono ((hb (wKeep X.K c i j D) (X.pn ++ pins) after caught PassesOwn.looking).run [] s σ H D (I.toTry _) h) (fun f s1 q => ?_) fun e s1 z => z)
  cases f with
  | next =>
    obtain ⟨σ', H', J, q⟩ := q
    exact wpAny_execs_nil ⟨σ', H', J.ofTry ok, q⟩
  | brk =>
    obtain ⟨σ', H', J, q⟩ := q
    exact ⟨σ', H', J.ofTry ok, q⟩
  | cont =>
    obtain ⟨σ', H', J, q⟩ := q
    exact ⟨σ', H', J.ofTry ok, q⟩
  | ret u =>
    obtain ⟨v, σ', H', J, r, q⟩ := q
    exact ⟨v, σ', H', J.ofTry ok, r, q⟩
end Ob
end
section
set_option linter.all false
set_option maxRecDepth 100000
set_option maxHeartbeats 4000000
/-! a lambda as a value: made, held, handed to a def that calls it -/
namespace Ob
open PySem PySem.Spec PyProof.Rows L2 LamX
/-- at f: a lambda of that text, its cells cl, its code object at c' -/
def LamO (f : Addr) (q : Str) (params : Arguments) (body : Expr) (scope : Scope) (cl : List (Str × Addr)) (c' : Addr) : HO := .ext fun h => ∃ pm ctv, h.get? f = some (PySem.W.kla_obj "<lambda>" q params body scope cl pm c' ctv)
theorem lamO_ok {P : Program} {w : World} {H : Hp} {h : Heap} {f c' : Addr} {q : Str} {params : Arguments} {body : Expr} {scope : Scope} {cl : List (Str × Addr)} {pm ctv : Value} (e : h.get? f = some (PySem.W.kla_obj "<lambda>" q params body scope cl pm c' ctv)) : ObjOk P w H h f (LamO f q params body scope cl c') :=
  ⟨⟨pm, ctv, e⟩, ⟨_, e⟩, fun h1 h2 ⟨a, b, z⟩ k => ⟨a, b, k _ z⟩⟩
theorem lamO_at {P : Program} {w : World} {H : Hp} {h : Heap} {f c' : Addr} {q : Str} {params : Arguments} {body : Expr} {scope : Scope} {cl : List (Str × Addr)} (ok : HOk P w H h) (e : H f = some (LamO f q params body scope cl c')) : ∃ pm ctv, h.get? f = some (PySem.W.kla_obj "<lambda>" q params body scope cl pm c' ctv) := by
  have x : ObjOk P w H h f (.ext fun h => ∃ pm ctv, h.get? f = some (PySem.W.kla_obj "<lambda>" q params body scope cl pm c' ctv)) := ok f _ e
  exact x.1
abbrev lq (X : Cx) : Str := X.env.qual ++ "<lambda>"
section
variable {X : Cx} {pins : List (Addr × Obj)} {σ : L2.St} {H : Hp} {s : Shared}
theorem lam_value {T : List (Addr × Str)} {c P : Addr} {params : Arguments} {body : Expr} {scope : Scope} {pos : Pos} {E Q : Value → Shared → Prop} (I : Inv X pins σ H s) (TB : TabB X.base X.mg c P) (hcode : X.env.code = .ref c) (hm : (P, lq X) ∈ T) (hu : ∀ p ∈ T, p.1 = P → p.2 = lq X)
    (hT : Tabs T H) (hdef : defaultsOf params X.env = ([], [])) (hfree : ∀ y ∈ scope.names, y.2 = .free → ∃ c, X.env.cells.lookup y.1 = some c)
    (go : ∀ (f c' : Addr) (H1 : Hp) (s' : Shared), Inv X pins σ (upd H1 f (LamO f (lq X) params body scope (cloFrom X.env.cells scope.names []) c')) s' → ExtN H H1 → Tabs T H1 → H1 f = none → H1 c' = some (CodeO c' (lq X)) → Q (.ref f) s') :
    wpAny (model X.prog X.w) X.A (eval (.Lambda params body scope pos) X.env) Q E s := by
  obtain ⟨ps, tabAt, triples, all⟩ := hT _ hm
  have names : s.heap.BuiltinsAt X.mg P := TB.bm.keeps I.bk
  have tabObj : s.heap.get? P = some { cls := .none, data := .fields ps } := I.hok P _ tabAt
  have glob := I.mod.glob.keeps I.bk
  have code := TB.code.keeps I.bk
  refine PySem.W.kla_eval hdef ?_
  cases hit : codeAmong pos ps.toList with
  | some cv =>
    obtain ⟨c', rfl, known⟩ := all pos cv hit
    refine PySem.W.kla_makeFunctionHit (mg := X.mg) (c := c) (P := P) (ps := ps) (closure_ok hfree) I.ok.glob glob hcode code tabObj triples hit names fun ctv h' tk keeps bigger => ?_
    have J := (I.kept (t' := tk) keeps).laid (t' := tk) (a := h'.objs.size) (o := LamO h'.objs.size (lq X) params body scope (cloFrom X.env.cells scope.names []) c')
      (h' := h'.push (PySem.W.kla_obj "<lambda>" (lq X) params body scope (cloFrom X.env.cells scope.names []) ((X.mg "__name__").getD .none) c' ctv)) (fun b o e => Heap.get?_push_of_some _ e) (Nat.le_refl _) (lamO_ok (Heap.get?_push_size _ rfl))
    exact go _ c' H _ J (ExtN.refl H) hT (I.hok.fresh bigger) known
  | none =>
    refine PySem.W.kla_makeFunction (mg := X.mg) (c := c) (P := P) (ps := ps) (closure_ok hfree) I.ok.glob glob hcode code tabObj triples hit TB.gP names fun c' ctv h' tk others above below rec tabNow => ?_
    obtain ⟨c2, oc, vs, t, e2, ocAt, ocD, ocN⟩ := rec
    cases e2
    have noC : H c' = none := I.hok.fresh above
    have J0 := inv_table (t' := tk) (more := #[rawInt pos.line, rawInt pos.col, .ref c']) (h' := h') I tabAt (fun b o hb e => others b o hb e) tabNow above ⟨oc, vs, t, ocAt, ocD, ocN⟩
    have J := J0.laid (t' := tk) (a := h'.objs.size) (o := LamO h'.objs.size (lq X) params body scope (cloFrom X.env.cells scope.names []) c')
      (h' := h'.push (PySem.W.kla_obj "<lambda>" (lq X) params body scope (cloFrom X.env.cells scope.names []) ((X.mg "__name__").getD .none) c' ctv)) (fun b o e => Heap.get?_push_of_some _ e) (Nat.le_refl _) (lamO_ok (Heap.get?_push_size _ rfl))
    have grown : ExtN H (upd (upd H P (.tbl (ps ++ #[rawInt pos.line, rawInt pos.col, .ref c']))) c' (CodeO c' (lq X))) := fun b o e no => by
      have h1 : b ≠ c' := ne_of_none e noC
      have h2 : b ≠ P := fun z => by
        rw [z, tabAt] at e
        exact no ps (Option.some.inj e).symm
      rw [upd_ne h1, upd_ne h2]
      exact e
    have list : (ps ++ #[rawInt pos.line, rawInt pos.col, .ref c']).toList = ps.toList ++ [rawInt pos.line, rawInt pos.col, .ref c'] := by simp
    refine go _ c' _ _ J grown (fun p hp => ?_) (J0.hok.fresh (Nat.le_refl _)) upd_same
    by_cases hb : p.1 = P
    · rw [hu p hp hb, hb]
      refine ⟨_, (upd_ne (ne_of_none tabAt noC)).trans upd_same, list ▸ PySem.TriplesOk_snoc _ _ _ _ triples, fun p' cv hcv => ?_⟩
      rw [list] at hcv
      refine (among_app _ triples hcv).elim (fun z => ?_) fun z => ⟨c', z, upd_same⟩
      obtain ⟨c0, e1, e2⟩ := all p' cv z
      exact ⟨c0, e1, grown _ _ e2 codeO_ne⟩
    · obtain ⟨qs, a1, a2, a3⟩ := hT p hp
      refine ⟨qs, ((upd_ne (ne_of_none a1 noC)).trans (upd_ne hb)).trans a1, a2, fun p' cv hcv => ?_⟩
      obtain ⟨c0, e1, e2⟩ := a3 p' cv hcv
      exact ⟨c0, e1, grown _ _ e2 codeO_ne⟩
end
/-- lambda: body, as a value -/
def tLamV (T : List (Addr × Str)) (q : Str) (params : Arguments) (body : Expr) (scope : Scope) (cl : List (Str × Addr)) : TE := fun _ H Q => Tabs T H ∧ ∀ f c' H1, ExtN H H1 → Tabs T H1 → H1 f = none → H1 c' = some (CodeO c' q) → Q (.ref f) (upd H1 f (LamO f q params body scope cl c'))
theorem pe_lam {X : Cx} {T : List (Addr × Str)} {c P : Addr} {params : Arguments} {body : Expr} {scope : Scope} {pos : Pos} (TB : TabB X.base X.mg c P) (hcode : X.env.code = .ref c) (hm : (P, lq X) ∈ T) (hu : ∀ p ∈ T, p.1 = P → p.2 = lq X) (hdef : defaultsOf params X.env = ([], []))
    (hfree : X.Ok → ∀ y ∈ scope.names, y.2 = .free → ∃ c, X.env.cells.lookup y.1 = some c) : PE X (.Lambda params body scope pos) (tLamV T (lq X) params body scope (cloFrom X.env.cells scope.names [])) :=
  ⟨fun pins s σ H Q I h => lam_value I TB hcode hm hu h.1 hdef (hfree I.ok) fun f c' H1 s' J g t n k => ⟨.ref f, _, J, rfl, h.2 f c' H1 g t n k⟩⟩
/-! ### its call, in the def that got it -/
/-- a lambda without parameters, its reading t -/
structure LamD where
  params : Arguments
  body : Expr
  scope : Scope
  t : XK → TE
/-- what is known where it is called -/
def Held (X : Cx) (d : LamD) (f c' : Addr) (HZ : Hp) : Prop := HZ f = some (LamO f (lq X) d.params d.body d.scope (cloFrom X.env.cells d.scope.names []) c') ∧ HZ c' = some (CodeO c' (lq X))
/-- what the text tells of it, its body at level k -/
structure LamT (X : Cx) (k : Nat) (d : LamD) : Prop where
  scope : LamS X.env.scope d.scope
  bind : ∀ (q : Str) (cl : List (Str × Addr)) (pm cv ctv : Value), bindArgs (PySem.W.kla_fn "<lambda>" q d.params d.body d.scope cl pm cv ctv) ⟨[], []⟩ = pure []
  body : ∀ (A : Around) (outer : List Env) (s : Shared) (H : Hp) (E : XK) (f c' : Addr), Room k (A.deeper (lamEnv X d.scope s.heap.objs.size f c')) → PE (lamCx X A outer s H E d.scope f c') d.body (d.t E)
section
variable {X : Cx} {pins : List (Addr × Obj)} {σ : L2.St} {H HZ : Hp} {s s1 : Shared}
theorem pe_actK {CXg : CXT} {Eg : XK} {Ng : List Str} {qg : Str} {sg : Scope} {g f c' : Addr} {cdg : Value} {d : LamD} {k i : Nat} {a : Str} {pn : List (Addr × Obj)} {xe : Value → Shared → Prop} {W : WX} {E : XK} {p1 p2 : Pos} (I : Inv X pins σ H s) (L : LamT X k d)
    (tk : Takes ((cxOf CXg X.prog X.w X.K X.mg X.base Ng qg sg g cdg X.A X.stack s H Eg).tr pn xe) W) (hW : ∀ cls d (σ' : L2.St) H', σ'.length = Ng.length → E cls d H' → W cls d σ' H') (hr : Room (k + 1) (X.A.deeper (envOfC qg sg s.heap.objs.size g cdg)))
    (hN : Ng[i]? = some a) (hv : Vis sg a) (hd : (a == ("__debug__" : Str)) = false := by decide) (hcd : (a == ("__classdict__" : Str)) = false := by decide) :
    PE ((cxOf CXg X.prog X.w X.K X.mg X.base Ng qg sg g cdg X.A X.stack s H Eg).tr pn xe) (.Call (.Name a p1) [] [] p2) (fun σZ HZ Q => σZ[i]? = some (some (.ref f)) ∧ Held X d f c' HZ ∧ d.t E σ HZ Q) := by
  refine ⟨fun pinsZ sZ σZ HZ Q IZ h => ?_⟩
  obtain ⟨slot, ⟨atF, atC⟩, ht⟩ := h
  refine wpAny_Call_Name_kw (thn ((pe_var (pos := p1) (i := i) hN hv hd hcd).run pinsZ sZ σZ HZ (fun v H1 => v = .ref f ∧ H1 = HZ) IZ ⟨.ref f, slot, rfl, rfl⟩) fun u s1 ⟨v, H1, I1, r1, q1⟩ => ?_)
  obtain ⟨rfl, rfl⟩ := q1
  obtain rfl : u = Value.ref f := r1
  obtain ⟨pm, ctv, here⟩ := lamO_at I1.hok atF
  refine PySem.W.callWith_F0 ⟨_, _, _, _, here⟩ ?_
  have un : Un (frs X.stack) [] H H1 s.heap s1.heap := I1.base
  obtain ⟨⟨oc, vs, t, hoc, hdc, hvc⟩, _, _⟩ := I1.hok c' _ atC
  have run : codeAny (model X.prog X.w) (X.A.deeper (envOfC qg sg s.heap.objs.size g cdg)) (.call (.ref f) ⟨[], []⟩) (CR (L2.CX X.prog X.w) (envOfC qg sg s.heap.objs.size g cdg :: X.stack) X.prog X.w H1 s1 Q E) s1 := by
    refine PySem.W.kla_callFunE hr.depth here rfl L.scope.co L.scope.gen rfl ⟨c', oc, vs, t, rfl, hoc, hdc, hvc⟩ ?_
    rw [L.bind]
    refine wpAny_pure (wpAny_newFunctionEnv (fun y hy => (L.scope.own y hy).2) (fun y hy => absurd hy (by simp)) (fun h₁ hns hsb => ⟨I1.nolimit.fresh _ hsb, ?_⟩) L.scope.kind)
    show codeAny _ _ (.expr d.body (lamEnv X d.scope s1.heap.objs.size f c')) _ _
    have grown : ∀ b o, s1.heap.get? b = some o → h₁.get? b = some o := fun b o e => hsb.extBut b o (Nat.ne_of_lt (Heap.lt_size e)) (Heap.get?_push_of_some _ e)
    have J : Inv (lamCx X (X.A.deeper (envOfC qg sg s.heap.objs.size g cdg)) (envOfC qg sg s.heap.objs.size g cdg :: X.stack) s1 H1 E d.scope f c') [] σ H1 { s1 with heap := h₁, toks := s1.toks + ([] : List (Str × Value)).length } :=
      lam_start2 I L.scope I1.env0 hr.hd un hns grown
    refine PySem.W.kla_codeExpr (wpAny_mono ((L.body _ _ s1 H1 E f c' (hr.deeper _)).run [] _ _ H1 Q J ht) (fun v s' ⟨w', H', J', rv, q⟩ => ⟨w', H', J'.os, J'.bare, J'.base, J'.hok, rv, q⟩) fun e s' hq => hq)
  refine wpAny_call (codeAny_mono run fun r s' hq => ?_)
  match r, hq with
  | .error e, hq => exact tk e s' (XE.of_call I1 (fun cls d H' h => hW cls d σZ H' I1.len h) hq)
  | .ok (.ret u), hq => exact I1.after hq
  | .ok .next, hq => exact (show False from hq).elim
  | .ok .brk, hq => exact (show False from hq).elim
  | .ok .cont, hq => exact (show False from hq).elim
end
/-- the def that calls what it got: a its parameter; TT: what it makes of a call's reading -/
def Gives (X : Cx) (Ng : List Str) (x : Str) (sg : Scope) (g : Addr) (cdg : Value) (bg : List Stmt) (a : Str) (TT : (XK → Hp → VK → Prop) → Hp → VK → Prop) : Prop :=
  ∀ (f : Addr) (G : Hp → Prop) (s : Shared) (H : Hp) (Q : VK) (tl : XK → Hp → VK → Prop),
    (∀ (W : WX) (pn : List (Addr × Obj)) (xe : Value → Shared → Prop) (E : XK) (p1 p2 : Pos), Takes ((cxOf C8.CX0 X.prog X.w X.K X.mg X.base Ng x sg g cdg X.A X.stack s H C8.E0).tr pn xe) W → (∀ cls d (σ' : L2.St) H', σ'.length = Ng.length → E cls d H' → W cls d σ' H') →
      PE ((cxOf C8.CX0 X.prog X.w X.K X.mg X.base Ng x sg g cdg X.A X.stack s H C8.E0).tr pn xe) (.Call (.Name a p1) [] [] p2) (fun σZ HZ Q => σZ[0]? = some (some (.ref f)) ∧ G HZ ∧ tl E HZ Q)) →
    G H → TT tl H Q → ∃ t, PSs (cxOf C8.CX0 X.prog X.w X.K X.mg X.base Ng x sg g cdg X.A X.stack s H C8.E0).nox bg t ∧ t { nx := fun _ H' => Q .non H', rt := Q } (L2.start Ng [.ref f]) H
/-- x(e), e a lambda of one of these texts -/
theorem pe_lamarg {X : Cx} {TT : (XK → Hp → VK → Prop) → Hp → VK → Prop} {x a : Str} {g : Addr} {k : Nat} {pg : Arguments} {bg : List Stmt} {sg : Scope} {dV kV doc pm cdv ct oc : Value} {an od : Option Addr} {osl : Array (Option Value)} {Ng : List Str} {e : Expr} {te : TE} {p pos : Pos} {ds : List LamD}
    (hg : Gl X x) (hm : X.mg x = some (.ref g)) (hk : PySem.W.keepIn X.K (.ref g) = true) (lk : X.K.lookup g = some ⟨oc, od, .func (PySem.W.fnOf x x pg bg sg dV kV doc pm an cdv ct), osl⟩) (hcg : PySem.W.codeIn X.K cdv x = true)
    (hb : L2.Binds X.K (PySem.W.fnOf x x pg bg sg dV kV doc pm an cdv ct) [a] []) (Sg : FnScope Ng [a] sg) (hNg : Ng[0]? = some a) (hva : Vis sg a) (hG : Gives X Ng x sg g cdv bg a TT) (hr : Room (k + 2) X.A) (hL : ∀ d ∈ ds, LamT X k d) (he : PE X e te)
    (hs : starEach [e] X.env = (false, eval e X.env) :: starEach [] X.env := by rfl) (hdb : (x == ("__debug__" : Str)) = false := by decide) (hd : (a == ("__debug__" : Str)) = false := by decide) (hcd : (a == ("__classdict__" : Str)) = false := by decide) :
    PE X (.Call (.Name x p) [e] [] pos) (fun σ H Q => te σ H fun v H1 => ∃ f c' d, v = .ref f ∧ d ∈ ds ∧ Held X d f c' H1 ∧ TT (fun E H' Q' => d.t E σ H' Q') H1 Q) := by
  refine ⟨fun pins s σ H Q I h => wpAny_Call_Name_kw (ld_glob I hg hm ?_ hdb)⟩
  refine PySem.W.callWith_K (h₀ := X.base) I.ok.mod.kin hk ?_ hs (by rfl)
  rw [hs]
  show wpAny _ _ (spliced ((false, eval e X.env) :: backTo pos (starEach [] X.env))) _ _ s
  refine Calls.spliced_cons (thn (he.run pins s σ H _ I h) fun u s1 ⟨v, H1, I1, r1, f, c', d, ev, hd', held, tt⟩ => ?_)
  subst ev
  obtain rfl : u = Value.ref f := r1
  refine Calls.spliced_nil ⟨I1.kIn, ?_⟩
  have run : codeAny (model X.prog X.w) X.A (.call (.ref g) ⟨[.ref f], []⟩) (CR C8.CX0 X.stack X.prog X.w H1 s1 Q C8.E0) s1 := by
    refine run_ofS (N := Ng) (ps := [a]) (us := [.ref f]) (vs := [.ref f]) lk hcg Sg hr I1.env0 (hb s1 [.ref f] I1.kIn rfl) (.cons rfl .nil) rfl fun hr' => ?_
    obtain ⟨t', ht', hq'⟩ := hG f (Held X d f c') s1 H1 Q (fun E H' Q' => d.t E σ H' Q') (fun W pn xe E p1 p2 tk hW => pe_actK (i := 0) I1 (hL d hd') tk hW hr' hNg hva hd hcd) held tt
    exact ⟨t', ht'.nox, hq'⟩
  refine wpAny_call (codeAny_mono run fun r s2 hq => ?_)
  match r, hq with
  | .error e, hq => exact (show False from hq).elim
  | .ok (.ret u), hq => exact I1.after hq
  | .ok .next, hq => exact (show False from hq).elim
  | .ok .brk, hq => exact (show False from hq).elim
  | .ok .cont, hq => exact (show False from hq).elim
/-! ### y = None; try: a() / except B as n: y = n; return y -/
def TTc (K : PySem.W.Frag) (CB : Addr) : (XK → Hp → VK → Prop) → Hp → VK → Prop := fun tl H Q =>
  tl (fun cls d H' => PySem.W.exmOne K cls (.ref CB) = some true ∧ ∀ a, H' a = none → Q (.ref a) (upd H' a (Cgt cls d a))) H fun _ H' => ∃ v, (some (some V.non) : Option (Option V)) = some (some v) ∧ Q v H'
theorem caught_gives {X : Cx} {x a y n B : Str} {sg : Scope} {g CB : Addr} {cdg : Value} {p0 p1 p2 p3 p4 p5 p6 p7 p8 p9 p10 p11 p12 p13 : Pos} {j0 : Nat} (S : FnScope [a, y, n] [a] sg) (ha : Vis sg a) (hy : sg.names.lookup y = some .local) (hn : sg.names.lookup n = some .local)
    (hB : sg.names.lookup B = some .globalImplicit) (mB : X.mg B = some (.ref CB)) (dB : (B == ("__debug__" : Str)) = false) (dn : (n == ("__debug__" : Str)) = false) (cn : (n == ("__classdict__" : Str)) = false) (dy : (y == ("__debug__" : Str)) = false) (cy : (y == ("__classdict__" : Str)) = false) :
    Gives X [a, y, n] x sg g cdg [.Assign [.Name y p0] (.Constant .none j0 p1) p2, .Try [.Expr (.Call (.Name a p3) [] [] p4) p5] [.ExceptHandler (some (.Name B p6)) (some n) [.Assign [.Name y p7] (.Name n p8) p9] p10] [] [] p11, .Return (some (.Name y p12)) p13] a (TTc X.K CB) := by
  intro f G s H Q tl act hG h
  let Z : Cx := (cxOf C8.CX0 X.prog X.w X.K X.mg X.base [a, y, n] x sg g cdg X.A X.stack s H C8.E0).nox
  have gB : Gl Z B := hB
  refine ⟨_, pss_cons (ps_set (X := Z) (i := 1) S.nd rfl (.inl hy) pe_non) (pss_cons (ps_try_keep (X := Z) (i := 2) (j := 1) (c := .ref CB) (tb := fun W D σ H => ∃ Ech : XK, (∀ (cls : Value) (d : Option Addr) (σ' : L2.St) (H' : Hp), σ'.length = 3 → Ech cls d H' → W cls d σ' H') ∧ σ[0]? = some (some (.ref f)) ∧ G H ∧ tl Ech H fun _ H' => D.nx σ H') rfl rfl rfl S.nd rfl rfl hn hy dn cn ⟨gB, dB, .inl mB⟩
    (fun W pn xe tk _ => ?_)) (pss_one (ps_ret (pe_var (X := Z) (i := 1) rfl (.inl hy) dy cy)))), ?_⟩
  · refine ⟨fun pins s' σ' H' D I h' => ?_⟩
    obtain ⟨Ech, hW, h1, h2, h3⟩ := h'
    exact (pss_one (ps_expr (pos := p5) (act W pn xe Ech p3 p4 tk hW))).run pins s' σ' H' D I ⟨h1, h2, h3⟩
  · exact ⟨fun cls d H' => PySem.W.exmOne X.K cls (.ref CB) = some true ∧ ∀ a, H' a = none → Q (.ref a) (upd H' a (Cgt cls d a)), fun cls d σ' H' hl ⟨e1, e2⟩ => ⟨e1, fun b nb => ⟨.ref b, (by match σ', hl with | [_, _, _], _ => rfl), e2 b nb⟩⟩, rfl, hG, h⟩
end Ob
end
section
set_option linter.all false
set_option maxRecDepth 100000
set_option maxHeartbeats 4000000
/-! an error class of the program, raised by a def -/
namespace Ob
open PySem PySem.Spec PyProof.Rows L2
structure Err (P : Program) (K : PySem.W.Frag) (mg : Str → Option Value) (x : Str) (C : Addr) (part : Str) : Prop where
  ex : ∃ (fI : Addr) (fd : FuncData), InitK P K mg C fI part part fd ∧ PySem.W.findIn K (.ref C) "__init__" = some (some (.ref fI)) ∧ PySem.W.typeIn K (.ref fI) = some (.type "function") ∧ Binds K fd ["self", part] []
  g : mg x = some (.ref C)
/-- what is told of such an error, made of y -/
def Raised (C : Addr) (part : Str) (y : V) (H : Hp) (E : XK) : Prop := ∀ d, H d = none → E (.ref C) (some d) (upd H d (.xd [(part, y)]))
theorem pmk_err {X : Cx} {x part : Str} {C : Addr} {e : Expr} {ta : TA} {p pos : Pos} (T : Err X.prog X.K X.mg x C part) (hr : Room 2 X.A) (hg : Gl X x) (ha : PA X [e] ta) (hdb : (x == ("__debug__" : Str)) = false := by decide)
    (he : starEach [e] X.env = (false, eval e X.env) :: starEach [] X.env := by rfl) (hpl : (backTo pos (starEach [] X.env)).any (·.1) = false := by rfl) : PMk X (.Call (.Name x p) [e] [] pos) (tMkX X C part ta) := by
  obtain ⟨fI, fd, IK, iC, tI, hb⟩ := T.ex
  exact pmk_exc IK iC tI hr hb pass0 hg T.g ha hdb he hpl
/-- the caller's own way out takes what a callee lets out -/
theorem passE {X : Cx} {E : XK} (tk : Takes X fun cls d _ H => E cls d H) : Passes (L2.CX X.prog X.w) X E := passes_call tk fun _ _ _ _ h => h
end Ob
end
section
set_option linter.all false
set_option maxRecDepth 100000
set_option maxHeartbeats 4000000
namespace K
open PySem PySem.Spec PyProof.Rows L2 Ob
/-- a prime, at most five legs, numbers of the field -/
structure RuleOk (p : Int) (n : Nat) (ns : List Int) : Prop where
  prime : primeB p = true
  five : n ≤ 5
  len : ns.length = 2 ^ n
  field : ∀ x ∈ ns, 0 ≤ x ∧ x < p
theorem RuleOk.least {p : Int} {n : Nat} {ns : List Int} (h : RuleOk p n ns) : 3 ≤ p ∧ p ≤ 97 := by
  have := h.prime
  unfold primeB within at this
  simp only [Bool.and_eq_true, decide_eq_true_eq, Option.any_some] at this
  exact ⟨this.1.1, this.1.2⟩
theorem pows_in : ∀ n : Nat, n ≤ 5 → inV (V.int ((2 ^ n : Nat) : Int)) pows = true := by decide +kernel
theorem RuleOk.table {p : Int} {n : Nat} {ns : List Int} (h : RuleOk p n ns) : tableB p ns.length (ns.map some) = true := by
  unfold tableB
  rw [h.len, pows_in n h.five, Bool.true_and, List.all_map]
  refine List.all_eq_true.mpr fun x hx => ?_
  obtain ⟨h1, h2⟩ := h.field x hx
  show within (some x) 0 (p - 1) = true
  unfold within
  simp only [Option.any_some, Bool.and_eq_true, decide_eq_true_eq]
  omega
theorem made {K : PySem.W.Frag} {C : Addr} {H1 : Hp} {D : Addr} {p : Int} {n : Nat} {ns : List Int} {Q : Addr → Hp → Prop} {E : XK} (ok : RuleOk p n ns) (hl : H1 D = some (.lst (ns.map V.int))) (k : ∀ H' q, Same H1 H' → RuleAt C H' q p n ns → Q q H') :
    ∀ x dx, H1 x = none → H1 dx = none → dx ≠ x → spRInit K C (.ref x :: ([.int p, .ref D] ++ [])) (upd (upd H1 dx (.own x)) x (.ins C dx [])) (fun v H2 => v = .non ∧ Q x H2) E := fun x dx hx hdx ne => by
  have nD1 : D ≠ dx := ne_of_none hl hdx
  have nD2 : D ≠ x := ne_of_none hl hx
  have at_ : upd (upd H1 dx (.own x)) x (.ins C dx []) D = some (.lst (ns.map V.int)) := by
    rw [upd_ne nD2, upd_ne nD1]
    exact hl
  refine ⟨x, dx, p, D, ns, n, rfl, upd_same, ⟨SqL.of at_, .base (.lst at_), things_ints ns⟩, nD2, ok.prime, ok.table, ok.len, Nat.le_trans ok.five (by decide), fun H' kp r => ⟨rfl, k H' x (fun b o e => ?_) r⟩⟩
  have b1 : b ≠ x := ne_of_none e hx
  refine kp b o ?_ b1
  rw [upd_ne b1, upd_ne (ne_of_none e hdx)]
  exact e
section
variable {P : Program} {w : World} {K : PySem.W.Frag} {mg : Str → Option Value} {base : Heap} {C CN fI : Addr} {fdI : FuncData}
/-- the class can be made, its __init__ holds -/
structure MkRule (P : Program) (w : World) (K : PySem.W.Frag) (mg : Str → Option Value) (base : Heap) (C : Addr) (fI : Addr) (fdI : FuncData) : Prop where
  T : RuleC K mg C
  M : Mk K C fI
  G : FnOk P w K mg base CX0 6 fI fdI ["self", "prime", "table"] (spRInit K C)
  b : Binds K fdI ["self", "prime", "table"] []
def spWantRule (C : Addr) : Sp := fun vs H Q _ => ∃ r p n ns, vs = [.ref r] ∧ RuleAt C H r p n ns ∧ Q .non H
theorem scWantRule : FnScope ["rule"] ["rule"] (defScope sWantRule) := ⟨rfl, rfl, rfl, by decide +kernel, rfl, by decide +kernel, by decide +kernel⟩
theorem ok_want_rule {f : Addr} {fd : FuncData} (F : Fun K "want_rule" "want_rule" sWantRule f fd) (T : RuleC K mg C) (B : Bts mg) : FnOk P w K mg base CX0 1 f fd ["rule"] (spWantRule C) := by
  refine F.ok scWantRule (fun vs H Q E h => ?_) (fun cdv A outer s H vs Q E hr h => ?_)
  · obtain ⟨r, p, n, ns, rfl, _⟩ := h
    rfl
  · obtain ⟨r, p, n, ns, rfl, hR, q⟩ := h
    exact ⟨_, PSs.nox (pss_one (ps_if (pt_not (pt_val (pe_callB call_isi (by rfl) B.isi (by decide +kernel) (pa_cons (pv 0) (pa_cons (pe_glob (v := .ref C) (by rfl) T.g rfl) pa_nil))))) (pss_one ps_never) pss_nil)),
      _, rfl, .ref r, .ref C, .ref C, .ref C, true, rfl, .own C, T.ty hR, kit_self, true, rfl, iteF q⟩
def spWantLeg (K : PySem.W.Frag) (C CN : Addr) : Sp := fun vs H Q E => ∃ r x o part p n ns, vs = [.ref r, x, .str part] ∧ RuleAt C H r p n ns ∧ Thing K H x o ∧ part.length ≤ 100 ∧ ((within o 0 ((n : Int) - 1) = true ∧ Q .non H) ∨ (within o 0 ((n : Int) - 1) = false ∧ Raised CN "part" (.str part) H E))
theorem scWantLeg : FnScope ["rule", "leg", "part"] ["rule", "leg", "part"] (defScope sWantLeg) := ⟨rfl, rfl, rfl, by decide +kernel, rfl, by decide +kernel, by decide +kernel⟩
theorem ok_want_leg {f fR : Addr} {fd fdR : FuncData} (F : Fun K "want_leg" "want_leg" sWantLeg f fd) (T : RuleC K mg C) (TN : Err P K mg "BadNumber" CN "part") (FR : Fun K "is_from" "is_from" sIsFrom fR fdR)
    (GR : FnOk P w K mg base CX0 2 fR fdR ["thing", "least", "most"] (spIsFrom K)) (bR : Binds K fdR ["thing", "least", "most"] []) (gR : mg "is_from" = some (.ref fR)) : FnOk P w K mg base (L2.CX P w) 3 f fd ["rule", "leg", "part"] (spWantLeg K C CN) := by
  refine F.okX scWantLeg (fun vs H Q E h => ?_) (fun cdv A outer s H vs Q E hr h => ?_)
  · obtain ⟨r, x, o, part, p, n, ns, rfl, _⟩ := h
    rfl
  · obtain ⟨r, x, o, part, p, n, ns, rfl, hR, ht, hp, q⟩ := h
    obtain ⟨dx, t, h1, h2⟩ := id hR.ex
    refine ⟨_, pss_one (ps_if (pt_not (pt_val (pe_call GR hr rfl gR FR.kp bR .nil pass0 (pa_cons (pv 1) (pa_cons pe_int (pa_cons (pe_op op_sub (pe_fld (pv 0) rfl) pe_int) pa_nil))))))
      (pss_one (ps_raise rfl (takes_of rfl rfl rfl rfl) (pmk_err TN hr rfl (by exact pa_cons (pv 2) pa_nil)))) pss_nil), ?_⟩
    refine ⟨_, rfl, _, rfl, r, C, dx, _, _, rfl, h1, T.cl, T.nL, rfl, n, 1, rfl, rfl, x, o, 0, (n : Int) - 1, rfl, ht, _, rfl, ?_⟩
    rcases q with ⟨e, q⟩ | ⟨e, q⟩
    · rw [e]
      exact iteF q
    · rw [e]
      refine iteT ?_
      exact ⟨_, rfl, _, rfl, fun _ _ _ _ => fmt_str (by omega), fun d hd => q d hd⟩
def spScaled (K : PySem.W.Frag) (C CN : Addr) : Sp := fun vs H Q E => ∃ r x o p n ns, vs = [.ref r, x] ∧ RuleAt C H r p n ns ∧ RuleOk p n ns ∧ Thing K H x o ∧
  ((∃ k, o = some k ∧ 0 ≤ k ∧ k < p ∧ ∀ H' q, Same H H' → RuleAt C H' q p n (ns.map fun y => (y * k).fmod p) → Q (.ref q) H') ∨ (fieldB p o = false ∧ Raised CN "part" (.str "number") H E))
theorem scScaled : FnScope ["rule", "number", "x"] ["rule", "number"] (defScope sScaled) := ⟨rfl, rfl, rfl, by decide +kernel, rfl, by decide +kernel, by decide +kernel⟩
theorem scaled_ok {p k : Int} {n : Nat} {ns : List Int} (ok : RuleOk p n ns) : RuleOk p n (ns.map fun y => (y * k).fmod p) := by
  have hp := ok.least
  refine ⟨ok.prime, ok.five, by rw [List.length_map]; exact ok.len, fun x hx => ?_⟩
  obtain ⟨y, _, rfl⟩ := List.mem_map.mp hx
  rw [Int.fmod_eq_emod_of_nonneg _ (by omega)]
  exact ⟨Int.emod_nonneg _ (by omega), Int.emod_lt_of_pos _ (by omega)⟩
theorem ok_scaled {f fW fF : Addr} {fd fdW fdF : FuncData} (F : Fun K "scaled" "scaled" sScaled f fd) (MR : MkRule P w K mg base C fI fdI) (TN : Err P K mg "BadNumber" CN "part") (FW : Fun K "want_rule" "want_rule" sWantRule fW fdW) (bW : Binds K fdW ["rule"] []) (gW : mg "want_rule" = some (.ref fW))
    (FF : Fun K "is_field_number" "is_field_number" sIsFieldNumber fF fdF) (GF : FnOk P w K mg base CX0 3 fF fdF ["prime", "thing"] (spIsField K)) (bF : Binds K fdF ["prime", "thing"] []) (gF : mg "is_field_number" = some (.ref fF)) (B : Bts mg) :
    FnOk P w K mg base (L2.CX P w) 8 f fd ["rule", "number"] (spScaled K C CN) := by
  have GW : FnOk P w K mg base CX0 1 fW fdW ["rule"] (spWantRule C) := ok_want_rule FW MR.T B
  have T := MR.T
  refine F.okX scScaled (fun vs H Q E h => ?_) (fun cdv A outer s H vs Q E hr h => ?_)
  · obtain ⟨r, x, o, p, n, ns, rfl, _⟩ := h
    rfl
  · obtain ⟨r, x, o, p, n, ns, rfl, hR, ok, ht, q⟩ := h
    obtain ⟨dx, t, h1, h2⟩ := id hR.ex
    have hp := ok.least
    refine ⟨_, pss_cons (ps_expr (pe_call GW (hr.mono (by decide)) rfl gW FW.kp bW .nil pass0 (pa_cons (pv 0) pa_nil)))
      (pss_cons (ps_if (pt_not (pt_val (pe_call GF (hr.mono (by decide)) rfl gF FF.kp bF .nil pass0 (pa_cons (pe_fld (pv 0) rfl) (pa_cons (pv 1) pa_nil)))))
        (pss_one (ps_raise rfl (takes_of rfl rfl rfl rfl) (pmk_err TN (hr.mono (by decide)) rfl (by exact pa_cons pe_str pa_nil)))) pss_nil)
      (pss_one (ps_ret (pe_make MR.M MR.G hr rfl T.g MR.b .nil pass0 (by exact pa_cons (pe_fld (pv 0) rfl) (pa_cons
        (pe_lc (own := [("x", 2)]) (g := gName 2) (tt := tYes) rfl scScaled.nd (pi_tup (pe_fld (pv 0) rfl)) (blkOk_by (N := ["rule", "number", "x"]) (sc := defScope sScaled) (by decide +kernel)) (fun _ _ _ _ _ => pg_name (i := 2) scScaled.nd rfl (Or.inl rfl)) (fun _ _ _ _ _ => pts_nil)
          (fun _ _ _ _ _ => pe_op op_modN (pe_op op_mul (pv 2) (pv 1)) (by exact (show PE _ _ (tFld K (tVar 0) "prime") from pe_fld (pv 0) rfl)))) pa_nil)))))), ?_⟩
    refine ⟨_, rfl, r, p, n, ns, rfl, hR, ?_⟩
    refine ⟨_, rfl, r, C, dx, _, _, rfl, h1, T.cl, T.nP, rfl, _, rfl, p, x, o, rfl, ht, _, rfl, ?_⟩
    rcases q with ⟨k, rfl, k0, k1, q⟩ | ⟨e, q⟩
    · have e : fieldB p (some k) = true := by
        unfold fieldB within
        simp only [Option.any_some, Bool.and_eq_true, decide_eq_true_eq]
        omega
      rw [e]
      refine iteF ?_
      cases ht with
      | num =>
        refine ⟨_, rfl, r, C, dx, _, _, rfl, h1, T.cl, T.nP, rfl, _, rfl, r, C, dx, _, _, rfl, h1, T.cl, T.nT, rfl, t, rfl, ⟨_, SqT.of h2⟩, fun D hD => lc_it (walk_tup (K := K) (a := t) (xs := ns.map V.int)) (fun i H' => H' = upd H D (.lst (((ns.take i).map fun y => (y * k).fmod p).map V.int))) rfl ?_ ?_ ?_⟩
        · rintro i H' _ rfl
          exact SqT.of (new_same hD _ _ h2)
        · rintro i y H' H'' hi rfl ⟨rfl, hy⟩
          obtain ⟨z, rfl, hz⟩ := at_ints hy
          have hzf := ok.field z (List.mem_of_getElem? hz)
          refine ⟨rfl, ?_⟩
          unfold tYes
          dsimp only
          rw [if_pos rfl]
          refine ⟨_, rfl, _, rfl, z, k, rfl, rfl, .inl ⟨by omega, by omega⟩, _, rfl, r, C, dx, _, _, rfl, new_same hD _ _ h1, T.cl, T.nP, rfl, _, _, rfl, rfl, by omega, _, upd_same, ?_, ?_⟩
          · rw [List.length_map, List.length_map, List.length_take, sizeLine_eq]
            have := ok.len
            have : (2 : Nat) ^ n ≤ 2 ^ 5 := Nat.pow_le_pow_right (by decide) ok.five
            omega
          · rw [upd_upd, take_more hz, List.map_append, List.map_append]
            rfl
        · rintro H' rfl
          rw [List.length_map, List.take_length]
          exact made (scaled_ok ok) upd_same fun H' q0 s' r' => q H' q0 (fun b o z => s' b o (new_same hD b o z)) r'
    · rw [e]
      refine iteT ?_
      exact ⟨_, rfl, fun _ _ _ _ => fmt_str (by decide), fun d hd => q d hd⟩
end
end K
end
section
set_option linter.all false
set_option maxRecDepth 100000
set_option maxHeartbeats 4000000
namespace K
open PySem PySem.Spec PyProof.Rows L2 Ob
def pickF (ns : List Int) (i : Int) : Int := ns.getD i.toNat 0
theorem at_pick {ns : List Int} {i : Int} (h0 : 0 ≤ i) (h1 : i < (ns.length : Int)) : atI (ns.map V.int) i = some (.int (pickF ns i)) := by
  obtain ⟨n, rfl⟩ := Int.eq_ofNat_of_zero_le h0
  have hn : n < ns.length := by omega
  refine atI_nat (v := V.int (pickF ns n)) ?_
  unfold pickF
  rw [List.getElem?_map, Int.toNat_natCast, List.getD_eq_getElem?_getD, List.getElem?_eq_getElem hn]
  rfl
theorem pick_mem {ns : List Int} {i : Int} (h0 : 0 ≤ i) (h1 : i < (ns.length : Int)) : pickF ns i ∈ ns := by
  obtain ⟨n, rfl⟩ := Int.eq_ofNat_of_zero_le h0
  have hn : n < ns.length := by omega
  unfold pickF
  rw [Int.toNat_natCast, List.getD_eq_getElem?_getD, List.getElem?_eq_getElem hn]
  exact List.getElem_mem hn
/-- what is picked by such places is a rule's table again -/
theorem pick_ok {p : Int} {n : Nat} {ns idx : List Int} (ok : RuleOk p n ns) (hl : idx.length = 2 ^ n) (hi : ∀ i ∈ idx, 0 ≤ i ∧ i < ((2 ^ n : Nat) : Int)) : RuleOk p n (idx.map (pickF ns)) := by
  refine ⟨ok.prime, ok.five, by rw [List.length_map]; exact hl, fun x hx => ?_⟩
  obtain ⟨i, hm, rfl⟩ := List.mem_map.mp hx
  obtain ⟨h0, h1⟩ := hi i hm
  exact ok.field _ (pick_mem h0 (by rw [ok.len]; exact h1))
section
variable {P : Program} {w : World} {K : PySem.W.Frag} {mg : Str → Option Value} {base : Heap} {C CN fI : Addr} {fdI : FuncData}
def legsOk (many : Int) (legs : List Int) : Prop := legs.length ≤ 8 ∧ ∀ l ∈ legs, 0 ≤ many - 1 - l ∧ many - 1 - l ≤ 60
def idxF (many : Int) (legs : List Int) (b : Int) : List Int := sumsF (legs.map (maskF many)) b
def spLegSums (K : PySem.W.Frag) : Sp := fun vs H Q _ => ∃ many a legs b, vs = [.int many, .ref a, .int b] ∧ SqL K H a (legs.map V.int) ∧ legsOk many legs ∧ ∀ H' q, Same H H' → H' q = some (.lst ((idxF many legs b).map V.int)) → Q (.ref q) H'
theorem scLegSums : FnScope ["many", "legs", "base", "leg"] ["many", "legs", "base"] (defScope sLegSums) := ⟨rfl, rfl, rfl, by decide +kernel, rfl, by decide +kernel, by decide +kernel⟩
theorem ok_leg_sums {f fM fS : Addr} {fd fdM fdS : FuncData} (F : Fun K "leg_sums" "leg_sums" sLegSums f fd) (FM : Fun K "leg_mask" "leg_mask" sLegMask fM fdM) (bM : Binds K fdM ["many", "leg"] []) (gM : mg "leg_mask" = some (.ref fM))
    (FS : Fun K "sums_of" "sums_of" sSumsOf fS fdS) (bS : Binds K fdS ["masks", "base"] []) (gS : mg "sums_of" = some (.ref fS)) : FnOk P w K mg base CX0 2 f fd ["many", "legs", "base"] (spLegSums K) := by
  have GM : FnOk P w K mg base CX0 1 fM fdM ["many", "leg"] spLegMask := ok_leg_mask FM
  have GS : FnOk P w K mg base CX0 1 fS fdS ["masks", "base"] (spSumsOf K) := ok_sums_of FS
  refine F.ok scLegSums (fun vs H Q E h => ?_) (fun cdv A outer s H vs Q E hr h => ?_)
  · obtain ⟨m, a, ls, b, rfl, _⟩ := h
    rfl
  · obtain ⟨m, a, ls, b, rfl, hS, ok, k⟩ := h
    refine ⟨_, PSs.nox (pss_one (ps_ret (pe_call GS hr rfl gS FS.kp bS .nil pass0 (pa_cons
      (pe_lc (own := [("leg", 3)]) (g := gName 3) (tt := tYes) rfl scLegSums.nd (pi_list (pv 1)) (blkOk_by (N := ["many", "legs", "base", "leg"]) (sc := defScope sLegSums) (by decide +kernel)) (fun _ _ _ _ _ => pg_name (i := 3) scLegSums.nd rfl (Or.inl rfl)) (fun _ _ _ _ _ => pts_nil)
        (fun _ _ _ _ _ => pe_call GM (hr.mono (by decide)) rfl gM FM.kp bM .nil pass0 (pa_cons (pv 0) (pa_cons (pv 3) pa_nil)))) (pa_cons (pv 2) pa_nil))))), ?_⟩
    refine ⟨_, rfl, a, rfl, ⟨_, hS⟩, fun D hD => lc_list (K := K) (a := a) (xs := ls.map V.int) (fun i H' => H' = upd H D (.lst (((ls.take i).map (maskF m)).map V.int))) rfl ?_ ?_ ?_⟩
    · rintro i H' _ rfl
      exact Same.seq (new_same hD) hS
    · rintro i x H' hx rfl
      obtain ⟨z, rfl, hz⟩ := at_ints hx
      obtain ⟨h0, h1⟩ := ok.2 z (List.mem_of_getElem? hz)
      refine ⟨rfl, ?_⟩
      unfold tYes
      dsimp only
      rw [if_pos rfl]
      refine ⟨_, rfl, _, rfl, m, z, rfl, h0, h1, _, upd_same, ?_, ?_⟩
      · rw [List.length_map, List.length_map, List.length_take, sizeLine_eq]
        have := ok.1
        omega
      · rw [upd_upd, take_more hz, List.map_append, List.map_append]
        rfl
    · rintro H' rfl
      rw [List.length_map, List.take_length]
      refine ⟨_, rfl, D, ls.map (maskF m), b, rfl, SqL.of upd_same, by rw [List.length_map]; exact ok.1, fun H2 q s2 h2 => k H2 q (fun b o z => s2 b o (new_same hD b o z)) h2⟩
def spRegrouped (K : PySem.W.Frag) (C : Addr) : Sp := fun vs H Q _ => ∃ r a p n ns order, vs = [.ref r, .ref a] ∧ RuleAt C H r p n ns ∧ RuleOk p n ns ∧ SqL K H a (order.map V.int) ∧ order.length = n ∧ legsOk n order ∧ (∀ i ∈ idxF n order 0, 0 ≤ i ∧ i < ((2 ^ n : Nat) : Int)) ∧
  ∀ H' q, Same H H' → RuleAt C H' q p n ((idxF n order 0).map (pickF ns)) → Q (.ref q) H'
theorem scRegrouped : FnScope ["rule", "order", "k"] ["rule", "order"] (defScope sRegrouped) := ⟨rfl, rfl, rfl, by decide +kernel, rfl, by decide +kernel, by decide +kernel⟩
theorem ok_regrouped {f fL : Addr} {fd fdL : FuncData} (F : Fun K "regrouped" "regrouped" sRegrouped f fd) (MR : MkRule P w K mg base C fI fdI) (FL : Fun K "leg_sums" "leg_sums" sLegSums fL fdL) (GL : FnOk P w K mg base CX0 2 fL fdL ["many", "legs", "base"] (spLegSums K)) (bL : Binds K fdL ["many", "legs", "base"] [])
    (gL : mg "leg_sums" = some (.ref fL)) : FnOk P w K mg base CX0 8 f fd ["rule", "order"] (spRegrouped K C) := by
  have T := MR.T
  refine F.ok scRegrouped (fun vs H Q E h => ?_) (fun cdv A outer s H vs Q E hr h => ?_)
  · obtain ⟨r, a, p, n, ns, order, rfl, _⟩ := h
    rfl
  · obtain ⟨r, a, p, n, ns, order, rfl, hR, ok, hS, hn, lo, hi, k⟩ := h
    obtain ⟨dx, t, h1, h2⟩ := id hR.ex
    refine ⟨_, PSs.nox (pss_one (ps_ret (pe_make MR.M MR.G hr rfl T.g MR.b .nil pass0 (by exact pa_cons (pe_fld (pv 0) rfl) (pa_cons
        (pe_lc (own := [("k", 2)]) (g := gName 2) (tt := tYes) rfl scRegrouped.nd (pi_list (pe_call GL (hr.mono (by decide)) rfl gL FL.kp bL .nil pass0 (pa_cons (pe_fld (pv 0) rfl) (pa_cons (pv 1) (pa_cons pe_int pa_nil))))) (blkOk_by (N := ["rule", "order", "k"]) (sc := defScope sRegrouped) (by decide +kernel)) (fun _ _ _ _ _ => pg_name (i := 2) scRegrouped.nd rfl (Or.inl rfl)) (fun _ _ _ _ _ => pts_nil)
          (fun _ _ _ _ _ => pe_ix (ix_tup : IxR _ (rIxT K)) (by exact (show PE _ _ (tFld K (tVar 0) "table") from pe_fld (pv 0) rfl)) (pv 2) (fun _ _ => rfl))) pa_nil))))), ?_⟩
    refine ⟨_, rfl, r, C, dx, _, _, rfl, h1, T.cl, T.nP, rfl, _, rfl, r, C, dx, _, _, rfl, h1, T.cl, T.nL, rfl, _, rfl, n, a, order, 0, rfl, hS, lo, fun H1 q s1 hq => ?_⟩
    have idxL : (idxF n order 0).length = 2 ^ n := by
      unfold idxF
      rw [sums_len, List.length_map, hn]
    refine ⟨q, rfl, ⟨_, SqL.of hq⟩, fun D hD => lc_list (K := K) (a := q) (xs := (idxF n order 0).map V.int) (fun i H' => H' = upd H1 D (.lst ((((idxF n order 0).take i).map (pickF ns)).map V.int))) rfl ?_ ?_ ?_⟩
    · rintro i H' _ rfl
      exact SqL.of (new_same hD _ _ hq)
    · rintro i x H' hx rfl
      obtain ⟨z, rfl, hz⟩ := at_ints hx
      obtain ⟨z0, z1⟩ := hi z (List.mem_of_getElem? hz)
      refine ⟨rfl, ?_⟩
      unfold tYes
      dsimp only
      rw [if_pos rfl]
      refine ⟨_, rfl, r, C, dx, _, _, rfl, new_same hD _ _ (s1 _ _ h1), T.cl, T.nT, rfl, _, rfl, t, _, z, _, rfl, rfl, SqT.of (new_same hD _ _ (s1 _ _ h2)), at_pick z0 (by rw [ok.len]; exact z1), _, upd_same, ?_, ?_⟩
      · rw [List.length_map, List.length_map, List.length_take, idxL, sizeLine_eq]
        have : (2 : Nat) ^ n ≤ 2 ^ 5 := Nat.pow_le_pow_right (by decide) ok.five
        omega
      · rw [upd_upd, take_more hz, List.map_append, List.map_append]
        rfl
    · rintro H' rfl
      rw [List.length_map, List.take_length]
      exact made (pick_ok ok idxL hi) upd_same fun H' q0 s' r' => k H' q0 (fun b o z => s' b o (new_same hD b o (s1 b o z))) r'
end
end K
end
section
set_option linter.all false
set_option maxRecDepth 100000
set_option maxHeartbeats 4000000
namespace K
open PySem PySem.Spec PyProof.Rows L2 Ob
def turnOrder (n m : Nat) : List Int := (List.range n).map fun k => (((0 : Int) + (k : Nat)) + (m : Int)).fmod n
def mirrorOrder (n : Nat) : List Int := (List.range n).map fun k => ((n : Int) - 1) - ((0 : Int) + (k : Nat))
def flipIdx (n l : Nat) : List Int := (List.range (2 ^ n)).map fun k => Builtin.bitXor ((0 : Int) + (k : Nat)) (maskF n l)
def restLegs (n l m : Nat) : List Int := ((List.range m).map fun k => (0 : Int) + (k : Nat)).filter fun k => !decide (k = (l : Int))
def setIdx (n l : Nat) (b : Int) : List Int := idxF n (restLegs n l n) (b * maskF n l)
def orderB (n : Nat) (order : List Int) : Bool := decide (order.length = n) && order.all (fun l => decide (0 ≤ (n : Int) - 1 - l ∧ (n : Int) - 1 - l ≤ 60)) && (idxF n order 0).all fun i => decide (0 ≤ i ∧ i < ((2 ^ n : Nat) : Int))
theorem turn_all : ∀ n, n ≤ 5 → ∀ m, m ≤ 8 → orderB n (turnOrder n m) = true := by decide +kernel
theorem mirror_all : ∀ n, n ≤ 5 → orderB n (mirrorOrder n) = true := by decide +kernel
theorem flip_all : ∀ n, n ≤ 5 → ∀ l, l < n → ((flipIdx n l).all fun i => decide (0 ≤ i ∧ i < ((2 ^ n : Nat) : Int))) = true := by
  have h : ∀ n, n < 6 → ∀ l, l < 5 → l < n → ((flipIdx n l).all fun i => decide (0 ≤ i ∧ i < ((2 ^ n : Nat) : Int))) = true := by decide +kernel
  exact fun n hn l hl => h n (by omega) l (by omega) hl
def setB (n l : Nat) (b : Int) : Bool := decide ((restLegs n l n).length + 1 = n) && (restLegs n l n).all (fun l => decide (0 ≤ (n : Int) - 1 - l ∧ (n : Int) - 1 - l ≤ 60)) && (setIdx n l b).all fun i => decide (0 ≤ i ∧ i < ((2 ^ n : Nat) : Int))
theorem set_all : ∀ n, n ≤ 5 → ∀ l, l < n → ∀ b : Int, b = 0 ∨ b = 1 → setB n l b = true := by
  have h : ∀ n, n < 6 → ∀ l, l < 5 → l < n → setB n l 0 = true ∧ setB n l 1 = true := by decide +kernel
  rintro n hn l hl b (rfl | rfl)
  · exact (h n (by omega) l (by omega) hl).1
  · exact (h n (by omega) l (by omega) hl).2
theorem order_ok {n : Nat} {order : List Int} (h5 : n ≤ 5) (h : orderB n order = true) : order.length = n ∧ legsOk n order ∧ ∀ i ∈ idxF n order 0, 0 ≤ i ∧ i < ((2 ^ n : Nat) : Int) := by
  unfold orderB at h
  simp only [Bool.and_eq_true, decide_eq_true_eq, List.all_eq_true] at h
  exact ⟨h.1.1, ⟨by omega, h.1.2⟩, h.2⟩
theorem pick_ok2 {p : Int} {n m : Nat} {ns idx : List Int} (ok : RuleOk p n ns) (h5 : m ≤ 5) (hl : idx.length = 2 ^ m) (hi : ∀ i ∈ idx, 0 ≤ i ∧ i < ((2 ^ n : Nat) : Int)) : RuleOk p m (idx.map (pickF ns)) := by
  refine ⟨ok.prime, h5, by rw [List.length_map]; exact hl, fun x hx => ?_⟩
  obtain ⟨i, hm, rfl⟩ := List.mem_map.mp hx
  obtain ⟨h0, h1⟩ := hi i hm
  exact ok.field _ (pick_mem h0 (by rw [ok.len]; exact h1))
section
variable {P : Program} {w : World} {K : PySem.W.Frag} {mg : Str → Option Value} {base : Heap} {C CN fI : Addr} {fdI : FuncData}
/-- what these defs lean on -/
structure Low (P : Program) (w : World) (K : PySem.W.Frag) (mg : Str → Option Value) (base : Heap) (C CN fI : Addr) (fdI : FuncData) : Prop where
  MR : MkRule P w K mg base C fI fdI
  TN : Err P K mg "BadNumber" CN "part"
  B : Bts mg
  want : ∃ f fd, FnOk P w K mg base CX0 1 f fd ["rule"] (spWantRule C) ∧ Binds K fd ["rule"] [] ∧ mg "want_rule" = some (.ref f) ∧ PySem.W.keepIn K (.ref f) = true
  leg : ∃ f fd, FnOk P w K mg base (L2.CX P w) 3 f fd ["rule", "leg", "part"] (spWantLeg K C CN) ∧ Binds K fd ["rule", "leg", "part"] [] ∧ mg "want_leg" = some (.ref f) ∧ PySem.W.keepIn K (.ref f) = true
  from_ : ∃ f fd, FnOk P w K mg base CX0 2 f fd ["thing", "least", "most"] (spIsFrom K) ∧ Binds K fd ["thing", "least", "most"] [] ∧ mg "is_from" = some (.ref f) ∧ PySem.W.keepIn K (.ref f) = true
  bit : ∃ f fd, FnOk P w K mg base CX0 3 f fd ["thing"] (spIsBit K) ∧ Binds K fd ["thing"] [] ∧ mg "is_bit" = some (.ref f) ∧ PySem.W.keepIn K (.ref f) = true
  mask : ∃ f fd, FnOk P w K mg base CX0 1 f fd ["many", "leg"] spLegMask ∧ Binds K fd ["many", "leg"] [] ∧ mg "leg_mask" = some (.ref f) ∧ PySem.W.keepIn K (.ref f) = true
  sums : ∃ f fd, FnOk P w K mg base CX0 2 f fd ["many", "legs", "base"] (spLegSums K) ∧ Binds K fd ["many", "legs", "base"] [] ∧ mg "leg_sums" = some (.ref f) ∧ PySem.W.keepIn K (.ref f) = true
  most : ∃ t, mg "MOST_LEGS" = some (.int 8 t)
def spTurned (K : PySem.W.Frag) (C CN : Addr) : Sp := fun vs H Q E => ∃ r x o p n ns, vs = [.ref r, x] ∧ RuleAt C H r p n ns ∧ RuleOk p n ns ∧ Thing K H x o ∧
  ((∃ m : Nat, o = some (m : Int) ∧ m ≤ 8 ∧ ∀ H' q, Same H H' → RuleAt C H' q p n ((idxF n (turnOrder n m) 0).map (pickF ns)) → Q (.ref q) H') ∨ (within o 0 8 = false ∧ Raised CN "part" (.str "many") H E))
theorem scTurned : FnScope ["rule", "many", "k"] ["rule", "many"] (defScope sTurned) := ⟨rfl, rfl, rfl, by decide +kernel, rfl, by decide +kernel, by decide +kernel⟩
theorem ok_turned {f fG : Addr} {fd fdG : FuncData} (F : Fun K "turned" "turned" sTurned f fd) (L : Low P w K mg base C CN fI fdI) (GG : FnOk P w K mg base CX0 8 fG fdG ["rule", "order"] (spRegrouped K C)) (bG : Binds K fdG ["rule", "order"] []) (gG : mg "regrouped" = some (.ref fG)) (kG : PySem.W.keepIn K (.ref fG) = true) :
    FnOk P w K mg base (L2.CX P w) 9 f fd ["rule", "many"] (spTurned K C CN) := by
  have T := L.MR.T
  obtain ⟨fW, dW, GW, bW, gW, kW⟩ := L.want
  obtain ⟨fR, dR, GR, bR, gR, kR⟩ := L.from_
  obtain ⟨tM, gM⟩ := L.most
  refine F.okX scTurned (fun vs H Q E h => ?_) (fun cdv A outer s H vs Q E hr h => ?_)
  · obtain ⟨r, x, o, p, n, ns, rfl, _⟩ := h
    rfl
  · obtain ⟨r, x, o, p, n, ns, rfl, hR, ok, ht, q⟩ := h
    obtain ⟨dx, t, h1, h2⟩ := id hR.ex
    refine ⟨_, pss_cons (ps_expr (pe_call GW (hr.mono (by decide)) rfl gW kW bW .nil pass0 (pa_cons (pv 0) pa_nil)))
      (pss_cons (ps_if (pt_not (pt_val (pe_call GR (hr.mono (by decide)) rfl gR kR bR .nil pass0 (pa_cons (pv 1) (pa_cons pe_int (pa_cons (pe_glob (v := .int 8) (by rfl) gM ⟨_, rfl⟩) pa_nil))))))
        (pss_one (ps_raise rfl (takes_of rfl rfl rfl rfl) (pmk_err L.TN (hr.mono (by decide)) rfl (by exact pa_cons pe_str pa_nil)))) pss_nil)
      (pss_one (ps_ret (pe_call GG hr rfl gG kG bG .nil pass0 (pa_cons (pv 0) (pa_cons
        (pe_lc (own := [("k", 2)]) (g := gName 2) (tt := tYes) rfl scTurned.nd (pi_range1 (by rfl) L.B.range (pa_cons (pe_fld (pv 0) rfl) pa_nil)) (blkOk_by (N := ["rule", "many", "k"]) (sc := defScope sTurned) (by decide +kernel)) (fun _ _ _ _ _ => pg_name (i := 2) scTurned.nd rfl (Or.inl rfl)) (fun _ _ _ _ _ => pts_nil)
          (fun _ _ _ _ _ => pe_op op_modN (pe_op op_add (pv 2) (pv 1)) (by exact (show PE _ _ (tFld K (tVar 0) "legs") from pe_fld (pv 0) rfl)))) pa_nil)))))), ?_⟩
    refine ⟨_, rfl, r, p, n, ns, rfl, hR, ?_⟩
    refine ⟨_, rfl, x, o, 0, 8, rfl, ht, _, rfl, ?_⟩
    rcases q with ⟨m, rfl, m8, q⟩ | ⟨e, q⟩
    · have e : within (some (m : Int)) 0 8 = true := by
        unfold within
        simp only [Option.any_some, Bool.and_eq_true, decide_eq_true_eq]
        omega
      rw [e]
      refine iteF ?_
      cases ht with
      | num =>
        have n5 := ok.five
        refine ⟨_, rfl, _, rfl, r, C, dx, _, _, rfl, h1, T.cl, T.nL, rfl, n, rfl, by omega, by omega, fun D hD => lc_it walk_range (fun i H' => H' = upd H D (.lst (((List.range i).map fun k => (((0 : Int) + (k : Nat)) + (m : Int)).fmod n).map V.int))) rfl (fun _ _ _ _ => trivial) ?_ ?_⟩
        · rintro i y H' H'' hi rfl ⟨rfl, rfl⟩
          have hi : i < n := by omega
          refine ⟨rfl, ?_⟩
          unfold tYes
          dsimp only
          rw [if_pos rfl]
          refine ⟨_, rfl, _, rfl, _, _, rfl, rfl, _, rfl, r, C, dx, _, _, rfl, new_same hD _ _ h1, T.cl, T.nL, rfl, _, _, rfl, rfl, by omega, _, upd_same, ?_, ?_⟩
          · rw [List.length_map, List.length_map, List.length_range, sizeLine_eq]
            omega
          · rw [upd_upd, List.range_succ, List.map_append, List.map_append]
            rfl
        · rintro H' rfl
          obtain ⟨o1, o2, o3⟩ := order_ok n5 (turn_all n n5 m m8)
          refine ⟨r, D, p, n, ns, turnOrder n m, rfl, hR.same (new_same hD), ok, SqL.of (upd_same.trans ?_), o1, o2, o3, fun H' q0 s' r' => q H' q0 (fun b o z => s' b o (new_same hD b o z)) r'⟩
          rw [Int.toNat_natCast]
          rfl
    · rw [e]
      refine iteT ?_
      exact ⟨_, rfl, fun _ _ _ _ => fmt_str (by decide), fun d hd => q d hd⟩
def spMirrored (C : Addr) : Sp := fun vs H Q _ => ∃ r p n ns, vs = [.ref r] ∧ RuleAt C H r p n ns ∧ RuleOk p n ns ∧ ∀ H' q, Same H H' → RuleAt C H' q p n ((idxF n (mirrorOrder n) 0).map (pickF ns)) → Q (.ref q) H'
theorem scMirrored : FnScope ["rule", "k"] ["rule"] (defScope sMirrored) := ⟨rfl, rfl, rfl, by decide +kernel, rfl, by decide +kernel, by decide +kernel⟩
theorem ok_mirrored {f fG : Addr} {fd fdG : FuncData} (F : Fun K "mirrored" "mirrored" sMirrored f fd) (L : Low P w K mg base C CN fI fdI) (GG : FnOk P w K mg base CX0 8 fG fdG ["rule", "order"] (spRegrouped K C)) (bG : Binds K fdG ["rule", "order"] []) (gG : mg "regrouped" = some (.ref fG)) (kG : PySem.W.keepIn K (.ref fG) = true) :
    FnOk P w K mg base CX0 9 f fd ["rule"] (spMirrored C) := by
  have T := L.MR.T
  obtain ⟨fW, dW, GW, bW, gW, kW⟩ := L.want
  refine F.ok scMirrored (fun vs H Q E h => ?_) (fun cdv A outer s H vs Q E hr h => ?_)
  · obtain ⟨r, p, n, ns, rfl, _⟩ := h
    rfl
  · obtain ⟨r, p, n, ns, rfl, hR, ok, q⟩ := h
    obtain ⟨dx, t, h1, h2⟩ := id hR.ex
    refine ⟨_, PSs.nox (pss_cons (ps_expr (pe_call GW (hr.mono (by decide)) rfl gW kW bW .nil pass0 (pa_cons (pv 0) pa_nil)))
      (pss_one (ps_ret (pe_call GG hr rfl gG kG bG .nil pass0 (pa_cons (pv 0) (pa_cons
        (pe_lc (own := [("k", 1)]) (g := gName 1) (tt := tYes) rfl scMirrored.nd (pi_range1 (by rfl) L.B.range (pa_cons (pe_fld (pv 0) rfl) pa_nil)) (blkOk_by (N := ["rule", "k"]) (sc := defScope sMirrored) (by decide +kernel)) (fun _ _ _ _ _ => pg_name (i := 1) scMirrored.nd rfl (Or.inl rfl)) (fun _ _ _ _ _ => pts_nil)
          (fun _ _ _ _ _ => pe_op op_sub (pe_op op_sub (by exact (show PE _ _ (tFld K (tVar 0) "legs") from pe_fld (pv 0) rfl)) pe_int) (pv 1))) pa_nil)))))), ?_⟩
    refine ⟨_, rfl, r, p, n, ns, rfl, hR, ?_⟩
    have n5 := ok.five
    refine ⟨_, rfl, _, rfl, r, C, dx, _, _, rfl, h1, T.cl, T.nL, rfl, n, rfl, by omega, by omega, fun D hD => lc_it walk_range (fun i H' => H' = upd H D (.lst (((List.range i).map fun k => ((n : Int) - 1) - ((0 : Int) + (k : Nat))).map V.int))) rfl (fun _ _ _ _ => trivial) ?_ ?_⟩
    · rintro i y H' H'' hi rfl ⟨rfl, rfl⟩
      have hi : i < n := by omega
      refine ⟨rfl, ?_⟩
      unfold tYes
      dsimp only
      rw [if_pos rfl]
      refine ⟨_, rfl, r, C, dx, _, _, rfl, new_same hD _ _ h1, T.cl, T.nL, rfl, _, _, rfl, rfl, _, rfl, _, _, rfl, rfl, _, upd_same, ?_, ?_⟩
      · rw [List.length_map, List.length_map, List.length_range, sizeLine_eq]
        omega
      · rw [upd_upd, List.range_succ, List.map_append, List.map_append]
        rfl
    · rintro H' rfl
      obtain ⟨o1, o2, o3⟩ := order_ok n5 (mirror_all n n5)
      refine ⟨r, D, p, n, ns, mirrorOrder n, rfl, hR.same (new_same hD), ok, SqL.of (upd_same.trans ?_), o1, o2, o3, fun H' q0 s' r' => q H' q0 (fun b o z => s' b o (new_same hD b o z)) r'⟩
      rw [Int.toNat_natCast]
      rfl
def spFlipped (K : PySem.W.Frag) (C CN : Addr) : Sp := fun vs H Q E => ∃ r x o p n ns, vs = [.ref r, x] ∧ RuleAt C H r p n ns ∧ RuleOk p n ns ∧ Thing K H x o ∧
  ((∃ l : Nat, o = some (l : Int) ∧ l < n ∧ ∀ H' q, Same H H' → RuleAt C H' q p n ((flipIdx n l).map (pickF ns)) → Q (.ref q) H') ∨ (within o 0 ((n : Int) - 1) = false ∧ Raised CN "part" (.str "leg") H E))
theorem scFlipped : FnScope ["rule", "leg", "mask", "k"] ["rule", "leg"] (defScope sFlipped) := ⟨rfl, rfl, rfl, by decide +kernel, rfl, by decide +kernel, by decide +kernel⟩
theorem ok_flipped {f : Addr} {fd : FuncData} (F : Fun K "flipped" "flipped" sFlipped f fd) (L : Low P w K mg base C CN fI fdI) : FnOk P w K mg base (L2.CX P w) 8 f fd ["rule", "leg"] (spFlipped K C CN) := by
  have T := L.MR.T
  obtain ⟨fW, dW, GW, bW, gW, kW⟩ := L.want
  obtain ⟨fL, dL, GL, bL, gL, kL⟩ := L.leg
  obtain ⟨fM, dM, GM, bM, gM, kM⟩ := L.mask
  refine F.okX scFlipped (fun vs H Q E h => ?_) (fun cdv A outer s H vs Q E hr h => ?_)
  · obtain ⟨r, x, o, p, n, ns, rfl, _⟩ := h
    rfl
  · obtain ⟨r, x, o, p, n, ns, rfl, hR, ok, ht, q⟩ := h
    obtain ⟨dx, t, h1, h2⟩ := id hR.ex
    have n5 := ok.five
    have p5 : (2 : Nat) ^ n ≤ 2 ^ 5 := Nat.pow_le_pow_right (by decide) n5
    refine ⟨_, pss_cons (ps_expr (pe_call GW (hr.mono (by decide)) rfl gW kW bW .nil pass0 (pa_cons (pv 0) pa_nil)))
      (pss_cons (ps_expr (pe_call (E := E) GL (hr.mono (by decide)) rfl gL kL bL .nil (passE (takes_of rfl rfl rfl rfl)) (by exact pa_cons (pv 0) (pa_cons (pv 1) (pa_cons pe_str pa_nil)))))
      (pss_cons (ps_set (i := 2) scFlipped.nd rfl (Or.inr rfl) (pe_call GM (hr.mono (by decide)) rfl gM kM bM .nil pass0 (pa_cons (pe_fld (pv 0) rfl) (pa_cons (pv 1) pa_nil))))
      (pss_one (ps_ret (pe_make L.MR.M L.MR.G hr rfl T.g L.MR.b .nil pass0 (by exact pa_cons (pe_fld (pv 0) rfl) (pa_cons
        (pe_lc (own := [("k", 3)]) (g := gName 3) (tt := tYes) rfl scFlipped.nd (pi_range1 (by rfl) L.B.range (pa_cons (pe_callB call_len_seq (by rfl) L.B.len PySem.boot_len (pa_cons (pe_fld (pv 0) rfl) pa_nil)) pa_nil)) (blkOk_by (N := ["rule", "leg", "mask", "k"]) (sc := defScope sFlipped) (by decide +kernel)) (fun _ _ _ _ _ => pg_name (i := 3) scFlipped.nd rfl (Or.inl rfl)) (fun _ _ _ _ _ => pts_nil)
          (fun _ _ _ _ _ => pe_ix (ix_tup : IxR _ (rIxT K)) (by exact (show PE _ _ (tFld K (tVar 0) "table") from pe_fld (pv 0) rfl)) (pe_op op_xor (pv 3) (pv 2)) (fun _ _ => rfl))) pa_nil))))))), ?_⟩
    refine ⟨_, rfl, r, p, n, ns, rfl, hR, ?_⟩
    refine ⟨_, rfl, _, rfl, r, x, o, "leg", p, n, ns, rfl, hR, ht, by decide, ?_⟩
    rcases q with ⟨l, rfl, hl, q⟩ | ⟨e, q⟩
    · refine .inl ⟨?_, ?_⟩
      · unfold within
        simp only [Option.any_some, Bool.and_eq_true, decide_eq_true_eq]
        omega
      cases ht with
      | num =>
        have hb := flip_all n n5 l hl
        simp only [List.all_eq_true, decide_eq_true_eq] at hb
        refine ⟨_, rfl, r, C, dx, _, _, rfl, h1, T.cl, T.nL, rfl, _, rfl, n, l, rfl, by omega, by omega, ?_⟩
        refine ⟨_, rfl, r, C, dx, _, _, rfl, h1, T.cl, T.nP, rfl, _, rfl, r, C, dx, _, _, rfl, h1, T.cl, T.nT, rfl, t, _, rfl, .inr (SqT.of h2), _, rfl, ?_⟩
        rw [List.length_map, ok.len]
        have c0 : (0 : Int) ≤ ((2 ^ n : Nat) : Int) := Int.natCast_nonneg _
        have c1 : ((2 ^ n : Nat) : Int) ≤ 32 := Int.ofNat_le.mpr p5
        refine ⟨by omega, by omega, fun D hD => lc_it walk_range (fun i H' => H' = upd H D (.lst ((((List.range i).map fun k => Builtin.bitXor ((0 : Int) + (k : Nat)) (maskF n l)).map (pickF ns)).map V.int))) rfl (fun _ _ _ _ => trivial) ?_ ?_⟩
        · rintro i y H' H'' hi rfl ⟨rfl, rfl⟩
          have hi : i < 2 ^ n := by omega
          have hm : Builtin.bitXor ((0 : Int) + (i : Nat)) (maskF n l) ∈ flipIdx n l := List.mem_map.mpr ⟨i, List.mem_range.mpr hi, rfl⟩
          obtain ⟨z0, z1⟩ := hb _ hm
          refine ⟨rfl, ?_⟩
          unfold tYes
          dsimp only
          rw [if_pos rfl]
          refine ⟨_, rfl, r, C, dx, _, _, rfl, new_same hD _ _ h1, T.cl, T.nT, rfl, _, rfl, _, rfl, _, _, rfl, rfl, t, _, _, _, rfl, rfl, SqT.of (new_same hD _ _ h2), at_pick z0 (by rw [ok.len]; exact z1), _, upd_same, ?_, ?_⟩
          · rw [List.length_map, List.length_map, List.length_map, List.length_range, sizeLine_eq]
            omega
          · rw [upd_upd, List.range_succ, List.map_append, List.map_append, List.map_append]
            rfl
        · rintro H' rfl
          rw [Int.toNat_natCast]
          exact made (pick_ok2 ok n5 (by unfold flipIdx; rw [List.length_map, List.length_range]) hb) upd_same fun H' q0 s' r' => q H' q0 (fun b o z => s' b o (new_same hD b o z)) r'
    · exact .inr ⟨e, q⟩
def spSetLeg (K : PySem.W.Frag) (C CN : Addr) : Sp := fun vs H Q E => ∃ r x y o u p n ns, vs = [.ref r, x, y] ∧ RuleAt C H r p n ns ∧ RuleOk p n ns ∧ Thing K H x o ∧ Thing K H y u ∧
  ((∃ l : Nat, o = some (l : Int) ∧ l < n ∧ ((∃ b : Int, u = some b ∧ (b = 0 ∨ b = 1) ∧ ∀ H' q, Same H H' → RuleAt C H' q p (n - 1) ((setIdx n l b).map (pickF ns)) → Q (.ref q) H') ∨ (within u 0 1 = false ∧ Raised CN "part" (.str "bit") H E))) ∨
    (within o 0 ((n : Int) - 1) = false ∧ Raised CN "part" (.str "leg") H E))
theorem scSetLeg : FnScope ["rule", "leg", "bit", "others", "base", "k"] ["rule", "leg", "bit"] (defScope sSetLeg) := ⟨rfl, rfl, rfl, by decide +kernel, rfl, by decide +kernel, by decide +kernel⟩
theorem rest_yes {n l m : Nat} (h : m ≠ l) : restLegs n l (m + 1) = restLegs n l m ++ [(0 : Int) + (m : Nat)] := by
  unfold restLegs
  rw [List.range_succ, List.map_append, List.filter_append]
  simp
  omega
theorem rest_no {n l m : Nat} (h : m = l) : restLegs n l (m + 1) = restLegs n l m := by
  unfold restLegs
  rw [List.range_succ, List.map_append, List.filter_append]
  simp [h]
theorem rest_len (n l m : Nat) : (restLegs n l m).length ≤ m := by
  unfold restLegs
  exact Nat.le_trans (List.length_filter_le _ _) (by simp)
theorem ok_set_leg {f : Addr} {fd : FuncData} (F : Fun K "set_leg" "set_leg" sSetLeg f fd) (L : Low P w K mg base C CN fI fdI) : FnOk P w K mg base (L2.CX P w) 8 f fd ["rule", "leg", "bit"] (spSetLeg K C CN) := by
  have T := L.MR.T
  obtain ⟨fW, dW, GW, bW, gW, kW⟩ := L.want
  obtain ⟨fL, dL, GL, bL, gL, kL⟩ := L.leg
  obtain ⟨fM, dM, GM, bM, gM, kM⟩ := L.mask
  obtain ⟨fB, dB, GB, bB, gB, kB⟩ := L.bit
  obtain ⟨fS, dS, GS, bS, gS, kS⟩ := L.sums
  refine F.okX scSetLeg (fun vs H Q E h => ?_) (fun cdv A outer s H vs Q E hr h => ?_)
  · obtain ⟨r, x, y, o, u, p, n, ns, rfl, _⟩ := h
    rfl
  · obtain ⟨r, x, y, o, u, p, n, ns, rfl, hR, ok, ht, hu, q⟩ := h
    obtain ⟨dx, t, h1, h2⟩ := id hR.ex
    have n5 := ok.five
    refine ⟨_, pss_cons (ps_expr (pe_call GW (hr.mono (by decide)) rfl gW kW bW .nil pass0 (pa_cons (pv 0) pa_nil)))
      (pss_cons (ps_expr (pe_call (E := E) GL (hr.mono (by decide)) rfl gL kL bL .nil (passE (takes_of rfl rfl rfl rfl)) (by exact pa_cons (pv 0) (pa_cons (pv 1) (pa_cons pe_str pa_nil)))))
      (pss_cons (ps_if (pt_not (pt_val (pe_call GB (hr.mono (by decide)) rfl gB kB bB .nil pass0 (pa_cons (pv 2) pa_nil))))
        (pss_one (ps_raise rfl (takes_of rfl rfl rfl rfl) (pmk_err L.TN (hr.mono (by decide)) rfl (by exact pa_cons pe_str pa_nil)))) pss_nil)
      (pss_cons (ps_setLc (i := 3) (own := [("k", 5)]) (g := gName 5) rfl scSetLeg.nd rfl rfl (sw_true rfl rfl rfl (by decide +kernel)) (pi_range1 (by rfl) L.B.range (pa_cons (pe_fld (pv 0) rfl) pa_nil)) (blkOk_by (N := ["rule", "leg", "bit", "others", "base", "k"]) (sc := defScope sSetLeg) (by decide +kernel)) (fun _ _ _ _ _ => pg_name (i := 5) scSetLeg.nd rfl (Or.inl rfl))
          (fun _ _ _ _ _ => pts_one (pt_cmpR op_ne (pv 5) (pv 1) (nomark _))) (fun _ _ _ _ _ => pv 5))
      (pss_cons (ps_set (i := 4) scSetLeg.nd rfl (Or.inl rfl) (pe_op op_mul (pv 2) (pe_call GM (hr.mono (by decide)) rfl gM kM bM .nil pass0 (pa_cons (pe_fld (pv 0) rfl) (pa_cons (pv 1) pa_nil)))))
      (pss_one (ps_ret (pe_make L.MR.M L.MR.G hr rfl T.g L.MR.b .nil pass0 (by exact pa_cons (pe_fld (pv 0) rfl) (pa_cons
        (pe_lc (own := [("k", 5)]) (g := gName 5) (tt := tYes) rfl scSetLeg.nd (pi_list (pe_call GS (hr.mono (by decide)) rfl gS kS bS .nil pass0 (pa_cons (pe_fld (pv 0) rfl) (pa_cons (pv 3) (pa_cons (pv 4) pa_nil))))) (blkOk_by (N := ["rule", "leg", "bit", "others", "base", "k"]) (sc := defScope sSetLeg) (by decide +kernel)) (fun _ _ _ _ _ => pg_name (i := 5) scSetLeg.nd rfl (Or.inl rfl)) (fun _ _ _ _ _ => pts_nil)
          (fun _ _ _ _ _ => pe_ix (ix_tup : IxR _ (rIxT K)) (by exact (show PE _ _ (tFld K (tVar 0) "table") from pe_fld (pv 0) rfl)) (pv 5) (fun _ _ => rfl))) pa_nil))))))))), ?_⟩
    refine ⟨_, rfl, r, p, n, ns, rfl, hR, ?_⟩
    refine ⟨_, rfl, _, rfl, r, x, o, "leg", p, n, ns, rfl, hR, ht, by decide, ?_⟩
    rcases q with ⟨l, rfl, hl, q⟩ | ⟨e, q⟩
    · refine .inl ⟨?_, ?_⟩
      · unfold within
        simp only [Option.any_some, Bool.and_eq_true, decide_eq_true_eq]
        omega
      refine ⟨_, rfl, y, u, rfl, hu, _, rfl, ?_⟩
      rcases q with ⟨b, rfl, hb, q⟩ | ⟨e, q⟩
      · have e : within (some b) 0 1 = true := by
          unfold within
          simp only [Option.any_some, Bool.and_eq_true, decide_eq_true_eq]
          omega
        rw [e]
        refine iteF ?_
        cases ht with
        | num =>
          cases hu with
          | num =>
            have hs := set_all n n5 l hl b hb
            unfold setB at hs
            simp only [Bool.and_eq_true, decide_eq_true_eq, List.all_eq_true] at hs
            obtain ⟨⟨s1, s2⟩, s3⟩ := hs
            refine ⟨_, rfl, r, C, dx, _, _, rfl, h1, T.cl, T.nL, rfl, n, rfl, by omega, by omega, fun D hD => lc_it walk_range (fun i H' => H' = upd H D (.lst ((restLegs n l i).map V.int))) rfl (fun _ _ _ _ => trivial) ?_ ?_⟩
            · rintro i z H' H'' hi rfl ⟨rfl, rfl⟩
              have hi : i < n := by omega
              refine ⟨rfl, ?_⟩
              refine ⟨_, rfl, _, rfl, rfl, _, rfl, ?_⟩
              by_cases hil : i = l
              · have e2 : (!decide (V.int ((0 : Int) + (i : Nat)) = V.int (l : Int))) = false := by
                  rw [hil, Int.zero_add]
                  simp
                rw [e2]
                refine iteF ?_
                rw [rest_no hil]
              · have e2 : (!decide (V.int ((0 : Int) + (i : Nat)) = V.int (l : Int))) = true := by
                  rw [Bool.not_eq_true', decide_eq_false_iff_not]
                  intro z
                  injection z with z
                  omega
                rw [e2]
                refine iteT ?_
                refine ⟨_, rfl, _, upd_same, ?_, ?_⟩
                · rw [List.length_map, sizeLine_eq]
                  have := rest_len n l i
                  omega
                · rw [upd_upd, rest_yes hil, List.map_append]
                  rfl
            · rintro H' rfl
              rw [Int.toNat_natCast]
              have atD : upd H D (.lst ((restLegs n l n).map V.int)) D = some _ := upd_same
              have sD := new_same (o := .lst ((restLegs n l n).map V.int)) hD
              generalize upd H D (.lst ((restLegs n l n).map V.int)) = H1 at atD sD ⊢
              refine ⟨_, rfl, _, rfl, r, C, dx, _, _, rfl, sD _ _ h1, T.cl, T.nL, rfl, _, rfl, n, l, rfl, by omega, by omega, _, _, rfl, rfl, .inl ⟨by omega, by omega⟩, ?_⟩
              refine ⟨_, rfl, r, C, dx, _, _, rfl, sD _ _ h1, T.cl, T.nP, rfl, _, rfl, r, C, dx, _, _, rfl, sD _ _ h1, T.cl, T.nL, rfl, _, rfl, _, rfl, n, D, restLegs n l n, b * maskF n l, rfl, SqL.of atD, ⟨by omega, s2⟩, fun H2 q2 sH hq => ?_⟩
              have idxL : (setIdx n l b).length = 2 ^ (n - 1) := by
                unfold setIdx idxF
                rw [sums_len, List.length_map]
                exact congrArg (fun m => 2 ^ m) (by omega)
              refine ⟨q2, rfl, ⟨_, SqL.of hq⟩, fun G hG => lc_list (K := K) (a := q2) (xs := (setIdx n l b).map V.int) (fun i H' => H' = upd H2 G (.lst ((((setIdx n l b).take i).map (pickF ns)).map V.int))) rfl ?_ ?_ ?_⟩
              · rintro i H' _ rfl
                exact SqL.of (new_same hG _ _ hq)
              · rintro i z H' hx rfl
                obtain ⟨z, rfl, hz⟩ := at_ints hx
                obtain ⟨z0, z1⟩ := s3 z (List.mem_of_getElem? hz)
                refine ⟨rfl, ?_⟩
                unfold tYes
                dsimp only
                rw [if_pos rfl]
                refine ⟨_, rfl, r, C, dx, _, _, rfl, new_same hG _ _ (sH _ _ (sD _ _ h1)), T.cl, T.nT, rfl, _, rfl, t, _, z, _, rfl, rfl, SqT.of (new_same hG _ _ (sH _ _ (sD _ _ h2))), at_pick z0 (by rw [ok.len]; exact z1), _, upd_same, ?_, ?_⟩
                · rw [List.length_map, List.length_map, List.length_take, idxL, sizeLine_eq]
                  have : (2 : Nat) ^ (n - 1) ≤ 2 ^ 5 := Nat.pow_le_pow_right (by decide) (by omega)
                  omega
                · rw [upd_upd, take_more hz, List.map_append, List.map_append]
                  rfl
              · rintro H' rfl
                rw [List.length_map, List.take_length]
                exact made (pick_ok2 ok (by omega) idxL s3) upd_same fun H' q0 s' r' => q H' q0 (fun b o z => s' b o (new_same hG b o (sH b o (sD b o z)))) r'
      · rw [e]
        refine iteT ?_
        exact ⟨_, rfl, fun _ _ _ _ => fmt_str (by decide), fun d hd => q d hd⟩
    · exact .inr ⟨e, q⟩
end
end K
end
section
set_option linter.all false
set_option maxRecDepth 100000
set_option maxHeartbeats 4000000
/-! plain data at tracked addresses: in an f-string, by repr -/
namespace Ob
open PySem PySem.Spec PyProof.Rows L2
mutual
/-- v is this data: a list of lists, tuples, numbers, texts; a dict of tuples, numbers, texts -/
def DataAt (H : Hp) : PyData → V → Prop
  | .none, v => v = .non
  | .bool b, v => v = .bl b
  | .int i, v => v = .int i
  | .str x, v => v = .str x
  | .list ds, v => ∃ a xs, v = .ref a ∧ H a = some (.lst xs) ∧ DataAll H ds xs
  | .tuple ds, v => ∃ a xs, v = .ref a ∧ H a = some (.tup xs) ∧ DataAll H ds xs
  | .dict kvs, v => ∃ a es, v = .ref a ∧ H a = some (.dK es) ∧ DataKvs H kvs es
def DataAll (H : Hp) : List PyData → List V → Prop
  | [], vs => vs = []
  | d :: ds, vs => ∃ x xs, vs = x :: xs ∧ DataAt H d x ∧ DataAll H ds xs
def DataKvs (H : Hp) : List (PyData × PyData) → List (Key × V) → Prop
  | [], es => es = []
  | (k, d) :: kvs, es => ∃ (x : Str) (v : V) (es' : List (Key × V)), es = (Sum.inr x, v) :: es' ∧ k = .str x ∧ DataAt H d v ∧ DataKvs H kvs es'
end
mutual
/-- no list within -/
def noList : PyData → Bool
  | .none | .bool _ | .int _ | .str _ => true
  | .list _ => false
  | .tuple ds => noListAll ds
  | .dict kvs => noListKv kvs
def noListAll : List PyData → Bool
  | [] => true
  | d :: ds => noList d && noListAll ds
def noListKv : List (PyData × PyData) → Bool
  | [] => true
  | (_, d) :: r => noList d && noListKv r
end
section
variable {P : Program} {w : World} {H : Hp} {h : Heap}
theorem kvs_reads {es : List DictEntry} {xs : List (Key × Value)} (p : Pairs (mixKind P w) es xs) : True := trivial
mutual
theorem reads_of (ok : HOk P w H h) : ∀ (d : PyData) (v : V) (u : Value), DataAt H d v → RelV v u → ∃ as, Reads h u d as ∧ (noList d = true ∨ H sysModules = none → sysModules ∉ as)
  | .none, _, u, e, r => by
    have e : _ = V.non := e
    subst e
    cases r
    exact ⟨_, .none, fun _ z => by cases z⟩
  | .bool b, _, u, e, r => by
    have e : _ = V.bl b := e
    subst e
    cases r
    exact ⟨_, .bool b, fun _ z => by cases z⟩
  | .int i, _, u, e, r => by
    have e : _ = V.int i := e
    subst e
    obtain ⟨t, rfl⟩ := r
    exact ⟨_, .int i t, fun _ z => by cases z⟩
  | .str x, _, u, e, r => by
    have e : _ = V.str x := e
    subst e
    obtain ⟨t, rfl⟩ := r
    exact ⟨_, .str x t, fun _ z => by cases z⟩
  | .list ds, v, u, e, r => by
    obtain ⟨a, xs, rfl, ha, hd⟩ : ∃ a xs, v = V.ref a ∧ H a = some (.lst xs) ∧ DataAll H ds xs := by simpa only [DataAt] using e
    cases r
    obtain ⟨_, its, n, rv, ho⟩ := ok a _ ha
    obtain ⟨as, hr, hn⟩ := readsAll_of ok ds xs its hd rv
    refine ⟨_, .list ho rfl rfl (by simpa using hr), fun z hm => ?_⟩
    rcases z with z | z
    · simp [noList] at z
    · rcases List.mem_cons.mp hm with e | hm
      · rw [e, ha] at z
        cases z
      · exact hn (.inr z) hm
  | .tuple ds, v, u, e, r => by
    obtain ⟨a, xs, rfl, ha, hd⟩ : ∃ a xs, v = V.ref a ∧ H a = some (.tup xs) ∧ DataAll H ds xs := by simpa only [DataAt] using e
    cases r
    obtain ⟨_, its, rv, o, ho, hc, n, hdt⟩ := ok a _ ha
    obtain ⟨as, hr, hn⟩ := readsAll_of ok ds xs its hd rv
    exact ⟨_, .tuple ho hc hdt (by simpa using hr), fun z => hn (z.imp (fun z => by simpa only [noList] using z) id)⟩
  | .dict kvs, v, u, e, r => by
    obtain ⟨a, es, rfl, ha, hd⟩ : ∃ a es, v = V.ref a ∧ H a = some (.dK es) ∧ DataKvs H kvs es := by simpa only [DataAt] using e
    cases r
    obtain ⟨_, hs, vs, rv, o, es', ep, ho, hx, hdt, hk, hp, _⟩ := ok a _ ha
    obtain ⟨as, bs, h1, h2, hn⟩ := readsKv_of ok kvs es vs es'.toList hd rv hp
    refine ⟨_, .dict (o := o) (es := es') (n := ep) ho hx.1 hdt h1 h2, fun z hm => ?_⟩
    rcases List.mem_append.mp hm with hm | hm
    · rcases List.mem_cons.mp hm with hm | hm
      · rw [← hm] at hs
        simp at hs
      · exact (hn (z.imp (fun z => by simpa only [noList] using z) id)).1 hm
    · exact (hn (z.imp (fun z => by simpa only [noList] using z) id)).2 hm
theorem readsAll_of (ok : HOk P w H h) : ∀ (ds : List PyData) (xs : List V) (us : List Value), DataAll H ds xs → Vals xs us → ∃ as, ReadsAll h us ds as ∧ (noListAll ds = true ∨ H sysModules = none → sysModules ∉ as)
  | [], xs, us, e, r => by
    have e : xs = [] := by simpa only [DataAll] using e
    subst e
    cases r
    exact ⟨_, .nil, fun _ z => by cases z⟩
  | d :: ds, xs, us, e, r => by
    obtain ⟨x, xs', rfl, hd, hds⟩ : ∃ x xs', xs = x :: xs' ∧ DataAt H d x ∧ DataAll H ds xs' := by simpa only [DataAll] using e
    cases r with
    | cons r1 r2 =>
      obtain ⟨as, h1, n1⟩ := reads_of ok d _ _ hd r1
      obtain ⟨bs, h2, n2⟩ := readsAll_of ok ds _ _ hds r2
      refine ⟨_, .cons h1 h2, fun z hm => ?_⟩
      have z : (noList d = true ∧ noListAll ds = true) ∨ H sysModules = none := z.imp (fun z => by simpa only [noListAll, Bool.and_eq_true] using z) id
      rcases List.mem_append.mp hm with hm | hm
      · exact n1 (z.imp And.left id) hm
      · exact n2 (z.imp And.right id) hm
theorem readsKv_of (ok : HOk P w H h) : ∀ (kvs : List (PyData × PyData)) (es : List (Key × V)) (vs : List (Key × Value)) (ds : List DictEntry), DataKvs H kvs es → KV es vs → Pairs (mixKind P w) ds vs →
    ∃ as bs, ReadsAll h (ds.map (·.key)) (kvs.map (·.1)) as ∧ ReadsAll h (ds.map (·.val)) (kvs.map (·.2)) bs ∧ (noListKv kvs = true ∨ H sysModules = none → sysModules ∉ as ∧ sysModules ∉ bs)
  | [], es, vs, ds, e, r, p => by
    have e : es = [] := by simpa only [DataKvs] using e
    subst e
    cases r
    cases p
    exact ⟨[], [], .nil, .nil, fun _ => ⟨fun z => (nomatch z), fun z => (nomatch z)⟩⟩
  | (k, d) :: kvs, es, vs, ds, e, r, p => by
    obtain ⟨x, v, es', rfl, rfl, hd, hds⟩ : ∃ (x : Str) (v : V) (es' : List (Key × V)), es = (Sum.inr x, v) :: es' ∧ k = .str x ∧ DataAt H d v ∧ DataKvs H kvs es' := by simpa only [DataKvs] using e
    cases r with
    | @cons _ q _ vs2 r1 r2 =>
      cases p with
      | @cons e _ es2 _ p1 p2 p3 =>
        obtain ⟨q1, q2⟩ := q
        obtain ⟨e1, e2⟩ := r1
        dsimp only at e1 e2 p1 p2
        subst e1
        obtain ⟨as, h1, n1⟩ := reads_of ok d _ _ hd e2
        obtain ⟨cs, bs, h2, h3, n2⟩ := readsKv_of ok kvs _ _ _ hds r2 p3
        obtain ⟨t, hk⟩ : ∃ t, e.key = Value.str x t := Value.isStrOf_shape p1
        refine ⟨_, _, .cons (by show Reads h e.key (PyData.str x) _; rw [hk]; exact .str x t) h2, .cons (by show Reads h e.val d _; rw [p2]; exact h1) h3, fun z => ?_⟩
        have z : (noList d = true ∧ noListKv kvs = true) ∨ H sysModules = none := z.imp (fun z => by simpa only [noListKv, Bool.and_eq_true] using z) id
        refine ⟨fun hm => (n2 (z.imp And.right id)).1 (by simpa using hm), fun hm => ?_⟩
        rcases List.mem_append.mp hm with hm | hm
        · exact n1 (z.imp And.left id) hm
        · exact (n2 (z.imp And.right id)).2 hm
end
/-- data that may stand in a message -/
structure Small (d : PyData) : Prop where
  show_ : d.showable = true
  dict : d.hasDict = true → noList d = true
  len : d.shown.length ≤ 100000
  depth : d.depth ≤ 50
  txt : ∀ x, d = .str x → x.length ≤ 100000
theorem fmt_data {A : Around} {d : PyData} {v : V} (hg : A.guards = some []) (hu : A.units + 60 < cLine) (S : Small d) (hd : DataAt H d v) : Fmt P w A H v := by
  intro E s u Q ok r q
  obtain ⟨as, hr, hn⟩ := reads_of ok d v u hd r
  have hz : d.shown.length ≤ sizeLine := by
    have := S.len
    rw [sizeLine_eq]
    omega
  have hdp := S.depth
  cases hr with
  | none => exact wpAny_formatField_none (q _ _ _ s.heap (by decide +kernel) fun _ _ z => z)
  | bool b => exact wpAny_formatField_bool (q _ _ _ s.heap (by cases b <;> decide +kernel) fun _ _ z => z)
  | int i t =>
    have hs := S.show_
    simp only [PyData.showable, decide_eq_true_eq] at hs
    have hl := S.len
    simp only [PyData.shown] at hl
    exact wpAny_formatField_int hs (q _ _ _ s.heap hl fun _ _ z => z)
  | str x t =>
    have e : v = V.str x := by simpa only [DataAt] using hd
    subst e
    exact fmt_str (S.txt x rfl) E s _ Q ok ⟨t, rfl⟩ q
  | list a1 a2 a3 a4 => exact formatField_of_reads (.list a1 a2 a3 a4) S.show_ (fun z => hn (.inl (S.dict z))) hg (by omega) (fun _ _ z => z) (fun h' u tk k => q _ _ _ h' S.len k) hz
  | tuple a1 a2 a3 a4 => exact formatField_of_reads (.tuple a1 a2 a3 a4) S.show_ (fun z => hn (.inl (S.dict z))) hg (by omega) (fun _ _ z => z) (fun h' u tk k => q _ _ _ h' S.len k) hz
  | dict a1 a2 a3 a4 a5 => exact formatField_of_reads (.dict a1 a2 a3 a4 a5) S.show_ (fun z => hn (.inl (S.dict z))) hg (by omega) (fun _ _ z => z) (fun h' u tk k => q _ _ _ h' S.len k) hz
end
/-- repr([..]) of tracked data -/
def rReprD : List V → Hp → VK → Prop := fun xs H Q => ∃ (a : Addr) (d : PyData), xs = [.ref a] ∧ DataAt H d (.ref a) ∧ d.showable = true ∧ d.shown.length ≤ 100000 ∧ d.depth ≤ 50 ∧ Q (.str d.shown) H
theorem call_reprD {X : Cx} (hg : X.A.guards = some []) (hu : X.A.units + 60 < cLine) {o1 : Obj} (h1 : X.K.lookup sysModules = some o1) : CallR X (.builtin "repr") rReprD := by
  intro pins s σ H xs us Q I r h
  obtain ⟨a, d, rfl, hd, hs, hl, hdp, q⟩ := h
  cases r with
  | cons rx rr =>
    cases rr
    cases rx
    obtain ⟨as, hr, hn⟩ := reads_of I.hok d _ _ hd rfl
    have z : H sysModules = none := (I.bs _ _ (I.mod.kin _ _ h1)).2
    have hz : d.shown.length ≤ sizeLine := by
      rw [sizeLine_eq]
      omega
    exact repr_of_reads' hr hs (fun _ => hn (.inr z)) hg (by omega) (fun _ _ z => z) (fun h' u tk k => ⟨.str d.shown, H, I.kept k, ⟨_, rfl⟩, q⟩) hz
end Ob
end
section
set_option linter.all false
set_option maxRecDepth 100000
set_option maxHeartbeats 4000000
/-! repr of a tracked list of data: only a dict within asks what stands where -/
namespace Ob
open PySem PySem.Spec PyProof.Rows L2
def rReprL : List V → Hp → VK → Prop := fun xs H Q => ∃ (a : Addr) (ys : List V) (ds : List PyData), xs = [.ref a] ∧ H a = some (.lst ys) ∧ DataAll H ds ys ∧ ds ≠ [] ∧ (PyData.list ds).showable = true ∧
  (PyData.list ds).shown.length ≤ 100000 ∧ (PyData.list ds).depth ≤ 50 ∧ ((PyData.list ds).hasDict = true → noListAll ds = true) ∧ Q (.str (PyData.list ds).shown) H
theorem call_reprL {X : Cx} (hg : X.A.guards = some []) (hu : X.A.units + 60 < cLine) : CallR X (.builtin "repr") rReprL := by
  intro pins s σ H xs us Q I r h
  obtain ⟨a, ys, ds, rfl, ha, hd, hne, hs, hl, hdp, hdict, q⟩ := h
  cases r with
  | cons rx rr =>
    cases rr
    cases rx
    obtain ⟨_, its, n, rv, ho⟩ := I.hok a _ ha
    obtain ⟨as, hr, hn⟩ := readsAll_of I.hok ds ys its hd rv
    have whole : Reads s.heap (.ref a) (.list ds) (a :: as) := .list ho rfl rfl (by simpa using hr)
    have fits : (listText (PyData.shownAll ds)).length ≤ sizeLine := by
      have e : (listText (PyData.shownAll ds)).length ≤ 100000 := by simpa only [PyData.shown] using hl
      rw [sizeLine_eq]
      omega
    have deep : PyData.depthAll ds < 50 := by
      simp only [PyData.depth] at hdp
      omega
    have shows : PyData.showableAll ds = true := by
      simp only [PyData.showable] at hs
      exact hs
    have quiet : PyData.hasDictAll ds = true → sysModules ∉ as := fun z => hn (.inl (hdict (by
      simp only [PyData.hasDict]
      exact z)))
    obtain ⟨bs, below, each⟩ := ReprAllK.of_readsAll (prog := X.prog) (w := X.w) hr shows quiet fun t m => Nat.le_trans (listText_mem_le m) fits
    have apart : a ∉ bs := by
      refine not_mem_of_deeper whole ?_ below
      simp only [PyData.depth]
      omega
    have end_ : ∀ (h' : Heap) (t tk : Tok), (∀ b o, s.heap.get? b = some o → h'.get? b = some o) → ∃ v H', Inv X pins σ H' { s with heap := h', toks := tk } ∧ RelV v (.str (listText (PyData.shownAll ds)) t) ∧ Q v H' := fun h' t tk k =>
      ⟨.str (listText (PyData.shownAll ds)), H, I.kept k, ⟨_, rfl⟩, by simpa only [PyData.shown] using q⟩
    refine call_repr_slot (by omega) ⟨_, ho, rfl⟩ F.slot_list_repr.toG ?_
    cases its with
    | nil =>
      cases hr
      exact absurd rfl hne
    | cons x l => exact call_list_reprK ho rfl rfl apart (by simpa using each.length_eq) (fun i y e => each.item i y (by simpa using e)) hg (fun b _ => Clear.nil b) (by show X.A.units + 1 + (PyData.depthAll ds + 1) < cLine; omega) (fun _ _ z => z) (fun h' t tk k => ⟨_, _, rfl, end_ h' t tk k⟩) fits
end Ob
end
section
set_option linter.all false
set_option maxRecDepth 100000
set_option maxHeartbeats 4000000
/-! repr of tracked data without a dict -/
namespace Ob
open PySem PySem.Spec PyProof.Rows L2
def rReprN : List V → Hp → VK → Prop := fun xs H Q => ∃ (a : Addr) (d : PyData), xs = [.ref a] ∧ DataAt H d (.ref a) ∧ d.hasDict = false ∧ d.showable = true ∧ d.shown.length ≤ 100000 ∧ d.depth ≤ 50 ∧ Q (.str d.shown) H
theorem call_reprN {X : Cx} (hg : X.A.guards = some []) (hu : X.A.units + 60 < cLine) : CallR X (.builtin "repr") rReprN := by
  intro pins s σ H xs us Q I r h
  obtain ⟨a, d, rfl, hd, hnd, hs, hl, hdp, q⟩ := h
  cases r with
  | cons rx rr =>
    cases rr
    cases rx
    obtain ⟨as, hr, _⟩ := reads_of I.hok d _ _ hd rfl
    have hz : d.shown.length ≤ sizeLine := by
      rw [sizeLine_eq]
      omega
    exact repr_of_reads' hr hs (fun z => by rw [hnd] at z; cases z) hg (by omega) (fun _ _ z => z) (fun h' u tk k => ⟨.str d.shown, H, I.kept k, ⟨_, rfl⟩, q⟩) hz
/-- a number and a tuple of numbers -/
def duo (p : Int) (ns : List Int) : PyData := .tuple [.int p, .tuple (ns.map PyData.int)]
theorem small_shows : ∀ n : Nat, n < 100 → (PyData.int (n : Int)).showable = true := by decide +kernel
theorem small_showable {i : Int} (h0 : 0 ≤ i) (h1 : i < 100) : (PyData.int i).showable = true := by
  obtain ⟨n, rfl⟩ := Int.eq_ofNat_of_zero_le h0
  exact small_shows n (by omega)
theorem ints_no_dict : ∀ ns : List Int, PyData.hasDictAll (ns.map PyData.int) = false
  | [] => rfl
  | n :: ns => by
    simp only [List.map_cons, PyData.hasDictAll, PyData.hasDict, ints_no_dict ns, Bool.or_self]
theorem ints_showable : ∀ ns : List Int, (∀ x ∈ ns, 0 ≤ x ∧ x < 100) → PyData.showableAll (ns.map PyData.int) = true
  | [], _ => rfl
  | n :: ns, h => by
    have h1 := h n (by simp)
    have h2 := ints_showable ns fun x hx => h x (by simp [hx])
    simp only [List.map_cons, PyData.showableAll, h2, small_showable h1.1 h1.2, Bool.and_self]
theorem ints_shown_len : ∀ ns : List Int, (∀ x ∈ ns, 0 ≤ x ∧ x < 100) → ((PyData.shownAll (ns.map PyData.int)).map (·.length)).sum ≤ 13 * ns.length ∧ (PyData.shownAll (ns.map PyData.int)).length = ns.length
  | [], _ => ⟨Nat.le_refl _, rfl⟩
  | n :: ns, h => by
    have h1 := h n (by simp)
    obtain ⟨h2, h3⟩ := ints_shown_len ns fun x hx => h x (by simp [hx])
    have h4 := PyData.shown_int_le (i := n) (by omega)
    simp only [List.map_cons, PyData.shownAll, List.sum_cons, List.length_cons]
    omega
theorem ints_depth : ∀ ns : List Int, PyData.depthAll (ns.map PyData.int) = 0
  | [] => rfl
  | n :: ns => by
    simp only [List.map_cons, PyData.depthAll, PyData.depth, ints_depth ns]
    rfl
theorem duo_ok {p : Int} {ns : List Int} (hp : 0 ≤ p ∧ p < 100) (hn : ∀ x ∈ ns, 0 ≤ x ∧ x < 100) (hl : ns.length ≤ 256) : (duo p ns).hasDict = false ∧ (duo p ns).showable = true ∧ (duo p ns).shown.length ≤ 100000 ∧ (duo p ns).depth ≤ 50 := by
  refine ⟨?_, ?_, ?_, ?_⟩
  · simp only [duo, PyData.hasDict, PyData.hasDictAll, ints_no_dict, Bool.or_self]
  · simp only [duo, PyData.showable, PyData.showableAll, ints_showable ns hn, Bool.and_true]
    exact small_showable hp.1 hp.2
  · obtain ⟨h1, h2⟩ := ints_shown_len ns hn
    have h3 := tupleText_len_le (PyData.shownAll (ns.map PyData.int))
    have h4 := PyData.shown_int_le (i := p) (by omega)
    have h5 := tupleText_len_le [PyData.shown (.int p), tupleText (PyData.shownAll (ns.map PyData.int))]
    simp only [duo, PyData.shown, PyData.shownAll]
    simp only [List.map_cons, List.map_nil, List.sum_cons, List.sum_nil, List.length_cons, List.length_nil] at h5
    have h6 : (PyData.shown (.int p)) = toString p := by simp only [PyData.shown]
    rw [h6] at h4 h5
    omega
  · simp only [duo, PyData.depth, PyData.depthAll, ints_depth]
    omega
theorem ints_data {H : Hp} : ∀ ns : List Int, DataAll H (ns.map PyData.int) (ns.map V.int)
  | [] => by simp only [List.map_nil, DataAll]
  | n :: ns => by
    simp only [List.map_cons, DataAll, DataAt]
    exact ⟨_, _, rfl, rfl, ints_data ns⟩
theorem duo_data {H : Hp} {a t : Addr} {p : Int} {ns : List Int} (ha : H a = some (.tup [.int p, .ref t])) (ht : H t = some (.tup (ns.map V.int))) : DataAt H (duo p ns) (.ref a) := by
  simp only [duo, DataAt, DataAll]
  exact ⟨a, _, rfl, ha, _, _, rfl, rfl, _, _, rfl, ⟨t, _, rfl, ht, ints_data ns⟩, rfl⟩
end Ob
end
section
set_option linter.all false
set_option maxRecDepth 100000
set_option maxHeartbeats 4000000
/-! promises of defs that run where no repr is under way -/
namespace Ob
open PySem PySem.Spec PyProof.Rows L2
/-- a def's promise, kept where no repr is under way -/
structure FnG (P : Program) (w : World) (K : PySem.W.Frag) (mg : Str → Option Value) (base : Heap) (k : Nat) (f : Addr) (fd : FuncData) (ps : List Str) (sp : Sp) : Prop where
  many : ∀ vs H Q E, sp vs H Q E → vs.length = ps.length
  go : ∀ (A : Around) (outer : List Env) (s : Shared) (H : Hp) (us : List Value) (vs : List V) (Q : VK) (E : XK), A.guards = some [] → Room k A → Env0 P w K mg base A outer s H → BindsTo s fd ⟨us, []⟩ (ps.zip us) → Vals vs us → sp vs H Q E →
    codeAny (model P w) A (.call (.ref f) ⟨us, []⟩) (CR CX0 outer P w H s Q E) s
section
variable {P : Program} {w : World} {K : PySem.W.Frag} {mg : Str → Option Value} {base : Heap}
/-- a def of the text, by its body -/
theorem fnG_of {x qual : Str} {st : Stmt} {f : Addr} {fd : FuncData} {N ps : List Str} {k : Nat} {sp : Sp} (F : Fun K x qual st f fd) (S : FnScope N ps (defScope st)) (len : ∀ vs H Q E, sp vs H Q E → vs.length = ps.length)
    (body : ∀ (cdv : Value) (A : Around) (outer : List Env) (s : Shared) (H : Hp) (vs : List V) (Q : VK) (E : XK), (A.deeper (envOfC qual (defScope st) s.heap.objs.size f cdv)).guards = some [] → Room k (A.deeper (envOfC qual (defScope st) s.heap.objs.size f cdv)) → sp vs H Q E →
      ∃ t, PSs (cxOf CX0 P w K mg base N qual (defScope st) f cdv A outer s H E) (defBody st) t ∧ t { nx := fun _ H' => Q .non H', rt := Q } (start N vs) H) : FnG P w K mg base (k + 1) f fd ps sp := by
  obtain ⟨oc, od, kV, doc, pm, an, cdv, ct, osl, rfl, lk, hcd⟩ := F.ex
  refine ⟨len, fun A outer s H us vs Q E hG hr e0 hb r hsp => ?_⟩
  have KX : K.In s.heap := e0.mod.kin.keeps fun b o e => (e0.bs b o e).1
  have lim : s.heap.NoLimit := e0.mod.nolimit.keeps fun b o e => (e0.bs b o e).1
  have kinds : ∀ y ∈ ps.zip us, (defScope st).names.lookup y.1 = some .local ∨ ((defScope st).names.lookup y.1 = some .cell ∧ ((cellsFrom (s.heap.objs.size + 1) (defScope st).names []).lookup y.1).isSome = true) := fun ⟨n, v⟩ hy =>
    (S.par n (List.of_mem_zip hy).1).elim .inl fun q => .inr ⟨q, PySem.W.cellsFrom_some _ _ _ (.inl q)⟩
  refine codeAny_call_function hr.depth (KX _ _ lk) rfl S.co S.gen rfl (PySem.W.codeRec_of KX hcd) (hb _ _ _ _ (wpAny_newFunctionEnv_cells S.kind kinds fun env he s1 x => ?_))
  subst he
  obtain ⟨t, ht, hq⟩ := body cdv A outer s H vs Q E hG (hr.deeper _) hsp
  have I := inv_start (CX := CX0) (w := w) (E := E) S hr.hd e0 (len _ _ _ _ hsp) r x
  refine ⟨lim.keeps x.toInCall.keep, codeAny_func (wpAny_mono (ht.run [] s1 _ H _ I hq) (fun fl s' hs => ?_) fun _ _ z => z)⟩
  match fl, hs with
  | .ret u, ⟨v, σ', H', J, rv, q⟩ => exact ⟨v, H', J.os, J.bare, J.base, J.hok, rv, q⟩
  | .next, ⟨σ', H', J, q⟩ => exact ⟨.non, H', J.os, J.bare, J.base, J.hok, rfl, q⟩
  | .brk, ⟨_, _, _, q⟩ => exact q.elim
  | .cont, ⟨_, _, _, q⟩ => exact q.elim
end
section
variable {X : Cx} {k : Nat} {f : Addr} {fd : FuncData} {ps : List Str} {sp : Sp} {x : Str} {p pos : Pos} {e : Expr} {es : List Expr} {t : TA}
/-- f(e, ..) -/
theorem pe_callG (hG : X.A.guards = some []) (F : FnG X.prog X.w X.K X.mg X.base k f fd ps sp) (hr : Room k X.A) (hg : Gl X x) (hm : X.mg x = some (.ref f)) (hk : PySem.W.keepIn X.K (.ref f) = true) (hb : Binds X.K fd ps []) (ha : PA X (e :: es) t)
    (hdb : (x == ("__debug__" : Str)) = false := by decide) (he : starEach (e :: es) X.env = (false, eval e X.env) :: starEach es X.env := by rfl) (hpl : (backTo pos (starEach es X.env)).any (·.1) = false := by rfl) :
    PE X (.Call (.Name x p) (e :: es) [] pos) (tCall sp [] E0 t) := by
  refine ⟨fun pins s σ H Q I h => wpAny_Call_Name_kw (ld_glob I hg hm ?_ hdb)⟩
  refine PySem.W.callWith_K (h₀ := X.base) I.ok.mod.kin hk (thn (ha.run pos pins s σ H _ I h) fun us s1 ⟨vs, H1, I1, r, q⟩ => ⟨I1.kIn, ?_⟩) he hpl
  have q : sp vs H1 Q E0 := by
    have q : sp (vs ++ []) H1 Q E0 := q
    rw [List.append_nil] at q
    exact q
  have hl : us.length = ps.length := by rw [← r.length, F.many _ _ _ _ q]
  have hbs := hb s1 us I1.kIn (by rw [List.append_nil]; exact hl)
  rw [List.append_nil] at hbs
  refine wpAny_call (codeAny_mono (F.go X.A X.stack s1 H1 us vs Q E0 hG hr I1.env0 hbs r q) fun r s' hq => ?_)
  match r, hq with
  | .ok (.ret u), hq => exact I1.after hq
  | .error er, hq => exact (show False from hq).elim
  | .ok .next, hq => exact (show False from hq).elim
  | .ok .brk, hq => exact (show False from hq).elim
  | .ok .cont, hq => exact (show False from hq).elim
end
/-- the law's call, behind the top -/
theorem callG {P : Program} {w : World} {K : PySem.W.Frag} {mg mb : Str → Option Value} {k : Nat} {fa a : Addr} {fd : FuncData} {x : Str} {sp : Sp} {s₁ : Shared} {vs : List Value} {ns : List Int}
    (KX : K.In s₁.heap) (hns : s₁.heap.Ns mainGlobals mg) (hb : s₁.heap.Ns builtinsNs mb) (hbb : ∀ x : Str, x ≠ "__name__" → mb x = bootBuiltins x) (hlim : s₁.heap.NoLimit) (hg : s₁.gens = #[])
    (ha : s₁.heap.get? a = some { cls := .type "list", data := .seq vs.toArray }) (hi : IntsAre vs ns) (hl : ns.length ≤ sizeLine) (hr : Room k callerA)
    (F : ∀ base : Heap, K.In base → base.Ns mainGlobals mg → FnG P w K mg base k fa fd [x] sp) (hbind : ∀ (s : Shared) (u : Value), BindsTo s fd ⟨[u], []⟩ [(x, u)])
    (hsp : ∀ H : Hp, SqL K H a (ns.map V.int) → sp [.ref a] H (fun v _ => v = .bl true) fun _ _ _ => False) :
    codeAny (model P w) callerA (.call (.ref fa) ⟨[.ref a], []⟩) (fun r s' => r = .ok (.ret (.bool true)) ∧ OldK s₁.heap s'.heap ∧ s'.os = s₁.os ∧ AllBare s'.gens) s₁ := by
  have rv := vals_ints hi
  let z : HO := .frz { cls := .type "list", data := .seq vs.toArray } (.lst (ns.map V.int))
  -- the script is tracked unless it is one of the module's own objects
  let H : Hp := fun b => if b = a ∧ K.lookup a = none then some z else none
  have at_ : ∀ b u, H b = some u → b = a ∧ K.lookup a = none ∧ u = z := fun b u e => by
    by_cases q : b = a ∧ K.lookup a = none
    · have e : (if b = a ∧ K.lookup a = none then some z else none) = some u := e
      rw [if_pos q] at e
      exact ⟨q.1, q.2, (Option.some.inj e).symm⟩
    · have e : (if b = a ∧ K.lookup a = none then some z else none) = some u := e
      rw [if_neg q] at e
      cases e
  have hok : HOk P w H s₁.heap := fun b u e => by
    obtain ⟨rfl, _, rfl⟩ := at_ b u e
    exact ⟨ha, by rw [List.length_map]; exact hl, vs, _, rv, ha⟩
  have hS : SqL K H a (ns.map V.int) := by
    cases hk : K.lookup a with
    | none => exact .inl (.inr ⟨_, if_pos ⟨rfl, hk⟩⟩)
    | some o =>
      have e := KX a o hk
      rw [ha] at e
      cases e
      exact .inr ⟨_, vs.toArray, _, hk, rfl, rfl, rfl, by rw [List.size_toArray, hi.length]; exact hl, by simpa using rv⟩
  have free : ∀ {b : Addr} {o : Obj}, s₁.heap.get? b = some o → (∀ vs n, o.data ≠ .seq vs n) → H b = none := fun {b o} e d => by
    cases q : H b with
    | none => rfl
    | some u =>
      obtain ⟨rfl, _, _⟩ := at_ b u q
      rw [ha] at e
      cases e
      exact absurd rfl (d _ _)
  have dicts : ∀ {b : Addr} {m : Str → Option Value}, s₁.heap.Ns b m → (hidT s₁.heap H).Ns b m := fun {b m} ⟨o, es, ep, e, d, r⟩ => ⟨o, es, ep, hidT_get e (free e fun vs n q => by rw [d] at q; cases q), d, r⟩
  have kin : K.In (hidT s₁.heap H) := fun b o e => hidT_get (KX b o e) (by
    cases q : H b with
    | none => rfl
    | some u =>
      obtain ⟨rfl, n, _⟩ := at_ b u q
      rw [n] at e
      cases e)
  have M : Mod K mg (hidT s₁.heap H) := ⟨kin, dicts hns, ⟨mb, dicts hb, hbb⟩, let ⟨mc, h1, h2⟩ := hlim; ⟨mc, dicts h1, h2⟩⟩
  have e0 : Env0 P w K mg (hidT s₁.heap H) callerA [] s₁ H := ⟨rfl, M, fun b o e => of_hidT e, Nat.le_of_eq (hidT_size _ _), trivial, fun b hb => absurd (show b ∈ ([] : List Addr) from hb) (by simp), hok, AllBare.of_eq hg⟩
  refine codeAny_mono ((F _ kin (dicts hns)).go callerA [] s₁ H [.ref a] [.ref a] _ _ rfl hr e0 (hbind s₁ (.ref a)) (.cons rfl .nil) (hsp H hS)) fun r s' h => ?_
  match r, h with
  | .error e, h => exact (show False from h).elim
  | .ok .next, h => exact (show False from h).elim
  | .ok .brk, h => exact (show False from h).elim
  | .ok .cont, h => exact (show False from h).elim
  | .ok (.ret u), ⟨v, H', os, bare, un, hok', r', q⟩ =>
    have q : v = .bl true := q
    subst q
    obtain rfl : u = Value.bool true := r'
    refine ⟨rfl, OldK.of_keep fun b o e => ?_, os, bare⟩
    cases q : H b with
    | none => exact un.keep b o e q (fun z => absurd (show b ∈ ([] : List Addr) from z) (by simp)) (by simp)
    | some u =>
      obtain ⟨rfl, _, rfl⟩ := at_ b u q
      obtain ⟨e2, _⟩ := hok' b _ (un.frzs b _ _ q)
      rw [ha] at e
      cases e
      exact e2
end Ob
end
section
set_option linter.all false
set_option maxRecDepth 100000
set_option maxHeartbeats 8000000
namespace K
open PySem PySem.Spec PyProof.Rows L2 Ob
theorem draw_same {H H' : Hp} {d l c : Addr} (D : DrawAt H d l c) (s : ∀ b o, H b = some o → H' b = some o) : DrawAt H' d l c := by
  obtain ⟨⟨r, t, h0, h1⟩, ⟨ns, n1, n2, n3⟩, ⟨cn, c1, c2, c3⟩, ne⟩ := D
  exact ⟨⟨r, t, h0, s _ _ h1⟩, ⟨ns, n1, n2, s _ _ n3⟩, ⟨cn, c1, c2, s _ _ c3⟩, ne⟩
theorem draw_l {H : Hp} {d l c : Addr} (D : DrawAt H d l c) : ∃ o, H l = some o := let ⟨_, _, _, h⟩ := D.large; ⟨_, h⟩
theorem draw_d {H : Hp} {d l c : Addr} (D : DrawAt H d l c) : ∃ o, H d = some o := let ⟨_, _, _, h⟩ := D.ex; ⟨_, h⟩
/-- a new address is neither of the draws' objects -/
theorem draw_new {H : Hp} {d l c q : Addr} (D : DrawAt H d l c) (h : H q = none) : q ≠ d ∧ q ≠ l := by
  obtain ⟨o1, h1⟩ := draw_d D
  obtain ⟨o2, h2⟩ := draw_l D
  exact ⟨Ne.symm (ne_of_none h1 h), Ne.symm (ne_of_none h2 h)⟩
section
variable {P : Program} {w : World} {K : PySem.W.Frag} {mg : Str → Option Value} {base : Heap} {C : Addr}
def primes : List Int := [3, 5, 7, 3, 5, 7, 11, 13, 17, 97]
theorem primes_ok : ∀ p ∈ primes, primeB p = true := by decide +kernel
def spPrime : Sp := fun vs H Q _ => ∃ (d l c : Addr), vs = [.ref d] ∧ DrawAt H d l c ∧ ∀ p H', p ∈ primes → DrawAt H' d l c → Kept H H' d l → Q (.int p) H'
theorem scPrime : FnScope ["draw"] ["draw"] (defScope sLPrime) := ⟨rfl, rfl, rfl, by decide +kernel, rfl, by decide +kernel, by decide +kernel⟩
theorem ok_prime {f fP : Addr} {fd fdP : FuncData} (F : Fun K "_law_prime" "_law_prime" sLPrime f fd) (GP : FnOk P w K mg base CX0 3 fP fdP ["draw", "some"] spPick) (bP : L2.Binds K fdP ["draw", "some"] []) (gP : mg "_law_pick" = some (.ref fP)) (kP : PySem.W.keepIn K (.ref fP) = true) :
    FnOk P w K mg base CX0 4 f fd ["draw"] spPrime := by
  refine F.ok scPrime (fun vs H Q E h => ?_) (fun cdv A outer s H vs Q E hr h => ?_)
  · obtain ⟨d, l, c, rfl, _⟩ := h
    rfl
  · obtain ⟨d, l, c, rfl, D, k⟩ := h
    refine ⟨_, pss_one (ps_ret (pe_call GP hr rfl gP kP bP .nil pass0 (pa_cons (pv 0) (pa_cons (pe_lst (pa_cons pe_int (pa_cons pe_int (pa_cons pe_int (pa_cons pe_int (pa_cons pe_int (pa_cons pe_int (pa_cons pe_int (pa_cons pe_int (pa_cons pe_int (pa_cons pe_int pa_nil))))))))))) pa_nil)))), ?_⟩
    refine ⟨_, rfl, (show 10 ≤ sizeLine by rw [sizeLine_eq]; decide), fun q hq => ?_⟩
    have sm := new_same (o := .lst (primes.map V.int)) hq
    refine ⟨d, l, c, q, primes.map V.int, rfl, draw_same D sm, upd_same, (draw_new D hq).2, by decide, by decide, fun i v H' hv D' kp => ?_⟩
    obtain ⟨p, rfl, hp⟩ := at_ints hv
    exact k p H' (List.mem_of_getElem? hp) D' fun b o e h1 h2 => kp b o (sm b o e) h1 h2
def spNumbers : Sp := fun vs H Q _ => ∃ (d l c : Addr) (p : Int) (m : Nat), vs = [.ref d, .int p, .int m] ∧ DrawAt H d l c ∧ 3 ≤ p ∧ p ≤ 97 ∧ m ≤ 256 ∧
  ∀ (ns : List Int) H' q, ns.length = m → (∀ x ∈ ns, 0 ≤ x ∧ x < p) → DrawAt H' d l c → Kept H H' d l → H q = none → q ≠ l → H' q = some (.lst (ns.map V.int)) → Q (.ref q) H'
theorem scNumbers : FnScope ["draw", "prime_here", "many", "k"] ["draw", "prime_here", "many"] (defScope sLNumbers) := ⟨rfl, rfl, rfl, by decide +kernel, rfl, by decide +kernel, by decide +kernel⟩
theorem kept_trans {H H1 H2 : Hp} {d l : Addr} (a : Kept H H1 d l) (b : Kept H1 H2 d l) : Kept H H2 d l := fun c o e h1 h2 => b c o (a c o e h1 h2) h1 h2
theorem kept_same {H H1 : Hp} {d l : Addr} (a : ∀ b o, H b = some o → H1 b = some o) : Kept H H1 d l := fun c o e _ _ => a c o e
theorem ok_numbers {f fP fT : Addr} {fd fdP fdT : FuncData} (F : Fun K "_law_numbers" "_law_numbers" sLNumbers f fd) (GP : FnOk P w K mg base CX0 3 fP fdP ["draw", "some"] spPick) (bP : L2.Binds K fdP ["draw", "some"] []) (gP : mg "_law_pick" = some (.ref fP)) (kP : PySem.W.keepIn K (.ref fP) = true)
    (GT : FnOk P w K mg base CX0 2 fT fdT ["draw", "amount"] spTake) (bT : Binds K fdT ["draw", "amount"] []) (gT : mg "_law_take" = some (.ref fT)) (kT : PySem.W.keepIn K (.ref fT) = true) (B : Bts mg) :
    FnOk P w K mg base CX0 4 f fd ["draw", "prime_here", "many"] spNumbers := by
  refine F.ok scNumbers (fun vs H Q E h => ?_) (fun cdv A outer s H vs Q E hr h => ?_)
  · obtain ⟨d, l, c, p, m, rfl, _⟩ := h
    rfl
  · obtain ⟨d, l, c, p, m, rfl, D0, hp, hp2, hm, k⟩ := h
    refine ⟨_, PSs.nox (pss_one (ps_ret (pe_lc (own := [("k", 3)]) (g := gName 3) (tt := tYes) rfl scNumbers.nd (pi_range1 (by rfl) B.range (pa_cons (pv 2) pa_nil)) (blkOk_by (N := ["draw", "prime_here", "many", "k"]) (sc := defScope sLNumbers) (by decide +kernel)) (fun _ _ _ _ _ => pg_name (i := 3) scNumbers.nd rfl (Or.inl rfl)) (fun _ _ _ _ _ => pts_nil)
      (fun _ _ _ _ _ => pe_call GP (hr.mono (by decide)) rfl gP kP bP .nil pass0 (pa_cons (pv 0) (pa_cons (pe_lst (pa_cons pe_int (pa_cons pe_int (pa_cons (pe_op op_sub (pv 1) pe_int) (pa_cons (pe_call GT (hr.mono (by decide)) rfl gT kT bT .nil pass0 (pa_cons (pv 0) (pa_cons (pv 1) pa_nil))) pa_nil))))) pa_nil)))))), ?_⟩
    refine ⟨_, rfl, m, rfl, by omega, by omega, fun q hq => ?_⟩
    obtain ⟨nqd, nql⟩ := draw_new D0 hq
    refine lc_it walk_range (fun i H' => ∃ ns : List Int, ns.length = i ∧ (∀ x ∈ ns, 0 ≤ x ∧ x < p) ∧ DrawAt H' d l c ∧ Kept H H' d l ∧ H' q = some (.lst (ns.map V.int))) ⟨[], rfl, by simp, draw_same D0 (new_same hq), kept_same (new_same hq), upd_same⟩ (fun _ _ _ _ => trivial) ?_ ?_
    · rintro i y H' H'' hi ⟨ns, hl, hf, D1, kp, hL⟩ ⟨rfl, rfl⟩
      have hi : i < m := by omega
      refine ⟨rfl, ?_⟩
      unfold tYes
      dsimp only
      rw [if_pos rfl]
      refine ⟨_, rfl, _, rfl, p, 1, rfl, rfl, _, rfl, _, rfl, d, l, c, p, rfl, D1, by omega, by omega, fun r H2 r0 r1 D2 kp2 => ?_⟩
      refine ⟨(show 4 ≤ sizeLine by rw [sizeLine_eq]; decide), fun u hu => ?_⟩
      have sm := new_same (o := .lst [.int 0, .int 1, .int (p - 1), .int r]) hu
      refine ⟨d, l, c, u, [.int 0, .int 1, .int (p - 1), .int r], rfl, draw_same D2 sm, upd_same, (draw_new D2 hu).2, (by show 0 < 4; decide), (by show 4 < 1000; decide), fun j v H3 hv D3 kp3 => ?_⟩
      obtain ⟨x, rfl, hx⟩ : ∃ x, v = V.int x ∧ 0 ≤ x ∧ x < p := by
        match j, hv with
        | 0, hv => cases hv; exact ⟨0, rfl, by omega, by omega⟩
        | 1, hv => cases hv; exact ⟨1, rfl, by omega, by omega⟩
        | 2, hv => cases hv; exact ⟨p - 1, rfl, by omega, by omega⟩
        | 3, hv => cases hv; exact ⟨r, rfl, r0, r1⟩
        | j + 4, hv => simp at hv
      have k13 : Kept H'' H3 d l := fun b o e h1 h2 => kp3 b o (sm b o (kp2 b o e h1 h2)) h1 h2
      refine ⟨_, k13 _ _ hL nqd nql, ?_, ns ++ [x], by rw [List.length_append, hl]; rfl, ?_, ?_, ?_, ?_⟩
      · rw [List.length_map, hl, sizeLine_eq]
        omega
      · intro z hz
        rcases List.mem_append.mp hz with hz | hz
        · exact hf z hz
        · simp only [List.mem_singleton] at hz
          rw [hz]
          exact hx
      · obtain ⟨⟨r2, t2, e0, e1⟩, ⟨ms, m1, m2, m3⟩, ⟨cn, c1, c2, c3⟩, ne⟩ := D3
        have nqc : q ≠ c := fun z => by
          obtain ⟨cs0, _, _, hc0⟩ := D0.cells
          rw [z, hc0] at hq
          cases hq
        exact ⟨⟨r2, t2, e0, (upd_ne nqd.symm).trans e1⟩, ⟨ms, m1, m2, (upd_ne nql.symm).trans m3⟩, ⟨cn, c1, c2, (upd_ne nqc.symm).trans c3⟩, ne⟩
      · intro b o e h1 h2
        have nb : b ≠ q := ne_of_none e hq
        rw [upd_ne nb]
        exact k13 b o (kp b o e h1 h2) h1 h2
      · rw [upd_same, List.map_append]
        rfl
    · rintro H' ⟨ns, hl, hf, D1, kp, hL⟩
      exact k ns H' q (by omega) hf D1 kp hq nql hL
def bitF (n x : Int) (k : Nat) : Int := (x.fdiv (1 * 2 ^ ((n - 1) - ((0 : Int) + (k : Nat))).toNat)).fmod 2
def bitsF (n : Nat) (x : Int) : List Int := (List.range n).map fun k => bitF n x k
def spBits : Sp := fun vs H Q _ => ∃ (x : Int) (n : Nat), vs = [.int x, .int n] ∧ n ≤ 8 ∧ ∀ H' t, Same H H' → H t = none → H' t = some (.tup ((bitsF n x).map V.int)) → Q (.ref t) H'
theorem scBits : FnScope ["number", "many", "k"] ["number", "many"] (defScope sLBits) := ⟨rfl, rfl, rfl, by decide +kernel, rfl, by decide +kernel, by decide +kernel⟩
theorem ok_bits {f : Addr} {fd : FuncData} (F : Fun K "_law_bits" "_law_bits" sLBits f fd) (B : Bts mg) : FnOk P w K mg base CX0 1 f fd ["number", "many"] spBits := by
  refine F.ok scBits (fun vs H Q E h => ?_) (fun cdv A outer s H vs Q E hr h => ?_)
  · obtain ⟨x, n, rfl, _⟩ := h
    rfl
  · obtain ⟨x, n, rfl, hn, k⟩ := h
    refine ⟨_, PSs.nox (pss_one (ps_ret (pe_callTy call_tuple_of (by rfl) B.tuple (by decide +kernel) (pa_cons
      (pe_lc (own := [("k", 2)]) (g := gName 2) (tt := tYes) rfl scBits.nd (pi_range1 (by rfl) B.range (pa_cons (pv 1) pa_nil)) (blkOk_by (N := ["number", "many", "k"]) (sc := defScope sLBits) (by decide +kernel)) (fun _ _ _ _ _ => pg_name (i := 2) scBits.nd rfl (Or.inl rfl)) (fun _ _ _ _ _ => pts_nil)
        (fun _ _ _ _ _ => pe_op op_modN (pe_op op_fdivN (pv 0) (pe_op op_shl pe_int (pe_callTy call_int1 (by rfl) B.int (by decide +kernel) (pa_cons (pe_op op_sub (pe_op op_sub (pv 1) pe_int) (pv 2)) pa_nil)))) pe_int)) pa_nil)))), ?_⟩
    refine ⟨_, rfl, n, rfl, by omega, by omega, fun D hD => lc_it walk_range (fun i H' => H' = upd H D (.lst (((List.range i).map fun k => bitF n x k).map V.int))) rfl (fun _ _ _ _ => trivial) ?_ ?_⟩
    · rintro i y H' H'' hi rfl ⟨rfl, rfl⟩
      have hi : i < n := by omega
      refine ⟨rfl, ?_⟩
      unfold tYes
      dsimp only
      rw [if_pos rfl]
      have c7 : ((n : Int) - 1 - ((0 : Int) + (i : Nat))).toNat ≤ 7 := by omega
      have c8 : (2 : Int) ^ ((n : Int) - 1 - ((0 : Int) + (i : Nat))).toNat = ((2 ^ ((n : Int) - 1 - ((0 : Int) + (i : Nat))).toNat : Nat) : Int) := by norm_cast
      have c9 : (2 : Nat) ^ ((n : Int) - 1 - ((0 : Int) + (i : Nat))).toNat ≤ 2 ^ 7 := Nat.pow_le_pow_right (by decide) c7
      have c10 : 0 < (2 : Nat) ^ ((n : Int) - 1 - ((0 : Int) + (i : Nat))).toNat := Nat.two_pow_pos _
      refine ⟨_, rfl, _, rfl, _, _, rfl, rfl, _, rfl, _, _, rfl, rfl, .inl ⟨_, rfl, 1, _, rfl, rfl, ⟨by omega, by omega, by decide⟩, x, _, rfl, rfl, ?_, _, _, rfl, rfl, (show (2 : Int) ≠ 0 by decide), _, upd_same, ?_, ?_⟩⟩
      · rw [Int.one_mul, c8]
        refine ⟨by omega, ?_⟩
        rw [Int.natAbs_natCast]
        omega
      · rw [List.length_map, List.length_map, List.length_range, sizeLine_eq]
        omega
      · rw [upd_upd, List.range_succ, List.map_append, List.map_append]
        rfl
    · rintro H' rfl
      rw [Int.toNat_natCast]
      refine ⟨D, _, rfl, .inl ⟨SqL.of upd_same, fun t ht => ?_⟩⟩
      have nt : H t = none := by
        by_cases e : t = D
        · rw [e]
          exact hD
        · rw [upd_ne e] at ht
          exact ht
      exact k _ t (fun b o z => new_same ht b o (new_same hD b o z)) nt upd_same
end
end K
end
section
set_option linter.all false
set_option maxRecDepth 100000
set_option maxHeartbeats 8000000
namespace K
open PySem PySem.Spec PyProof.Rows L2 Ob
section
variable {P : Program} {w : World} {K : PySem.W.Frag} {mg : Str → Option Value} {base : Heap} {C : Addr}
def numF (bs : List Int) : Int := bs.foldl (fun f b => 2 * f + b) 0
def spNumber (K : PySem.W.Frag) : Sp := fun vs H Q _ => ∃ (a : Addr) (bs : List Int), vs = [.ref a] ∧ (SqL K H a (bs.map V.int) ∨ SqT K H a (bs.map V.int)) ∧ Q (.int (numF bs)) H
theorem scNumber : FnScope ["bits", "found", "bit"] ["bits"] (defScope sLNumber) := ⟨rfl, rfl, rfl, by decide +kernel, rfl, by decide +kernel, by decide +kernel⟩
theorem num_more {bs : List Int} {i : Nat} {b : Int} (h : bs[i]? = some b) : numF (bs.take (i + 1)) = 2 * numF (bs.take i) + b := by
  rw [take_more h]
  unfold numF
  rw [List.foldl_append]
  rfl
theorem ok_number {f : Addr} {fd : FuncData} (F : Fun K "_law_number" "_law_number" sLNumber f fd) : FnOk P w K mg base CX0 1 f fd ["bits"] (spNumber K) := by
  refine F.ok scNumber (fun vs H Q E h => ?_) (fun cdv A outer s H vs Q E hr h => ?_)
  · obtain ⟨a, bs, rfl, _⟩ := h
    rfl
  · obtain ⟨a, bs, rfl, hS, k⟩ := h
    refine ⟨_, PSs.nox (pss_cons (ps_set (i := 1) scNumber.nd rfl (Or.inl rfl) pe_int)
      (pss_cons (ps_for PassesOwn.never rfl (pi_or (pi_list (pv 0)) (pi_tup (pv 0))) (pg_name (i := 2) scNumber.nd rfl (Or.inl rfl)) (pss_one (ps_set (i := 1) scNumber.nd rfl (Or.inl rfl) (pe_op op_add (pe_op op_mul pe_int (pv 1)) (pv 2)))))
      (pss_one (ps_ret (pv 1))))), ?_⟩
    have turn : ∀ (i : Nat) (x : V) (σ : L2.St) (H1 H2 : Hp), i < (bs.map V.int).length → (∃ v2, σ = [some (.ref a), some (.int (numF (bs.take i))), v2] ∧ H1 = H) → YAt (bs.map V.int) i H1 x H2 → ∀ D : Ends,
        (∀ σ' H', (∃ v2, σ' = [some (.ref a), some (.int (numF (bs.take (i + 1)))), v2] ∧ H' = H) → D.nx σ' H') → gName 2 x σ H2 fun σ2 H2 => tAsg (tOp (rI0 fun i j => V.int (i + j)) (tOp (rI (fun i j => -(2 ^ 64) < i ∧ i < 2 ^ 64 ∨ -(2 ^ 64) < j ∧ j < 2 ^ 64) fun i j => V.int (i * j)) (tC (.int 2)) (tVar 1)) (tVar 2)) (gName 1) D σ2 H2 := by
      rintro i x σ H1 H2 hi ⟨v2, rfl, rfl⟩ ⟨rfl, hx⟩ D hD
      obtain ⟨z, rfl, hz⟩ := at_ints hx
      refine ⟨_, rfl, 2, _, rfl, rfl, .inl ⟨by decide, by decide⟩, _, rfl, _, _, rfl, rfl, ?_⟩
      refine hD _ _ ⟨some (.int z), ?_, rfl⟩
      rw [num_more hz]
      rfl
    have fin : ∀ (σ : L2.St) (H1 : Hp), (∃ v2, σ = [some (.ref a), some (.int (numF (bs.take (bs.map V.int).length))), v2] ∧ H1 = H) → ∃ v, σ[1]? = some (some v) ∧ Q v H1 := by
      rintro σ H1 ⟨v2, rfl, rfl⟩
      rw [List.length_map, List.take_length]
      exact ⟨_, rfl, k⟩
    rcases hS with hS | hS
    · exact .inl ⟨_, rfl, a, rfl, ⟨_, hS⟩, for_it (walk_list (K := K) (a := a) (xs := bs.map V.int)) (fun i σ H' => ∃ v2, σ = [some (.ref a), some (.int (numF (bs.take i))), v2] ∧ H' = H) ⟨none, rfl, rfl⟩ (fun i σ H' _ ⟨_, _, e⟩ => e ▸ hS) (fun i x σ H1 H2 hi p y => turn i x σ H1 H2 hi p y _ fun σ' H' q => q) fin⟩
    · exact .inr ⟨_, rfl, a, rfl, ⟨_, hS⟩, for_it (walk_tup (K := K) (a := a) (xs := bs.map V.int)) (fun i σ H' => ∃ v2, σ = [some (.ref a), some (.int (numF (bs.take i))), v2] ∧ H' = H) ⟨none, rfl, rfl⟩ (fun i σ H' _ ⟨_, _, e⟩ => e ▸ hS) (fun i x σ H1 H2 hi p y => turn i x σ H1 H2 hi p y _ fun σ' H' q => q) fin⟩
def spIsRule (K : PySem.W.Frag) (C : Addr) : Sp := fun vs H Q _ => ∃ (r a : Addr) (p : Int) (n : Nat) (ns : List Int), vs = [.ref r, .int p, .ref a] ∧ RuleAt C H r p n ns ∧ RuleOk p n ns ∧ H a = some (.lst (ns.map V.int)) ∧ ∀ H', Same H H' → Q (.bl true) H'
theorem scIsRule : FnScope ["thing", "prime_here", "table_here", "legs_here", "many"] ["thing", "prime_here", "table_here"] (defScope sLIsRule) := ⟨rfl, rfl, rfl, by decide +kernel, rfl, by decide +kernel, by decide +kernel⟩
def legsL (n i : Nat) : List Int := if n < i then [(n : Int)] else []
theorem pow_eq : ∀ n, n ≤ 5 → ∀ i, i < 9 → (V.int (1 * 2 ^ ((0 : Int) + (i : Nat)).toNat) = V.int ((2 ^ n : Nat) : Int) ↔ i = n) := by
  have h : ∀ n, n < 6 → ∀ i, i < 9 → (decide ((1 : Int) * 2 ^ ((0 : Int) + (i : Nat)).toNat = ((2 ^ n : Nat) : Int)) = decide (i = n)) := by decide +kernel
  intro n hn i hi
  have := h n (by omega) i hi
  constructor
  · intro e
    injection e with e
    rw [decide_eq_true e] at this
    exact of_decide_eq_true this.symm
  · intro e
    rw [decide_eq_true e] at this
    rw [of_decide_eq_true this]
theorem ok_is_rule {f : Addr} {fd : FuncData} (F : Fun K "_law_is_rule" "_law_is_rule" sLIsRule f fd) (T : RuleC K mg C) (B : Bts mg) (hrep : mg "repr" = none) : FnG P w K mg base 1 f fd ["thing", "prime_here", "table_here"] (spIsRule K C) := by
  refine fnG_of F scIsRule (fun vs H Q E h => ?_) (fun cdv A outer s H vs Q E hG hr h => ?_)
  · obtain ⟨r, a, p, n, ns, rfl, _⟩ := h
    rfl
  · obtain ⟨r, a, p, n, ns, rfl, hR, ok, ha, k⟩ := h
    obtain ⟨dx, t, h1, h2⟩ := id hR.ex
    have hu64 := hr.units
    have hu60 : (A.deeper (envOfC "_law_is_rule" (defScope sLIsRule) s.heap.objs.size f cdv)).units + 60 < cLine := by omega
    have hp := ok.least
    have n5 := ok.five
    have fld : ∀ x ∈ ns, 0 ≤ x ∧ x < 100 := fun x hx => by
      have := ok.field x hx
      omega
    have p5 : (2 : Nat) ^ n ≤ 2 ^ 5 := Nat.pow_le_pow_right (by decide) n5
    obtain ⟨w1, w2, w3, w4⟩ := duo_ok (p := p) (ns := ns) (by omega) fld (by rw [ok.len]; omega)
    refine ⟨_, PSs.nox (pss_cons (ps_if (pt_not (pt_val (pe_callB call_isi (by rfl) B.isi (by decide +kernel) (pa_cons (pv 0) (pa_cons (pe_glob (v := .ref C) (by rfl) T.g rfl) pa_nil))))) (pss_one (ps_ret pe_bl)) pss_nil)
      (pss_cons (ps_setLc (i := 3) (own := [("many", 4)]) (g := gName 4) rfl scIsRule.nd rfl rfl (sw_true rfl rfl rfl (by decide +kernel)) (pi_range1 (by rfl) B.range (pa_cons pe_int pa_nil)) (blkOk_by (N := ["thing", "prime_here", "table_here", "legs_here", "many"]) (sc := defScope sLIsRule) (by decide +kernel)) (fun _ _ _ _ _ => pg_name (i := 4) scIsRule.nd rfl (Or.inl rfl))
          (fun _ _ _ _ _ => pts_one (pt_cmpR op_eq (pe_op op_shl pe_int (pv 4)) (pe_callB (r := rLenS K) (by exact call_len_seq) (by rfl) B.len PySem.boot_len (pa_cons (pv 2) pa_nil)) (nomark _))) (fun _ _ _ _ _ => pv 4))
      (pss_one (ps_ret (pe_and (pe_cmpR op_eq (pe_callB (call_reprN hG hu60) (by rfl) hrep (by decide +kernel) (pa_cons (pe_tup (pa_cons (pe_fld (pv 0) rfl) (pa_cons (pe_fld (pv 0) rfl) pa_nil))) pa_nil))
          (pe_callB (call_reprN hG hu60) (by rfl) hrep (by decide +kernel) (pa_cons (pe_tup (pa_cons (pv 1) (pa_cons (pe_callTy call_tuple_of (by rfl) B.tuple (by decide +kernel) (pa_cons (pv 2) pa_nil)) pa_nil))) pa_nil)) (nomark _))
        (pe_one (pe_cmpR (op_eqD hu64) (pe_lst (pa_cons (pe_fld (pv 0) rfl) pa_nil)) (pv 3) (nomark _)))))))), ?_⟩
    refine ⟨_, rfl, .ref r, .ref C, .ref C, .ref C, true, rfl, .own C, T.ty hR, kit_self, true, rfl, iteF ?_⟩
    refine ⟨9, rfl, by decide, by decide, fun D hD => lc_it walk_range (fun i H' => H' = upd H D (.lst ((legsL n i).map V.int))) rfl (fun _ _ _ _ => trivial) ?_ ?_⟩
    · rintro i y H' H'' hi rfl ⟨rfl, rfl⟩
      have hi : i < 9 := hi
      refine ⟨rfl, ?_⟩
      refine ⟨_, rfl, 1, _, rfl, rfl, ⟨by omega, by omega, by decide⟩, _, rfl, a, _, rfl, .inl (SqL.of (new_same hD _ _ ha)), rfl, _, rfl, ?_⟩
      rw [List.length_map, ok.len]
      have pe := pow_eq n n5 i hi
      by_cases e : i = n
      · rw [decide_eq_true (pe.mpr e)]
        refine iteT ?_
        refine ⟨_, rfl, _, upd_same, ?_, ?_⟩
        · rw [List.length_map, sizeLine_eq]
          unfold legsL
          split <;> simp
        · rw [upd_upd, e]
          unfold legsL
          rw [if_neg (by omega), if_pos (by omega)]
          show upd H D (.lst [V.int (0 + (n : Int))]) = upd H D (.lst [V.int (n : Int)])
          rw [Int.zero_add]
      · rw [decide_eq_false fun z => e (pe.mp z)]
        refine iteF ?_
        have : legsL n (i + 1) = legsL n i := by
          unfold legsL
          by_cases z : n < i
          · rw [if_pos z, if_pos (by omega)]
          · rw [if_neg z, if_neg (by omega)]
        rw [this]
    · rintro H' rfl
      have eL : legsL n 9 = [(n : Int)] := by
        unfold legsL
        rw [if_pos (by omega)]
      have sD := new_same (o := .lst ((legsL n 9).map V.int)) hD
      have aD : upd H D (.lst ((legsL n 9).map V.int)) D = some _ := upd_same
      rw [show Int.toNat 9 = 9 from rfl]
      generalize upd H D (.lst ((legsL n 9).map V.int)) = H1 at sD aD ⊢
      refine ⟨_, rfl, r, C, dx, _, _, rfl, sD _ _ h1, T.cl, T.nP, rfl, _, rfl, r, C, dx, _, _, rfl, sD _ _ h1, T.cl, T.nT, rfl, (show 2 ≤ sizeLine by rw [sizeLine_eq]; decide), fun u hu => ?_⟩
      have su := new_same (o := .tup [.int p, .ref t]) hu
      have au : upd H1 u (.tup [.int p, .ref t]) u = some _ := upd_same
      generalize upd H1 u (.tup [.int p, .ref t]) = H2 at su au ⊢
      refine ⟨u, duo p ns, rfl, duo_data au (su _ _ (sD _ _ h2)), w1, w2, w3, w4, ?_⟩
      refine ⟨_, rfl, _, rfl, a, _, rfl, .inl ⟨SqL.of (su _ _ (sD _ _ ha)), fun v hv => ?_⟩⟩
      have sv := new_same (o := .tup (ns.map V.int)) hv
      have av : upd H2 v (.tup (ns.map V.int)) v = some _ := upd_same
      generalize upd H2 v (.tup (ns.map V.int)) = H3 at sv av ⊢
      refine ⟨(show 2 ≤ sizeLine by rw [sizeLine_eq]; decide), fun x hx => ?_⟩
      have sx := new_same (o := .tup [.int p, .ref v]) hx
      have ax : upd H3 x (.tup [.int p, .ref v]) x = some _ := upd_same
      generalize upd H3 x (.tup [.int p, .ref v]) = H4 at sx ax ⊢
      refine ⟨x, duo p ns, rfl, duo_data ax (sx _ _ av), w1, w2, w3, w4, rfl, _, rfl, ?_⟩
      rw [decide_eq_true (rfl : V.str (duo p ns).shown = V.str (duo p ns).shown)]
      have s4 : ∀ b o, H b = some o → H4 b = some o := fun b o z => sx b o (sv b o (su b o (sD b o z)))
      refine ⟨_, rfl, r, C, dx, _, _, rfl, s4 _ _ h1, T.cl, T.nL, rfl, (show 1 ≤ sizeLine by rw [sizeLine_eq]; decide), fun y hy => ?_⟩
      have sy := new_same (o := .lst [.int (n : Int)]) hy
      have ay : upd H4 y (.lst [.int (n : Int)]) y = some _ := upd_same
      generalize upd H4 y (.lst [.int (n : Int)]) = H5 at sy ay ⊢
      refine ⟨_, rfl, _, _, .lst (SqL.of ay) (Ob.dp_ints [(n : Int)]), .lst (SqL.of (sy _ _ (sx _ _ (sv _ _ (su _ _ aD))))) (Ob.dp_ints (legsL n 9)), lst_shaped _, lst_shaped _, ?_⟩
      rw [lst_eqv, eL, decide_eq_true rfl]
      exact k _ fun b o z => sy b o (s4 b o z)
end
end K
end
section
set_option linter.all false
set_option maxRecDepth 100000
set_option maxHeartbeats 4000000
/-! statements one by one: from A to B -/
namespace Ob
open PySem PySem.Spec PyProof.Rows L2
abbrev Sl (σ : L2.St) (i : Nat) (v : V) : Prop := σ[i]? = some (some v)
section
variable {σ : L2.St} {i j : Nat} {v x : V} {y : Option V}
theorem Sl.put (h : Sl σ j v) (ne : i ≠ j := by decide) : Sl (σ.set i y) j v := (List.getElem?_set_ne ne).trans h
theorem Sl.here (hl : i < σ.length) : Sl (σ.set i (some x)) i x := by
  show (σ.set i (some x))[i]? = _
  rw [List.getElem?_set_self hl]
/-- in a comprehension's turn -/
theorem Sl.in1 (h : Sl σ j v) (ne : i ≠ j := by decide) : Sl ((wipe σ [i]).set i y) j v := by
  show (((wipe σ []).set i none).set i y)[j]? = _
  rw [List.getElem?_set_ne ne, List.getElem?_set_ne ne]
  exact h
theorem Sl.it (hl : i < σ.length) : Sl ((wipe σ [i]).set i (some x)) i x := by
  show (((wipe σ []).set i none).set i (some x))[i]? = _
  rw [List.getElem?_set_self (by rw [List.length_set]; exact hl)]
theorem wipe_it : wipe ((wipe σ [i]).set i y) [i] = wipe σ [i] := by
  show (((((wipe σ []).set i none).set i y) : L2.St).set i none) = (wipe σ []).set i none
  rw [List.set_set, List.set_set]
end
def tTri (A B : L2.St → Hp → Prop) : TS := fun D σ H => A σ H ∧ ∀ σ' H', B σ' H' → D.nx σ' H'
section
variable {X : Cx} {st : Stmt} {ss : List Stmt} {t : TS} {A B C : L2.St → Hp → Prop}
theorem tri (h : PS X st t) (hr : ∀ D σ H, σ.length = X.N.length → A σ H → (∀ σ' H', B σ' H' → D.nx σ' H') → t D σ H) : PS X st (tTri A B) :=
  ⟨fun pins s σ H D I h' => h.run pins s σ H D I (hr D σ H I.len h'.1 h'.2)⟩
theorem tri_last (h : PS X st (tTri A B)) : PSs X [st] (tTri A B) := pss_one h
theorem tri_cons (h : PS X st (tTri A B)) (hs : PSs X ss (tTri B C)) : PSs X (st :: ss) (tTri A C) :=
  ⟨fun pins s σ H D I h' => (pss_cons h hs).run pins s σ H D I ⟨h'.1, fun σ' H' b => ⟨b, h'.2⟩⟩⟩
theorem tri_pre (h : PSs X ss (tTri A B)) {A' : L2.St → Hp → Prop} (ha : ∀ σ H, A' σ H → A σ H) : PSs X ss (tTri A' B) :=
  ⟨fun pins s σ H D I h' => h.run pins s σ H D I ⟨ha _ _ h'.1, h'.2⟩⟩
end
end Ob
end
section
set_option linter.all false
set_option maxRecDepth 100000
set_option maxHeartbeats 4000000
/-! f(b = y, a = x): every parameter by its name, the last one first -/
namespace Ob
open PySem PySem.Spec PyProof.Rows L2
theorem vals_reverse : ∀ {zs : List V} {ws : List Value}, Vals zs ws → Vals zs.reverse ws.reverse
  | _, _, .nil => .nil
  | _, _, .cons r rs => by
    rw [List.reverse_cons, List.reverse_cons]
    exact (vals_reverse rs).append (.cons r .nil)
def KwBinds (fd : FuncData) (ps : List Str) : Prop := ∀ (s : Shared) (ws : List Value), ws.length = ps.length → BindsTo s fd ⟨[], ps.reverse.zip ws⟩ (ps.zip ws.reverse)
def tCallKw (sp : Sp) (E : XK) (tk : TA) : TE := fun σ H Q => tk σ H fun zs H1 => sp zs.reverse H1 Q E
theorem pe_kw {X : Cx} {CX : CXT} {k : Nat} {f : Addr} {fd : FuncData} {ps : List Str} {sp : Sp} {E : XK} {x : Str} {p pos : Pos} {kws : List Keyword} {tk : TA} (F : FnOk X.prog X.w X.K X.mg X.base CX k f fd ps sp) (hr : Room k X.A) (hg : Gl X x) (hm : X.mg x = some (.ref f)) (hk : PySem.W.keepIn X.K (.ref f) = true)
    (hb : KwBinds fd ps) (hx : Passes CX X E) (hkw : PK X kws tk) (hall : (backToKw pos (keywordEach kws X.env)).all (·.1.isSome) = true := by rfl) (hks : (backToKw pos (keywordEach kws X.env)).filterMap (·.1) = ps.reverse := by rfl)
    (hdb : (x == ("__debug__" : Str)) = false := by decide) (hpl : ((backTo pos (starEach [] X.env)).any (·.1) || (backToKw pos (keywordEach kws X.env)).any (·.1.isNone)) = false := by rfl) :
    PE X (.Call (.Name x p) [] kws pos) (tCallKw sp E tk) := by
  refine ⟨fun pins s σ H Q I h => ?_⟩
  refine wpAny_Call_Name_kw (ld_glob I hg hm ?_ hdb)
  refine PySem.W.callWith_KW0 (h₀ := X.base) I.ok.mod.kin hk hall ?_ hpl
  refine thn (hkw.run pos pins s σ H _ I h) fun ws s1 ⟨zs, H1, I1, rz, q⟩ => ⟨I1.kIn, ?_⟩
  rw [hks]
  have r2 := vals_reverse rz
  have hl : ws.length = ps.length := by
    have := F.len _ _ _ _ q
    rw [List.length_reverse, Paired.length rz] at this
    exact this
  refine wpAny_call (codeAny_mono (F.run X.A X.stack s1 H1 ⟨[], ps.reverse.zip ws⟩ ws.reverse zs.reverse Q E hr I1.env0 (hb s1 ws hl) r2 q) fun r s' hq => ?_)
  match r, hq with
  | .error e, hq => exact hx pins σ H1 s1 e s' I1 hq
  | .ok (.ret u), hq => exact I1.after hq
  | .ok .next, hq => exact (show False from hq).elim
  | .ok .brk, hq => exact (show False from hq).elim
  | .ok .cont, hq => exact (show False from hq).elim
end Ob
end
section
set_option linter.all false
set_option maxRecDepth 100000
set_option maxHeartbeats 4000000
/-! a lambda with parameters and without captured names, held by a name, called -/
namespace Ob
open PySem PySem.Spec PyProof.Rows L2 LamX
theorem pe_callLam {X : Cx} {i k : Nat} {a : Str} {ps : List Str} {params : Arguments} {body : Expr} {scope : Scope} {q : Str} {E : XK} {tb : TE} {t : TA} {e : Expr} {es : List Expr} {p pos : Pos} (S : FnScope ps ps scope)
    (hbind : ∀ (us : List Value), us.length = ps.length → ∀ pm cv ctv : Value, bindArgs (PySem.W.kla_fn "<lambda>" q params body scope [] pm cv ctv) ⟨us, []⟩ = pure (ps.zip us))
    (hbody : ∀ (A : Around) (outer : List Env) (s : Shared) (H : Hp) (f c' : Addr), Room k (A.deeper (envOfC q scope s.heap.objs.size f (.ref c'))) → PE (cxOf (L2.CX X.prog X.w) X.prog X.w X.K X.mg X.base ps q scope f (.ref c') A outer s H E) body tb)
    (hr : Room (k + 1) X.A) (hx : Passes (L2.CX X.prog X.w) X E) (hN : X.N[i]? = some a) (hv : Vis X.env.scope a) (ha : PA X (e :: es) t) (hd : (a == ("__debug__" : Str)) = false := by decide) (hcd : (a == ("__classdict__" : Str)) = false := by decide)
    (he : starEach (e :: es) X.env = (false, eval e X.env) :: starEach es X.env := by rfl) (hpl : (backTo pos (starEach es X.env)).any (·.1) = false := by rfl) :
    PE X (.Call (.Name a p) (e :: es) [] pos) (fun σ H Q => ∃ g c', σ[i]? = some (some (.ref g)) ∧ H g = some (LamO g q params body scope [] c') ∧ t σ H fun vs H1 => H1 g = some (LamO g q params body scope [] c') ∧ H1 c' = some (CodeO c' q) ∧ vs.length = ps.length ∧ tb (L2.start ps vs) H1 Q) := by
  refine ⟨fun pins s σ H Q I h => ?_⟩
  obtain ⟨g, c', slot, at0, ht⟩ := h
  refine wpAny_Call_Name_kw (thn ((pe_var (pos := p) (i := i) hN hv hd hcd).run pins s σ H (fun v H1 => v = .ref g ∧ H1 = H) I ⟨.ref g, slot, rfl, rfl⟩) fun u s1 ⟨v, H1, I1, r1, q1⟩ => ?_)
  obtain ⟨rfl, rfl⟩ := q1
  obtain rfl : u = Value.ref g := r1
  obtain ⟨pm0, ct0, here0⟩ := lamO_at I1.hok at0
  refine PySem.W.callWith_F ⟨_, _, _, _, here0⟩ (thn (ha.run pos pins s1 σ _ _ I1 ht) fun us s2 ⟨vs, H2, I2, r, at2, atC, hl, hq⟩ => ?_) he hpl
  obtain ⟨pm, ct, here⟩ := lamO_at I2.hok at2
  refine ⟨⟨_, _, _, _, here⟩, ?_⟩
  obtain ⟨⟨oc, vs0, t0, hoc, hdc, hvc⟩, _, _⟩ := I2.hok c' _ atC
  have hul : us.length = ps.length := by rw [← hl, Paired.length r]
  have kinds : ∀ y ∈ ps.zip us, scope.names.lookup y.1 = some .local ∨ (scope.names.lookup y.1 = some .cell ∧ ((cellsFrom (s2.heap.objs.size + 1) scope.names []).lookup y.1).isSome = true) := fun ⟨n, v⟩ hy =>
    (S.par n (List.of_mem_zip hy).1).elim .inl fun z => .inr ⟨z, PySem.W.cellsFrom_some _ _ _ (.inl z)⟩
  have run : codeAny (model X.prog X.w) X.A (.call (.ref g) ⟨us, []⟩) (CR (L2.CX X.prog X.w) X.stack X.prog X.w H2 s2 Q E) s2 := by
    refine PySem.W.kla_callFunE hr.depth here rfl S.co S.gen rfl ⟨c', oc, vs0, t0, rfl, hoc, hdc, hvc⟩ ?_
    rw [hbind us hul]
    refine wpAny_pure (wpAny_newFunctionEnv_cells S.kind kinds fun env he s3 x => ?_)
    subst he
    refine ⟨I2.nolimit.keeps x.toInCall.keep, ?_⟩
    have J : Inv (cxOf (L2.CX X.prog X.w) X.prog X.w X.K X.mg X.base ps q scope g (.ref c') X.A X.stack s2 H2 E) [] (L2.start ps vs) H2 s3 := inv_start S hr.hd I2.env0 hl r x
    exact PySem.W.kla_codeExpr (wpAny_mono ((hbody X.A X.stack s2 H2 g c' (hr.deeper _)).run [] s3 _ H2 Q J hq) (fun v s' ⟨w', H', J', rv, qq⟩ => ⟨w', H', J'.os, J'.bare, J'.base, J'.hok, rv, qq⟩) fun e s' z => z)
  refine wpAny_call (codeAny_mono run fun r s' hq => ?_)
  match r, hq with
  | .error e, hq => exact hx pins σ _ _ e s' I2 hq
  | .ok (.ret u), hq => exact I2.after hq
  | .ok .next, hq => exact (show False from hq).elim
  | .ok .brk, hq => exact (show False from hq).elim
  | .ok .cont, hq => exact (show False from hq).elim
end Ob
end
section
set_option linter.all false
set_option maxRecDepth 100000
set_option maxHeartbeats 4000000
/-! a caught error that is kept: isinstance, its field -/
namespace Ob
open PySem PySem.Spec PyProof.Rows L2
/-- a caught error of the class at C stands at a, its own dict at d -/
def CgtAt (H : Hp) (a C d : Addr) (fs : List (Str × V)) : Prop := H a = some (Cgt (.ref C) (some d) a) ∧ H d = some (.xd fs)
section
variable {X : Cx} {pins : List (Addr × Obj)} {σ : L2.St} {H : Hp} {s : Shared} {a C d : Addr} {fs : List (Str × V)}
theorem cgt_inst (I : Inv X pins σ H s) (h : CgtAt H a C d fs) : ∃ ox od mA es ep, PySem.W.InstAt s.heap a ox C (some od) ∧ s.heap.get? d = some od ∧ od.data = .dict es ep ∧ s.heap.Ns1 d mA ∧ ∀ f, RelO (fs.lookup f) (mA f) := by
  obtain ⟨oe, vs, ho, ⟨hc, hd⟩, hv⟩ := cgt_at I.hok h.1
  obtain ⟨mA, hns, rel⟩ := I.hok d _ h.2
  obtain ⟨od, es, ep, hod, he, hr⟩ := id hns
  obtain ⟨oc, odd, oda, osl⟩ := oe
  dsimp only at hc hd hv
  subst hc hd hv
  exact ⟨_, od, mA, es, ep, ⟨ho, rfl, rfl, hod⟩, hod, he, ⟨od, es, ep, hod, he, hr⟩, rel⟩
/-- isinstance(e, c), e such an error -/
def rIsC (K : PySem.W.Frag) : List V → Hp → VK → Prop := fun xs H Q => ∃ (a C d : Addr) (fs : List (Str × V)) (c : V) (cv : Value) (b : Bool), xs = [.ref a, c] ∧ CgtAt H a C d fs ∧ ExcC K C ∧ (∀ u, RelV c u → u = cv) ∧ PySem.W.kitOne K (.ref C) cv = some b ∧ Q (.bl b) H
theorem call_isC : CallR X (.builtin "isinstance") (rIsC X.K) := by
  intro pins s σ H xs us Q I r h
  obtain ⟨a, C, d, fs, c, cv, b, rfl, hx, T, hcv, e, q⟩ := h
  cases r with
  | cons rx rr =>
    cases rr with
    | cons rt rr =>
      cases rr
      cases rx
      have ec := hcv _ rt
      subst ec
      obtain ⟨ox, od, _, _, _, J, _⟩ := cgt_inst I hx
      obtain ⟨cd, hcd, _⟩ := PySem.W.any_some T.hd
      exact PySem.W.kia_one (PySem.W.kitx_exc (by rw [hcd]; rfl) T.hg T.hk T.hs T.ha T.hn T.ht T.hm) I.kIn J e (fun z => nomatch z) fun tk => ⟨.bl b, H, I.kept (t' := tk) fun _ _ z => z, rfl, q⟩
/-- e.f, e such an error -/
def tCgt (K : PySem.W.Frag) (f : Str) (te : TE) : TE := fun σ H Q => te σ H fun x H1 => ∃ (a C d : Addr) (fs : List (Str × V)) (v : V), x = .ref a ∧ CgtAt H1 a C d fs ∧ XfC K C ∧ PySem.W.findIn K (.ref C) f = some none ∧ fs.lookup f = some v ∧ Q v H1
theorem pe_cgt {e : Expr} {te : TE} {pos : Pos} {n : Str} (he : PE X e te) (hb : attributeBase e n X.env (eval e X.env) = eval e X.env := by rfl) : PE X (.Attribute e n pos) (tCgt X.K n te) := by
  refine ⟨fun pins s σ H Q I h => attr_of hb (thn (he.run pins s σ H _ I h) fun u s1 hh => ?_)⟩
  obtain ⟨x, H1, I1, rx, a, C, d, fs, v, ex, hx, T, hno, l, q⟩ := hh
  subst ex
  obtain rfl : u = Value.ref a := rx
  obtain ⟨ox, od, mA, es, ep, J, hod, _, hns, hr⟩ := cgt_inst I1 hx
  obtain ⟨od2, hod2, hl⟩ := lookIn_ns hns
  rw [hod] at hod2
  cases hod2
  obtain ⟨u, hu, ru⟩ := RelO.some_of (v := v) (o := mA n) (by rw [← l]; exact hr n)
  exact HandSPX.exc_get I1.kIn J T.ga T.gg T.exC (PySem.W.findObj_own T.hdC hno rfl (by rw [hl, hu])) (handed_of ru) ⟨v, H1, I1.tok _, ru, q⟩
end
end Ob
end
section
set_option linter.all false
set_option maxRecDepth 100000
set_option maxHeartbeats 4000000
/-! x != y by an own __eq__ of a class right below object, without an own __ne__ -/
namespace Ob
open PySem PySem.Spec PyProof.Rows L2
theorem ns_some_of {K : PySem.W.Frag} {h : Heap} {N : Addr} {m : Str → Option Value} {n : Str} {v : Value} (X : K.In h) (G : h.Ns N m) (e : PySem.W.nsIn K N n = some (some v)) : m n = some v := by
  obtain ⟨o, es, ep, ho, hd, _, hf⟩ := G
  unfold PySem.W.nsIn at e
  split at e
  case h_1 c d es' n' sl q =>
    have e1 := X _ _ q
    rw [ho] at e1
    cases e1
    cases hd
    split at e
    case h_1 en he =>
      cases e
      rw [← hf]
      unfold nsFind findBy
      rw [← Array.find?_toList, he]
      rfl
    case h_2 => split at e <;> cases e
  case h_2 => cases e
structure NeC (K : PySem.W.Frag) (C f : Addr) : Prop where
  ex : ∃ (nm q : Str) (N : Addr) (bs : List Value) (hdct : Bool) (sn : List Str) (sub : List Value) (ab : Bool) (col : Option Bool) (dd : Option Addr) (k0 k1 k2 k3 k5 : Option Value) (newId : String),
    K.lookup C = some (excClassObj nm q C N bs [.type "object"] hdct sn sub ab col dd k0 k1 k2 k3 k5 newId) ∧ PySem.W.nsOkIn K N = true ∧ PySem.W.nsIn K N "__eq__" = some (some (.ref f)) ∧ PySem.W.nsIn K N "__ne__" = some none
  fn : ∃ of, K.lookup f = some of ∧ of.cls = .type "function"
theorem NeC.at {K : PySem.W.Frag} {C f x : Addr} {h : Heap} {o : Obj} (T : NeC K C f) (X : K.In h) (hx : h.get? x = some o) (hc : o.cls = .ref C) : h.OwnEqNoNe x C f "object" [.type "object"] := by
  obtain ⟨nm, q, N, bs, hdct, sn, sub, ab, col, dd, k0, k1, k2, k3, k5, newId, hC, hok, he, hn⟩ := T.ex
  obtain ⟨of, hf, hfc⟩ := T.fn
  have G := Heap.Ns.of_isNs (PySem.W.isNs_of_in X hok)
  exact ⟨o, of, nm, q, N, bs, hdct, sn, sub, ab, col, dd, k0, k1, k2, k3, k5, newId, _, some (.builtin "object.__eq__"), hx, hc, X _ _ hC, G, ns_some_of X G he, X _ _ hf, hfc, F.cmp_object.mro, F.cmp_object.eq.lookup, PySem.W.ns_none_of X G hn⟩
def rNeR (C : Addr) (sp : Sp) : R2 := fun x y H Q => ∃ a b dx dy fs gs, x = .ref a ∧ y = .ref b ∧ H a = some (.ins C dx fs) ∧ H b = some (.ins C dy gs) ∧ sp [.ref a, .ref b] H (fun v H' => ∃ r, v = .bl r ∧ Q (.bl (!r)) H') E0
theorem op_neR {X : Cx} {CX : CXT} {C f : Addr} {fd : FuncData} {ps : List Str} {sp : Sp} {n : Nat} (T : NeC X.K C f) (G : FnOk X.prog X.w X.K X.mg X.base CX n f fd ps sp) (hb : Binds X.K fd ps []) (hx : Passes CX X E0) (hr : Room (n + 1) X.A) : OpR X (compareOp .NotEq) (rNeR C sp) := by
  intro pins s σ H x y v u Q I rx ry hq
  obtain ⟨a, b, dx, dy, fs, gs, rfl, rfl, ha, hb', q⟩ := hq
  cases rx
  cases ry
  obtain ⟨mA, J1, _⟩ := ins_get I.hok ha
  obtain ⟨mB, J2, _⟩ := ins_get I.hok hb'
  obtain ⟨od1, A1, _⟩ := J1.look
  obtain ⟨od2, A2, _⟩ := J2.look
  have r2 : Vals [V.ref a, V.ref b] [Value.ref a, Value.ref b] := .cons rfl (.cons rfl .nil)
  have hl := G.len _ _ _ _ q
  have bs : BindsTo s fd ⟨[.ref a, .ref b], []⟩ (ps.zip [.ref a, .ref b]) := by
    have := hb s [.ref a, .ref b] I.kIn (by simpa using hl)
    simpa using this
  have e0 : Env0 X.prog X.w X.K X.mg X.base X.A.in1 X.stack s H := by
    have e := I.env0
    exact ⟨e.frames, e.mod, e.bs, e.bsz, e.funs, e.frf, e.hok, e.bare⟩
  have hroom := hr.in1
  have hu : X.A.units + 1 < cLine := by
    have := hr.units
    omega
  obtain ⟨hp, g, dr, tk, os⟩ := s
  refine compareOp_ne_ownEq F.cmp_object (T.at I.kIn A1.1 A1.cls) A2.1 A2.cls hu ?_
  refine wpAny_call (codeAny_mono (G.run X.A.in1 X.stack _ H ⟨[.ref a, .ref b], []⟩ [.ref a, .ref b] [.ref a, .ref b] _ E0 hroom e0 bs r2 q) fun r s' hq => ?_)
  match r, hq with
  | .error e, hq => exact hx pins σ H _ e s' I hq
  | .ok (.ret w), hq =>
    obtain ⟨z, H', I', rz, r, ez, hQ⟩ := I.after hq
    subst ez
    cases rz
    exact ⟨r, rfl, .bl (!r), H', I', rfl, hQ⟩
  | .ok .next, hq => exact (show False from hq).elim
  | .ok .brk, hq => exact (show False from hq).elim
  | .ok .cont, hq => exact (show False from hq).elim
end Ob
end
section
set_option linter.all false
set_option maxRecDepth 100000
set_option maxHeartbeats 4000000
/-! the end of a law whose own def makes lambdas and runs where no repr is under way -/
namespace Ob
open PySem PySem.Spec PyProof.Rows L2 LamX
section
variable {P : Program} {w : World} {K : PySem.W.Frag} {mg : Str → Option Value} {base : Heap}
/-- a def of the text by its body, its code object at c -/
theorem fnG_at {x qual : Str} {st : Stmt} {f c : Addr} {N ps : List Str} {k : Nat} {sp : Sp} {oc kV doc pm ct : Value} {od an : Option Addr} {osl : Array (Option Value)}
    (lk : K.lookup f = some ⟨oc, od, .func (PySem.W.fnOf x qual (defArgs st) (defBody st) (defScope st) .none kV doc pm an (.ref c) ct), osl⟩) (hcd : PySem.W.codeIn K (.ref c) qual = true) (S : FnScope N ps (defScope st)) (len : ∀ vs H Q E, sp vs H Q E → vs.length = ps.length)
    (body : ∀ (A : Around) (outer : List Env) (s : Shared) (H : Hp) (vs : List V) (Q : VK) (E : XK), (A.deeper (envOfC qual (defScope st) s.heap.objs.size f (.ref c))).guards = some [] → Room k (A.deeper (envOfC qual (defScope st) s.heap.objs.size f (.ref c))) → sp vs H Q E →
      ∃ t, PSs (cxOf CX0 P w K mg base N qual (defScope st) f (.ref c) A outer s H E) (defBody st) t ∧ t { nx := fun _ H' => Q .non H', rt := Q } (start N vs) H) :
    FnG P w K mg base (k + 1) f (PySem.W.fnOf x qual (defArgs st) (defBody st) (defScope st) .none kV doc pm an (.ref c) ct) ps sp := by
  refine ⟨len, fun A outer s H us vs Q E hG hr e0 hb r hsp => ?_⟩
  have KX : K.In s.heap := e0.mod.kin.keeps fun b o e => (e0.bs b o e).1
  have lim : s.heap.NoLimit := e0.mod.nolimit.keeps fun b o e => (e0.bs b o e).1
  have kinds : ∀ y ∈ ps.zip us, (defScope st).names.lookup y.1 = some .local ∨ ((defScope st).names.lookup y.1 = some .cell ∧ ((cellsFrom (s.heap.objs.size + 1) (defScope st).names []).lookup y.1).isSome = true) := fun ⟨n, v⟩ hy =>
    (S.par n (List.of_mem_zip hy).1).elim .inl fun q => .inr ⟨q, PySem.W.cellsFrom_some _ _ _ (.inl q)⟩
  refine codeAny_call_function hr.depth (KX _ _ lk) rfl S.co S.gen rfl (PySem.W.codeRec_of KX hcd) (hb _ _ _ _ (wpAny_newFunctionEnv_cells S.kind kinds fun env he s1 x => ?_))
  subst he
  obtain ⟨t, ht, hq⟩ := body A outer s H vs Q E hG (hr.deeper _) hsp
  have I := inv_start (CX := CX0) (w := w) (E := E) S hr.hd e0 (len _ _ _ _ hsp) r x
  refine ⟨lim.keeps x.toInCall.keep, codeAny_func (wpAny_mono (ht.run [] s1 _ H _ I hq) (fun fl s' hs => ?_) fun _ _ z => z)⟩
  match fl, hs with
  | .ret u, ⟨v, σ', H', J, rv, q⟩ => exact ⟨v, H', J.os, J.bare, J.base, J.hok, rv, q⟩
  | .next, ⟨σ', H', J, q⟩ => exact ⟨.non, H', J.os, J.bare, J.base, J.hok, rfl, q⟩
  | .brk, ⟨_, _, _, q⟩ => exact q.elim
  | .cont, ⟨_, _, _, q⟩ => exact q.elim
end
theorem callGT {P : Program} {w : World} {K : PySem.W.Frag} {mg mb : Str → Option Value} {k : Nat} {fa a c T : Addr} {fd : FuncData} {x : Str} {sp : Sp} {s₁ : Shared} {vs : List Value} {ns : List Int}
    (KX : K.In s₁.heap) (hns : s₁.heap.Ns mainGlobals mg) (hb : s₁.heap.Ns builtinsNs mb) (hbb : ∀ x : Str, x ≠ "__name__" → mb x = bootBuiltins x) (hlim : s₁.heap.NoLimit) (hg : s₁.gens = #[])
    (hT : s₁.heap.get? T = some { cls := .none, data := .fields #[] }) (nT : K.lookup T = none) (C : PySem.W.CodeHd s₁.heap c T)
    (hbm : ∃ (bm : Addr) (ob : Obj), mg "__builtins__" = some (.ref bm) ∧ bm ≠ builtinsNs ∧ s₁.heap.get? bm = some ob ∧ ob.cls = .type "module" ∧ ob.dict = some builtinsNs ∧ ob.data = .plain)
    (ha : s₁.heap.get? a = some { cls := .type "list", data := .seq vs.toArray }) (hi : IntsAre vs ns) (hl : ns.length ≤ sizeLine) (hr : Room k callerA)
    (F : ∀ base : Heap, K.In base → base.Ns mainGlobals mg → TabB base mg c T → FnG P w K mg base k fa fd [x] sp) (hbind : ∀ (s : Shared) (u : Value), BindsTo s fd ⟨[u], []⟩ [(x, u)])
    (hsp : ∀ H : Hp, H T = some (.tbl #[]) → SqL K H a (ns.map V.int) → sp [.ref a] H (fun v _ => v = .bl true) fun _ _ _ => False) :
    codeAny (model P w) callerA (.call (.ref fa) ⟨[.ref a], []⟩) (fun r s' => r = .ok (.ret (.bool true)) ∧ OldK s₁.heap s'.heap ∧ s'.os = s₁.os ∧ AllBare s'.gens) s₁ := by
  have rv := vals_ints hi
  let z : HO := .frz { cls := .type "list", data := .seq vs.toArray } (.lst (ns.map V.int))
  have aT : a ≠ T := fun e => by
    rw [e, hT] at ha
    cases ha
  let H : Hp := fun b => if b = T then some (.tbl #[]) else if b = a ∧ K.lookup a = none then some z else none
  have atT : H T = some (.tbl #[]) := if_pos rfl
  have at_ : ∀ b u, H b = some u → (b = T ∧ u = .tbl #[]) ∨ (b = a ∧ K.lookup a = none ∧ u = z) := fun b u e => by
    have e : (if b = T then some (HO.tbl #[]) else if b = a ∧ K.lookup a = none then some z else none) = some u := e
    by_cases h1 : b = T
    · rw [if_pos h1] at e
      exact .inl ⟨h1, (Option.some.inj e).symm⟩
    · rw [if_neg h1] at e
      by_cases q : b = a ∧ K.lookup a = none
      · rw [if_pos q] at e
        exact .inr ⟨q.1, q.2, (Option.some.inj e).symm⟩
      · rw [if_neg q] at e
        cases e
  have hok : HOk P w H s₁.heap := fun b u e => by
    rcases at_ b u e with ⟨rfl, rfl⟩ | ⟨rfl, _, rfl⟩
    · exact hT
    · exact ⟨ha, by rw [List.length_map]; exact hl, vs, _, rv, ha⟩
  have hS : SqL K H a (ns.map V.int) := by
    cases hk : K.lookup a with
    | none => exact .inl (.inr ⟨_, (if_neg aT).trans (if_pos ⟨rfl, hk⟩)⟩)
    | some o =>
      have e := KX a o hk
      rw [ha] at e
      cases e
      exact .inr ⟨_, vs.toArray, _, hk, rfl, rfl, rfl, by rw [List.size_toArray, hi.length]; exact hl, by simpa using rv⟩
  have free : ∀ {b : Addr} {o : Obj}, s₁.heap.get? b = some o → (∀ vs n, o.data ≠ .seq vs n) → o.data ≠ .fields #[] → H b = none := fun {b o} e d d2 => by
    cases q : H b with
    | none => rfl
    | some u =>
      rcases at_ b u q with ⟨rfl, _⟩ | ⟨rfl, _, _⟩
      · rw [hT] at e
        cases e
        exact absurd rfl d2
      · rw [ha] at e
        cases e
        exact absurd rfl (d _ _)
  have dicts : ∀ {b : Addr} {m : Str → Option Value}, s₁.heap.Ns b m → (hidT s₁.heap H).Ns b m := fun {b m} ⟨o, es, ep, e, d, r⟩ => ⟨o, es, ep, hidT_get e (free e (fun vs n q => by rw [d] at q; cases q) fun q => by rw [d] at q; cases q), d, r⟩
  have kin : K.In (hidT s₁.heap H) := fun b o e => hidT_get (KX b o e) (by
    cases q : H b with
    | none => rfl
    | some u =>
      rcases at_ b u q with ⟨rfl, _⟩ | ⟨rfl, n, _⟩
      · rw [nT] at e
        cases e
      · rw [n] at e
        cases e)
  have M : Mod K mg (hidT s₁.heap H) := ⟨kin, dicts hns, ⟨mb, dicts hb, hbb⟩, let ⟨mc, h1, h2⟩ := hlim; ⟨mc, dicts h1, h2⟩⟩
  have e0 : Env0 P w K mg (hidT s₁.heap H) callerA [] s₁ H := ⟨rfl, M, fun b o e => of_hidT e, Nat.le_of_eq (hidT_size _ _), trivial, fun b hb => absurd (show b ∈ ([] : List Addr) from hb) (by simp), hok, AllBare.of_eq hg⟩
  have TB : TabB (hidT s₁.heap H) mg c T := by
    refine ⟨?_, ?_, fun e => ?_⟩
    · obtain ⟨o, us, file, tf, flags, tg, inF, text, tt, e1, r1, r2, r3, r4, r5, r6, r7, r8, hne⟩ := C
      refine ⟨o, us, file, tf, flags, tg, inF, text, tt, hidT_get e1 (free e1 (fun vs n q => ?_) fun q => ?_), r1, r2, r3, r4, r5, r6, r7, r8, hne⟩
      · rw [r2] at q
        cases q
      · rw [r2] at q
        cases q
        simp at r3
    · obtain ⟨bm, ob, b1, b2, b3, b4, b5, b6⟩ := hbm
      have n1 : bm ≠ mainGlobals := fun q => by
        obtain ⟨o, es, ep, e, d, _⟩ := hns
        rw [q, e] at b3
        cases b3
        rw [d] at b6
        cases b6
      have n2 : bm ≠ T := fun q => by
        rw [q, hT] at b3
        cases b3
        cases b6
      exact ⟨bm, ob, b1, b2, n1, n2, hidT_get b3 (free b3 (fun vs n q => by rw [b6] at q; cases q) fun q => by rw [b6] at q; cases q), b4, b5, b6⟩
    · obtain ⟨o, es, ep, e2, d, _⟩ := hns
      rw [e, hT] at e2
      cases e2
      cases d
  refine codeAny_mono ((F _ kin (dicts hns) TB).go callerA [] s₁ H [.ref a] [.ref a] _ _ rfl hr e0 (hbind s₁ (.ref a)) (.cons rfl .nil) (hsp H atT hS)) fun r s' h => ?_
  match r, h with
  | .error e, h => exact (show False from h).elim
  | .ok .next, h => exact (show False from h).elim
  | .ok .brk, h => exact (show False from h).elim
  | .ok .cont, h => exact (show False from h).elim
  | .ok (.ret u), ⟨v, H', os, bare, un, hok', r', q⟩ =>
    have q : v = .bl true := q
    subst q
    obtain rfl : u = Value.bool true := r'
    obtain ⟨more, grown⟩ := un.tbls T #[] atT
    have tabNow : s'.heap.get? T = some { cls := .none, data := .fields (#[] ++ more) } := hok' T _ grown
    have key : ∀ b o, b ≠ T → s₁.heap.get? b = some o → s'.heap.get? b = some o := fun b o nb e => by
      cases q : H b with
      | none => exact un.keep b o e q (fun z => absurd (show b ∈ ([] : List Addr) from z) (by simp)) (by simp)
      | some u =>
        rcases at_ b u q with ⟨e', _⟩ | ⟨rfl, _, rfl⟩
        · exact absurd e' nb
        · obtain ⟨e2, _⟩ := hok' b _ (un.frzs b _ _ q)
          rw [ha] at e
          cases e
          exact e2
    refine ⟨rfl, ⟨fun b o e => ?_, fun b o e => ?_⟩, os, bare⟩
    · by_cases hb : b = T
      · rw [hb] at e ⊢
        rw [hT] at e
        cases e
        exact .inr (.inl ⟨(C.tab hT).isCodeTable, rfl, #[], more, rfl, tabNow⟩)
      · exact .inl (key b o hb e)
    · by_cases hb : b = T
      · rw [hb]
        exact ⟨_, tabNow⟩
      · exact ⟨o, key b o hb e⟩
end Ob
end
section
set_option linter.all false
set_option maxRecDepth 100000
set_option maxHeartbeats 8000000
namespace K
open PySem PySem.Spec PyProof.Rows L2 LamX Ob
abbrev NL : List Str := ["script", "draw", "turn", "prime_here", "legs_here", "table_here", "rule", "all_bits", "number", "due", "many", "back", "leg", "bit", "bad", "ask", "caught", "k", "item", "bits"]
theorem scL : FnScope NL ["script"] (defScope sLaw) := ⟨rfl, rfl, rfl, by decide +kernel, rfl, by decide +kernel, by decide +kernel⟩
/-- the law's own context -/
abbrev LX (P : Program) (w : World) (K : PySem.W.Frag) (mg : Str → Option Value) (base : Heap) (f c : Addr) (A : Around) (outer : List Env) (s : Shared) (H0 : Hp) (E : XK) : Cx := (cxOf CX0 P w K mg base NL "law" (defScope sLaw) f (.ref c) A outer s H0 E).nox
/-- what the law leans on -/
structure LD (P : Program) (w : World) (K : PySem.W.Frag) (mg : Str → Option Value) (base : Heap) (C CN CB fI : Addr) (fdI : FuncData) : Prop where
  low : Low P w K mg base C CN fI fdI
  begun : ∃ f fd, FnOk P w K mg base CX0 1 f fd ["script"] (spBegun K) ∧ Binds K fd ["script"] [] ∧ mg "_law_begun" = some (.ref f) ∧ PySem.W.keepIn K (.ref f) = true
  pick : ∃ f fd, FnOk P w K mg base CX0 3 f fd ["draw", "some"] spPick ∧ Binds K fd ["draw", "some"] [] ∧ mg "_law_pick" = some (.ref f) ∧ PySem.W.keepIn K (.ref f) = true
  take : ∃ f fd, FnOk P w K mg base CX0 2 f fd ["draw", "amount"] spTake ∧ Binds K fd ["draw", "amount"] [] ∧ mg "_law_take" = some (.ref f) ∧ PySem.W.keepIn K (.ref f) = true
  prime : ∃ f fd, FnOk P w K mg base CX0 4 f fd ["draw"] spPrime ∧ Binds K fd ["draw"] [] ∧ mg "_law_prime" = some (.ref f) ∧ PySem.W.keepIn K (.ref f) = true
  numbers : ∃ f fd, FnOk P w K mg base CX0 4 f fd ["draw", "prime_here", "many"] spNumbers ∧ Binds K fd ["draw", "prime_here", "many"] [] ∧ mg "_law_numbers" = some (.ref f) ∧ PySem.W.keepIn K (.ref f) = true
  bits : ∃ f fd, FnOk P w K mg base CX0 1 f fd ["number", "many"] spBits ∧ Binds K fd ["number", "many"] [] ∧ mg "_law_bits" = some (.ref f) ∧ PySem.W.keepIn K (.ref f) = true
  number : ∃ f fd, FnOk P w K mg base CX0 1 f fd ["bits"] (spNumber K) ∧ Binds K fd ["bits"] [] ∧ mg "_law_number" = some (.ref f) ∧ PySem.W.keepIn K (.ref f) = true
  isRule : ∃ f fd, FnG P w K mg base 1 f fd ["thing", "prime_here", "table_here"] (spIsRule K C) ∧ Binds K fd ["thing", "prime_here", "table_here"] [] ∧ mg "_law_is_rule" = some (.ref f) ∧ PySem.W.keepIn K (.ref f) = true
  scaled : ∃ f fd, FnOk P w K mg base (L2.CX P w) 8 f fd ["rule", "number"] (spScaled K C CN) ∧ Binds K fd ["rule", "number"] [] ∧ mg "scaled" = some (.ref f) ∧ PySem.W.keepIn K (.ref f) = true ∧ KwBinds fd ["rule", "number"]
  turned : ∃ f fd, FnOk P w K mg base (L2.CX P w) 9 f fd ["rule", "many"] (spTurned K C CN) ∧ Binds K fd ["rule", "many"] [] ∧ mg "turned" = some (.ref f) ∧ PySem.W.keepIn K (.ref f) = true ∧ KwBinds fd ["rule", "many"]
  mirrored : ∃ f fd, FnOk P w K mg base CX0 9 f fd ["rule"] (spMirrored C) ∧ Binds K fd ["rule"] [] ∧ mg "mirrored" = some (.ref f) ∧ PySem.W.keepIn K (.ref f) = true ∧ KwBinds fd ["rule"]
  flipped : ∃ f fd, FnOk P w K mg base (L2.CX P w) 8 f fd ["rule", "leg"] (spFlipped K C CN) ∧ Binds K fd ["rule", "leg"] [] ∧ mg "flipped" = some (.ref f) ∧ PySem.W.keepIn K (.ref f) = true ∧ KwBinds fd ["rule", "leg"]
  setLeg : ∃ f fd, FnOk P w K mg base (L2.CX P w) 8 f fd ["rule", "leg", "bit"] (spSetLeg K C CN) ∧ Binds K fd ["rule", "leg", "bit"] [] ∧ mg "set_leg" = some (.ref f) ∧ PySem.W.keepIn K (.ref f) = true ∧ KwBinds fd ["rule", "leg", "bit"]
  eq : ∃ f fd, NeC K C f ∧ FnOk P w K mg base CX0 1 f fd ["self", "other"] (spREq C) ∧ Binds K fd ["self", "other"] []
  mn : mg "min" = none
  mx : mg "max" = none
  caught : ∃ f fd, Fun K "_law_caught" "_law_caught" sLCaught f fd ∧ Binds K fd ["work"] [] ∧ mg "_law_caught" = some (.ref f)
  base_ : mg "BasisError" = some (.ref CB)
  exm : PySem.W.exmOne K (.ref CN) (.ref CB) = some true
  xf : XfC K CN
  xno : PySem.W.findIn K (.ref CN) "part" = some none
  xc : ExcC K CN
/-- the turn's own things -/
structure TI (C : Addr) (T : List (Addr × Str)) (d l c r tab ab : Addr) (p : Int) (n : Nat) (ns : List Int) (ts : List Addr) (H : Hp) : Prop where
  t_draw : DrawAt H d l c
  t_tabs : Tabs T H
  t_rule : RuleAt C H r p n ns
  t_tab : H tab = some (.lst (ns.map V.int))
  t_ntl : tab ≠ l
  t_ab : H ab = some (.lst (ts.map V.ref))
  t_nal : ab ≠ l
  t_many : ts.length = 2 ^ n
  t_bits : ∀ (k : Nat) (t : Addr), ts[k]? = some t → H t = some (.tup ((bitsF n k).map V.int))
section
variable {C : Addr} {T : List (Addr × Str)} {d l c r tab ab : Addr} {p : Int} {n : Nat} {ns : List Int} {ts : List Addr} {H H' : Hp}
theorem not_draw {o : HO} {b : Addr} (D : DrawAt H d l c) (h : H b = some o) (n1 : ∀ xs, o ≠ .dK xs) (n2 : ∀ xs, o ≠ .lst xs) : b ≠ d ∧ b ≠ l := by
  obtain ⟨rest, turn, _, hd⟩ := D.ex
  obtain ⟨ms, _, _, hl⟩ := D.large
  refine ⟨fun e => ?_, fun e => ?_⟩
  · rw [e, hd] at h
    exact n1 _ (Option.some.inj h).symm
  · rw [e, hl] at h
    exact n2 _ (Option.some.inj h).symm
theorem not_d {xs : List V} {b : Addr} (D : DrawAt H d l c) (h : H b = some (.lst xs)) : b ≠ d := fun e => by
  obtain ⟨rest, turn, _, hd⟩ := D.ex
  rw [e, hd] at h
  cases h
theorem rule_kept (D : DrawAt H d l c) (k : Kept H H' d l) (h : RuleAt C H r p n ns) : RuleAt C H' r p n ns := by
  obtain ⟨dx, t, h1, h2⟩ := h.ex
  obtain ⟨a1, a2⟩ := not_draw D h1 (fun _ z => by cases z) (fun _ z => by cases z)
  obtain ⟨b1, b2⟩ := not_draw D h2 (fun _ z => by cases z) (fun _ z => by cases z)
  exact ⟨dx, t, k _ _ h1 a1 a2, k _ _ h2 b1 b2⟩
theorem tabs_kept (D : DrawAt H d l c) (k : Kept H H' d l) (h : Tabs T H) : Tabs T H' := fun q hq => by
  obtain ⟨ps, h1, h2, h3⟩ := h q hq
  obtain ⟨a1, a2⟩ := not_draw D h1 (fun _ z => by cases z) (fun _ z => by cases z)
  refine ⟨ps, k _ _ h1 a1 a2, h2, fun pos cv hc => ?_⟩
  obtain ⟨c0, e1, e2⟩ := h3 pos cv hc
  obtain ⟨b1, b2⟩ := not_draw D e2 (fun _ z => by unfold CodeO at z; cases z) (fun _ z => by unfold CodeO at z; cases z)
  exact ⟨c0, e1, k _ _ e2 b1 b2⟩
theorem TI.kept (I : TI C T d l c r tab ab p n ns ts H) (D : DrawAt H' d l c) (k : Kept H H' d l) : TI C T d l c r tab ab p n ns ts H' := by
  refine ⟨D, tabs_kept I.t_draw k I.t_tabs, rule_kept I.t_draw k I.t_rule, k _ _ I.t_tab (not_d I.t_draw I.t_tab) I.t_ntl, I.t_ntl, k _ _ I.t_ab (not_d I.t_draw I.t_ab) I.t_nal, I.t_nal, I.t_many, fun i t e => ?_⟩
  have h := I.t_bits i t e
  obtain ⟨a1, a2⟩ := not_draw I.t_draw h (fun _ z => by cases z) (fun _ z => by cases z)
  exact k _ _ h a1 a2
theorem TI.same (I : TI C T d l c r tab ab p n ns ts H) (s : ∀ b o, H b = some o → H' b = some o) : TI C T d l c r tab ab p n ns ts H' := I.kept (draw_same I.t_draw s) (kept_same s)
theorem TI.ext (I : TI C T d l c r tab ab p n ns ts H) (e : ExtN H H') (t : Tabs T H') : TI C T d l c r tab ab p n ns ts H' := by
  have nt : ∀ (xs : List V) (ps : Array Value), HO.lst xs ≠ .tbl ps := fun _ _ z => by cases z
  obtain ⟨⟨r1, t1, h0, h1⟩, ⟨ms, m1, m2, m3⟩, ⟨cn, c1, c2, c3⟩, ne⟩ := I.t_draw
  obtain ⟨dx, tt, k1, k2⟩ := I.t_rule.ex
  exact ⟨⟨⟨r1, t1, h0, e _ _ h1 (fun _ z => by cases z)⟩, ⟨ms, m1, m2, e _ _ m3 (nt _)⟩, ⟨cn, c1, c2, e _ _ c3 (nt _)⟩, ne⟩, t, ⟨dx, tt, e _ _ k1 (fun _ z => by cases z), e _ _ k2 (fun _ z => by cases z)⟩,
    e _ _ I.t_tab (nt _), I.t_ntl, e _ _ I.t_ab (nt _), I.t_nal, I.t_many, fun i t he => e _ _ (I.t_bits i t he) (fun _ z => by cases z)⟩
end
/-- the slots that stay through a turn -/
structure Vars (σ : L2.St) (d : Addr) (p : Int) (n : Nat) (tab r ab : Addr) : Prop where
  v_draw : Sl σ 1 (.ref d)
  v_prime : Sl σ 3 (.int p)
  v_legs : Sl σ 4 (.int n)
  v_tab : Sl σ 5 (.ref tab)
  v_rule : Sl σ 6 (.ref r)
  v_ab : Sl σ 7 (.ref ab)
theorem Vars.put {σ : L2.St} {d tab r ab : Addr} {p : Int} {n i : Nat} {y : Option V} (h : Vars σ d p n tab r ab) (hi : i ∉ [1, 3, 4, 5, 6, 7] := by decide) : Vars (σ.set i y) d p n tab r ab := by
  simp only [List.mem_cons, List.not_mem_nil, not_or, or_false] at hi
  obtain ⟨h1, h3, h4, h5, h6, h7⟩ := hi
  exact ⟨h.v_draw.put h1, h.v_prime.put h3, h.v_legs.put h4, h.v_tab.put h5, h.v_rule.put h6, h.v_ab.put h7⟩
theorem neR_false {C q2 q3 : Addr} {H : Hp} {p : Int} {n : Nat} {ms : List Int} {Q : VK} (h2 : RuleAt C H q2 p n ms) (h3 : RuleAt C H q3 p n ms) (k : Q (.bl false) H) : rNeR C (spREq C) (.ref q2) (.ref q3) H Q := by
  obtain ⟨dx, t, a1, a2⟩ := id h2.ex
  obtain ⟨dy, u, b1, b2⟩ := id h3.ex
  refine ⟨q2, q3, dx, dy, _, _, rfl, rfl, a1, b1, q2, q3, p, p, n, n, ms, ms, rfl, h2, h3, true, ?_, k⟩
  rw [decide_eq_true (rfl : p = p), decide_eq_true (rfl : ms = ms)]
  rfl
/-- the turn's state: slots and heap -/
def St1 (C : Addr) (T : List (Addr × Str)) (d l c : Addr) (σ : L2.St) (H : Hp) : Prop := ∃ p n ns tab r ab ts, Vars σ d p n tab r ab ∧ RuleOk p n ns ∧ TI C T d l c r tab ab p n ns ts H
end K
end
section
set_option linter.all false
set_option maxRecDepth 100000
set_option maxHeartbeats 8000000
namespace K
open PySem PySem.Spec PyProof.Rows L2 LamX Ob
def forBody : Stmt → List Stmt
  | .For _ _ b _ _ => b
  | _ => []
def stT (i : Nat) : Stmt := (defBody sLaw).getD i (.Pass ⟨0, 0, 0, 0⟩)
def stB (i : Nat) : Stmt := (forBody (stT 1)).getD i (.Pass ⟨0, 0, 0, 0⟩)
section
variable {P : Program} {w : World} {K : PySem.W.Frag} {mg : Str → Option Value} {base : Heap} {f c : Addr} {A : Around} {outer : List Env} {s : Shared} {H0 : Hp} {E : XK} {C CN CB fI : Addr} {fdI : FuncData} {T : List (Addr × Str)} {d l c0 : Addr}
/-- ahead of a turn -/
def A0 (T : List (Addr × Str)) (d l c0 : Addr) : L2.St → Hp → Prop := fun σ H => Sl σ 1 (.ref d) ∧ DrawAt H d l c0 ∧ Tabs T H
def A1 (T : List (Addr × Str)) (d l c0 : Addr) : L2.St → Hp → Prop := fun σ H => Sl σ 1 (.ref d) ∧ DrawAt H d l c0 ∧ Tabs T H ∧ ∃ (p : Int) (n : Nat), Sl σ 3 (.int p) ∧ Sl σ 4 (.int n) ∧ primeB p = true ∧ n ≤ 5
theorem prime_range {p : Int} (h : primeB p = true) : 3 ≤ p ∧ p ≤ 97 := by
  unfold primeB within at h
  simp only [Bool.and_eq_true, decide_eq_true_eq, Option.any_some] at h
  exact ⟨h.1.1, h.1.2⟩
/-- prime_here, legs_here = .. -/
theorem st0 (L : LD P w K mg base C CN CB fI fdI) (hr : Room 10 (LX P w K mg base f c A outer s H0 E).A) : PS (LX P w K mg base f c A outer s H0 E) (stB 0) (tTri (A0 T d l c0) (A1 T d l c0)) := by
  obtain ⟨fP, dP, GP, bP, gP, kP⟩ := L.prime
  obtain ⟨fT, dT, GT, bT, gT, kT⟩ := L.take
  refine tri (ps_asg (pe_tup (pa_cons (pe_call GP (hr.mono (by decide)) rfl gP kP bP .nil pass0 (pa_cons (pv 1) pa_nil)) (pa_cons (pe_call GT (hr.mono (by decide)) rfl gT kT bT .nil pass0 (pa_cons (pv 1) (pa_cons pe_int pa_nil))) pa_nil)))
    (pg_tup rfl (pgs_cons (pg_name (i := 3) scL.nd rfl (Or.inr rfl)) (pgs_cons (pg_name (i := 4) scL.nd rfl (Or.inr rfl)) pgs_nil)))) fun D σ H hl ⟨a1, a2, a3⟩ k => ?_
  have hl : σ.length = 20 := hl
  refine ⟨_, a1, d, l, c0, rfl, a2, fun p H1 hp D1 k1 => ?_⟩
  refine ⟨_, a1, d, l, c0, 6, rfl, D1, by decide, by decide, fun n H2 n0 n1 D2 k2 => ?_⟩
  refine ⟨(show 2 ≤ sizeLine by rw [sizeLine_eq]; decide), fun t ht => ?_⟩
  refine ⟨t, _, rfl, SqT.of upd_same, rfl, _, _, rfl, _, _, rfl, rfl, ?_⟩
  have sm := new_same (o := .tup [.int p, .int n]) ht
  obtain ⟨m, rfl⟩ := Int.eq_ofNat_of_zero_le n0
  have h3 : Sl (σ.set 3 (some (.int p))) 3 (.int p) := Sl.here (by omega)
  refine k _ _ ⟨(a1.put).put, draw_same D2 sm, tabs_kept a2 (kept_trans k1 (kept_trans k2 (kept_same sm))) a3, p, m, h3.put, Sl.here (by rw [List.length_set]; omega), primes_ok p hp, by omega⟩
def A2 (T : List (Addr × Str)) (d l c0 : Addr) : L2.St → Hp → Prop := fun σ H => Sl σ 1 (.ref d) ∧ DrawAt H d l c0 ∧ Tabs T H ∧ ∃ (p : Int) (n : Nat) (tab : Addr) (ns : List Int), Sl σ 3 (.int p) ∧ Sl σ 4 (.int n) ∧ Sl σ 5 (.ref tab) ∧ RuleOk p n ns ∧ H tab = some (.lst (ns.map V.int)) ∧ tab ≠ l
/-- table_here = .. -/
theorem st1 (L : LD P w K mg base C CN CB fI fdI) (hr : Room 10 (LX P w K mg base f c A outer s H0 E).A) : PS (LX P w K mg base f c A outer s H0 E) (stB 1) (tTri (A1 T d l c0) (A2 T d l c0)) := by
  obtain ⟨fN, dN, GN, bN, gN, kN⟩ := L.numbers
  refine tri (ps_set (i := 5) scL.nd rfl (Or.inr rfl) (pe_call GN (hr.mono (by decide)) rfl gN kN bN .nil pass0 (pa_cons (pv 1) (pa_cons (pv 3) (pa_cons (pe_op op_shl pe_int (pv 4)) pa_nil))))) fun D σ H hl ⟨a1, a2, a3, p, n, v3, v4, hp, hn⟩ k => ?_
  have hl : σ.length = 20 := hl
  have hpr := prime_range hp
  have p5 : (2 : Nat) ^ n ≤ 2 ^ 5 := Nat.pow_le_pow_right (by decide) hn
  have e1 : (1 : Int) * 2 ^ ((n : Int)).toNat = ((2 ^ n : Nat) : Int) := by
    rw [Int.one_mul, Int.toNat_natCast]
    norm_cast
  refine ⟨_, a1, _, v3, _, v4, 1, n, rfl, rfl, ⟨by omega, by omega, by decide⟩, ?_⟩
  refine ⟨d, l, c0, p, 2 ^ n, (by show [V.ref d, .int p, .int (1 * 2 ^ ((n : Int)).toNat)] = [V.ref d, .int p, .int ((2 ^ n : Nat) : Int)]; rw [e1]), a2, hpr.1, hpr.2, by omega, fun ns H1 q hlen hf D1 k1 hq ql hl1 => ?_⟩
  exact k _ _ ⟨a1.put, D1, tabs_kept a2 k1 a3, p, n, q, ns, v3.put, v4.put, Sl.here (by omega), ⟨hp, hn, hlen, hf⟩, hl1, ql⟩
/-- rule, all_bits = .. -/
theorem st2 (L : LD P w K mg base C CN CB fI fdI) (hr : Room 10 (LX P w K mg base f c A outer s H0 E).A) : PS (LX P w K mg base f c A outer s H0 E) (stB 2) (tTri (A2 T d l c0) (St1 C T d l c0)) := by
  have MR := L.low.MR
  have B := L.low.B
  obtain ⟨fB, dB, GB, bB, gB, kB⟩ := L.bits
  refine tri (ps_asg (pe_tup (pa_cons (pe_make MR.M MR.G (hr.mono (by decide)) rfl MR.T.g MR.b .nil pass0 (by exact pa_cons (pv 3) (pa_cons (pv 5) pa_nil)))
      (pa_cons (pe_lc (own := [("k", 17)]) (g := gName 17) (tt := tYes) rfl scL.nd (pi_range1 (by rfl) B.range (pa_cons (pe_op op_shl pe_int (pv 4)) pa_nil)) (blkOk_by (N := NL) (sc := defScope sLaw) (by decide +kernel)) (fun _ _ _ _ _ => pg_name (i := 17) scL.nd rfl (Or.inl rfl)) (fun _ _ _ _ _ => pts_nil)
        (fun _ _ _ _ _ => pe_call GB (hr.mono (by decide)) rfl gB kB bB .nil pass0 (pa_cons (pv 17) (pa_cons (pv 4) pa_nil)))) pa_nil)))
    (pg_tup rfl (pgs_cons (pg_name (i := 6) scL.nd rfl (Or.inr rfl)) (pgs_cons (pg_name (i := 7) scL.nd rfl (Or.inr rfl)) pgs_nil)))) fun D σ H hl ⟨a1, a2, a3, p, n, tab, ns, v3, v4, v5, ok, htab, ntl⟩ k => ?_
  have hl : σ.length = 20 := hl
  have p5 : (2 : Nat) ^ n ≤ 2 ^ 5 := Nat.pow_le_pow_right (by decide) ok.five
  have e1 : (1 : Int) * 2 ^ ((n : Int)).toNat = ((2 ^ n : Nat) : Int) := by
    rw [Int.one_mul, Int.toNat_natCast]
    norm_cast
  have n5 := ok.five
  have c1 : (2 : Int) ^ ((n : Int)).toNat = ((2 ^ n : Nat) : Int) := by
    rw [Int.toNat_natCast]
    norm_cast
  have c2 : ((2 ^ n : Nat) : Int) ≤ 32 := Int.ofNat_le.mpr p5
  have c3 : (0 : Int) ≤ ((2 ^ n : Nat) : Int) := Int.natCast_nonneg _
  refine ⟨_, v3, _, v5, ?_⟩
  refine made ok htab fun H1 r s1 hR => ?_
  refine ⟨_, v4, 1, n, rfl, rfl, ⟨by omega, by omega, by decide⟩, _, rfl, by omega, by omega, fun q hq => ?_⟩
  rw [e1, Int.toNat_natCast]
  have D1 := draw_same a2 s1
  obtain ⟨nqd, nql⟩ := draw_new D1 hq
  refine lc_it walk_range (fun i H' => ∃ ts : List Addr, ts.length = i ∧ (∀ b o, H1 b = some o → H' b = some o) ∧ H' q = some (.lst (ts.map V.ref)) ∧ ∀ (k : Nat) (t : Addr), ts[k]? = some t → H' t = some (.tup ((bitsF n k).map V.int)))
    ⟨[], rfl, new_same hq, upd_same, fun k t z => by simp at z⟩ (fun _ _ _ _ => trivial) ?_ ?_
  · rintro i y H' H'' hi ⟨ts, tl, sm, hL, hb⟩ ⟨rfl, rfl⟩
    refine ⟨wipe_it, ?_⟩
    unfold tYes
    dsimp only
    rw [if_pos rfl]
    refine ⟨_, Sl.it (i := 17) (by omega), _, v4.in1, 0 + (i : Nat), n, rfl, Nat.le_trans ok.five (by decide), fun H2 t s2 nt ht => ?_⟩
    have ntq : t ≠ q := fun e => by
      rw [e, hL] at nt
      cases nt
    have kp : ∀ b o, H'' b = some o → b ≠ q → upd H2 q (.lst (ts.map V.ref ++ [.ref t])) b = some o := fun b o e ne => (upd_ne ne).trans (s2 b o e)
    refine ⟨_, s2 _ _ hL, ?_, ts ++ [t], by rw [List.length_append, tl]; rfl, fun b o e => kp b o (sm b o e) (ne_of_none e hq), ?_, fun k u hk => ?_⟩
    · rw [List.length_map, tl, sizeLine_eq]
      omega
    · rw [upd_same, List.map_append]
      rfl
    · by_cases hk2 : k < ts.length
      · rw [List.getElem?_append_left hk2] at hk
        have e := hb k u hk
        refine kp u _ e fun z => ?_
        rw [z, hL] at e
        cases e
      · have hk3 : k = i := by
          have := (List.getElem?_eq_some_iff.mp hk).1
          rw [List.length_append] at this
          simp at this
          omega
        subst hk3
        rw [List.getElem?_append_right (by omega), tl, Nat.sub_self] at hk
        obtain rfl : t = u := by simpa using hk
        rw [upd_ne ntq, ht, Int.zero_add]
  · rintro H' ⟨ts, tl, sm, hL, hb⟩
    refine ⟨(show 2 ≤ sizeLine by rw [sizeLine_eq]; decide), fun u hu => ?_⟩
    refine ⟨u, _, rfl, SqT.of upd_same, rfl, _, _, rfl, _, _, rfl, rfl, ?_⟩
    have su := new_same (o := .tup [.ref r, .ref q]) hu
    have al : ∀ b o, H b = some o → upd H' u (.tup [.ref r, .ref q]) b = some o := fun b o e => su b o (sm b o (s1 b o e))
    refine k _ _ ⟨p, n, ns, tab, r, q, ts, ⟨a1.put.put, v3.put.put, v4.put.put, v5.put.put, Sl.put (Sl.here (by omega)), Sl.here (by rw [List.length_set]; omega)⟩, ok, ⟨draw_same a2 al, tabs_kept a2 (kept_same al) a3, hR.same fun b o e => su b o (sm b o e), al _ _ htab, ntl, su _ _ hL, nql, by omega, fun i t e => su _ _ (hb i t e)⟩⟩
end
end K
end
section
set_option linter.all false
set_option maxRecDepth 100000
set_option maxHeartbeats 8000000
namespace K
open PySem PySem.Spec PyProof.Rows L2 LamX Ob
/-- all that a turn stands on -/
structure TurnAt (C : Addr) (T : List (Addr × Str)) (d l c0 : Addr) (σ : L2.St) (H : Hp) (p : Int) (n : Nat) (ns : List Int) (tab r ab : Addr) (ts : List Addr) : Prop where
  vars : Vars σ d p n tab r ab
  ok : RuleOk p n ns
  ti : TI C T d l c0 r tab ab p n ns ts H
/-- due is such a list -/
def DueIs (σ : L2.St) (H : Hp) (ms : List Int) : Prop := ∃ due, Sl σ 9 (.ref due) ∧ H due = some (.lst (ms.map V.int))
section
variable {C : Addr} {T : List (Addr × Str)} {d l c0 : Addr}
theorem TurnAt.same {σ : L2.St} {H H' : Hp} {p : Int} {n : Nat} {ns : List Int} {tab r ab : Addr} {ts : List Addr} (I : TurnAt C T d l c0 σ H p n ns tab r ab ts) (sm : ∀ b o, H b = some o → H' b = some o) : TurnAt C T d l c0 σ H' p n ns tab r ab ts := ⟨I.vars, I.ok, I.ti.same sm⟩
theorem TurnAt.kept {σ : L2.St} {H H' : Hp} {p : Int} {n : Nat} {ns : List Int} {tab r ab : Addr} {ts : List Addr} (I : TurnAt C T d l c0 σ H p n ns tab r ab ts) (D : DrawAt H' d l c0) (k : Kept H H' d l) : TurnAt C T d l c0 σ H' p n ns tab r ab ts := ⟨I.vars, I.ok, I.ti.kept D k⟩
theorem TurnAt.put {σ : L2.St} {H : Hp} {p : Int} {n : Nat} {ns : List Int} {tab r ab : Addr} {ts : List Addr} {i : Nat} {y : Option V} (I : TurnAt C T d l c0 σ H p n ns tab r ab ts) (hi : i ∉ [1, 3, 4, 5, 6, 7] := by decide) : TurnAt C T d l c0 (σ.set i y) H p n ns tab r ab ts := ⟨I.vars.put hi, I.ok, I.ti⟩
theorem TurnAt.st {σ : L2.St} {H : Hp} {p : Int} {n : Nat} {ns : List Int} {tab r ab : Addr} {ts : List Addr} (I : TurnAt C T d l c0 σ H p n ns tab r ab ts) : St1 C T d l c0 σ H := ⟨p, n, ns, tab, r, ab, ts, I.vars, I.ok, I.ti⟩
end
section
variable {P : Program} {w : World} {K : PySem.W.Frag} {mg : Str → Option Value} {base : Heap} {f c : Addr} {A : Around} {outer : List Env} {s : Shared} {H0 : Hp} {E : XK} {C CN CB fI : Addr} {fdI : FuncData} {T : List (Addr × Str)} {d l c0 : Addr}
def A3 (C : Addr) (T : List (Addr × Str)) (d l c0 : Addr) : L2.St → Hp → Prop := fun σ H => ∃ p n ns tab r ab ts, TurnAt C T d l c0 σ H p n ns tab r ab ts ∧ ∃ k : Int, Sl σ 8 (.int k) ∧ 0 ≤ k ∧ k < p
/-- number = .. -/
theorem st3 (L : LD P w K mg base C CN CB fI fdI) (hr : Room 10 (LX P w K mg base f c A outer s H0 E).A) : PS (LX P w K mg base f c A outer s H0 E) (stB 3) (tTri (St1 C T d l c0) (A3 C T d l c0)) := by
  obtain ⟨fP, dP, GP, bP, gP, kP⟩ := L.pick
  obtain ⟨fT, dT, GT, bT, gT, kT⟩ := L.take
  refine tri (ps_set (i := 8) scL.nd rfl (Or.inr rfl) (pe_call GP (hr.mono (by decide)) rfl gP kP bP .nil pass0 (pa_cons (pv 1) (pa_cons (pe_lst (pa_cons pe_int (pa_cons pe_int (pa_cons (pe_op op_sub (pv 3) pe_int)
    (pa_cons (pe_call GT (hr.mono (by decide)) rfl gT kT bT .nil pass0 (pa_cons (pv 1) (pa_cons (pv 3) pa_nil))) pa_nil))))) pa_nil)))) fun D σ H hl ⟨p, n, ns, tab, r, ab, ts, vr, ok, I⟩ k => ?_
  have hl : σ.length = 20 := hl
  have hp := ok.least
  refine ⟨_, vr.v_draw, _, vr.v_prime, p, 1, rfl, rfl, _, vr.v_draw, _, vr.v_prime, d, l, c0, p, rfl, I.t_draw, by omega, by omega, fun x H1 x0 x1 D1 k1 => ?_⟩
  refine ⟨(show 4 ≤ sizeLine by rw [sizeLine_eq]; decide), fun u hu => ?_⟩
  have sm := new_same (o := .lst [.int 0, .int 1, .int (p - 1), .int x]) hu
  refine ⟨d, l, c0, u, [.int 0, .int 1, .int (p - 1), .int x], rfl, draw_same D1 sm, upd_same, (draw_new D1 hu).2, (by show 0 < 4; decide), (by show 4 < 1000; decide), fun j v H2 hv D2 k2 => ?_⟩
  obtain ⟨z, rfl, hz0, hz1⟩ : ∃ z, v = V.int z ∧ 0 ≤ z ∧ z < p := by
    match j, hv with
    | 0, hv => cases hv; exact ⟨0, rfl, by omega, by omega⟩
    | 1, hv => cases hv; exact ⟨1, rfl, by omega, by omega⟩
    | 2, hv => cases hv; exact ⟨p - 1, rfl, by omega, by omega⟩
    | 3, hv => cases hv; exact ⟨x, rfl, x0, x1⟩
    | j + 4, hv => simp at hv
  exact k _ _ ⟨p, n, ns, tab, r, ab, ts, ⟨vr.put, ok, I.kept D2 (kept_trans k1 (kept_trans (kept_same sm) k2))⟩, z, Sl.here (by omega), hz0, hz1⟩
def A4 (C : Addr) (T : List (Addr × Str)) (d l c0 : Addr) : L2.St → Hp → Prop := fun σ H => ∃ p n ns tab r ab ts, TurnAt C T d l c0 σ H p n ns tab r ab ts ∧ ∃ k : Int, Sl σ 8 (.int k) ∧ 0 ≤ k ∧ k < p ∧ DueIs σ H (ns.map fun y => (y * k).fmod p)
/-- due = [item * number % prime_here for item in table_here] -/
theorem st4 : PS (LX P w K mg base f c A outer s H0 E) (stB 4) (tTri (A3 C T d l c0) (A4 C T d l c0)) := by
  refine tri (ps_setLc (i := 9) (own := [("item", 18)]) (g := gName 18) (tt := tYes) rfl scL.nd rfl rfl (sw_true rfl rfl rfl (by decide +kernel)) (pi_list (pv 5)) (blkOk_by (N := NL) (sc := defScope sLaw) (by decide +kernel)) (fun _ _ _ _ _ => pg_name (i := 18) scL.nd rfl (Or.inl rfl)) (fun _ _ _ _ _ => pts_nil)
    (fun _ _ _ _ _ => pe_op op_modN (pe_op op_mul (pv 18) (pv 8)) (pv 3))) fun D σ H hl ⟨p, n, ns, tab, r, ab, ts, ⟨vr, ok, I⟩, k, hk, k0, k1⟩ go => ?_
  have hl : σ.length = 20 := hl
  have hp := ok.least
  refine ⟨_, vr.v_tab, tab, rfl, ⟨_, SqL.of I.t_tab⟩, fun q hq => lc_list (K := K) (a := tab) (xs := ns.map V.int) (fun i H' => H' = upd H q (.lst (((ns.take i).map fun y => (y * k).fmod p).map V.int))) rfl ?_ ?_ ?_⟩
  · rintro i H' _ rfl
    exact SqL.of (new_same hq _ _ I.t_tab)
  · rintro i x H' hx rfl
    obtain ⟨z, rfl, hz⟩ := at_ints hx
    have hzf := ok.field z (List.mem_of_getElem? hz)
    refine ⟨wipe_it, ?_⟩
    unfold tYes
    dsimp only
    rw [if_pos rfl]
    refine ⟨_, Sl.it (i := 18) (by omega), _, hk.in1, z, k, rfl, rfl, .inl ⟨by omega, by omega⟩, _, vr.v_prime.in1, _, _, rfl, rfl, (show p ≠ 0 by omega), _, upd_same, ?_, ?_⟩
    · rw [List.length_map, List.length_map, List.length_take, sizeLine_eq]
      have := ok.len
      have : (2 : Nat) ^ n ≤ 2 ^ 5 := Nat.pow_le_pow_right (by decide) ok.five
      omega
    · rw [upd_upd, take_more hz, List.map_append, List.map_append]
      rfl
  · rintro H' rfl
    rw [List.length_map, List.take_length]
    refine go _ _ ⟨p, n, ns, tab, r, ab, ts, ⟨vr.put, ok, I.same (new_same hq)⟩, k, hk.put, k0, k1, q, Sl.here (by omega), upd_same⟩
/-- the check of scaled -/
theorem st5 (L : LD P w K mg base C CN CB fI fdI) (hG : (LX P w K mg base f c A outer s H0 E).A.guards = some []) (hr : Room 10 (LX P w K mg base f c A outer s H0 E).A) : PS (LX P w K mg base f c A outer s H0 E) (stB 5) (tTri (A4 C T d l c0) (St1 C T d l c0)) := by
  have MR := L.low.MR
  obtain ⟨fS, dS, GS, bS, gS, kS, wS⟩ := L.scaled
  obtain ⟨fR, dR, GR, bR, gR, kR⟩ := L.isRule
  obtain ⟨fE, dE, NE, GE, bE⟩ := L.eq
  refine tri (ps_if (pw_or (pt_not (pt_val (pe_callG hG GR (hr.mono (by decide)) (by rfl) gR kR bR (pa_cons (pe_call GS (hr.mono (by decide)) (by rfl) gS kS bS .nil passL (pa_cons (pv 6) (pa_cons (pv 8) pa_nil))) (pa_cons (pv 3) (pa_cons (pv 9) pa_nil))))))
      (pw_or1 (pt_cmpR (op_neR NE GE bE pass0 (hr.mono (by decide))) (pe_kw GS (hr.mono (by decide)) (by rfl) gS kS wS passL (pk_cons (pv 8) (pk_cons (pv 6) pk_nil))) (pe_make MR.M MR.G (hr.mono (by decide)) (by rfl) MR.T.g MR.b .nil pass0 (by exact pa_cons (pv 3) (pa_cons (pv 9) pa_nil))) (nomark _)))).pt
    (pss_one (ps_ret pe_bl)) pss_nil) fun D σ H hl ⟨p, n, ns, tab, r, ab, ts, ⟨vr, ok, I⟩, k, hk, k0, k1, due, v9, hdue⟩ go => ?_
  have okS := scaled_ok (k := k) ok
  refine ⟨_, vr.v_rule, _, hk, r, .int k, some k, p, n, ns, rfl, I.t_rule, ok, .num k, .inl ⟨k, rfl, k0, k1, fun H1 q1 s1 r1 => ?_⟩⟩
  refine ⟨_, vr.v_prime, _, v9, q1, due, p, n, _, rfl, r1, okS, s1 _ _ hdue, fun H2 s2 => ⟨_, rfl, iteF ?_⟩⟩
  have s02 : ∀ b o, H b = some o → H2 b = some o := fun b o z => s2 b o (s1 b o z)
  refine ⟨_, hk, _, vr.v_rule, r, .int k, some k, p, n, ns, rfl, I.t_rule.same s02, ok, .num k, .inl ⟨k, rfl, k0, k1, fun H3 q3 s3 r3 => ?_⟩⟩
  have s03 : ∀ b o, H b = some o → H3 b = some o := fun b o z => s3 b o (s02 b o z)
  refine ⟨_, vr.v_prime, _, v9, ?_⟩
  refine made okS (s03 _ _ hdue) fun H4 q4 s4 r4 => ?_
  refine neR_false (r3.same s4) r4 ⟨_, rfl, iteF ?_⟩
  exact go _ _ ⟨p, n, ns, tab, r, ab, ts, vr, ok, I.same fun b o z => s4 b o (s03 b o z)⟩
end
end K
end
section
set_option linter.all false
set_option maxRecDepth 100000
set_option maxHeartbeats 8000000
namespace K
open PySem PySem.Spec PyProof.Rows L2 LamX Ob
/-- the scope of a statement's outermost comprehension, its free names told as the law's -/
def compScope : Stmt → Scope
  | .Assign _ (.ListComp _ _ sc _) _ => relabel sc (envOfC "law" (defScope sLaw) 0 0 (.ref 0))
  | _ => defScope sLaw
def maxOne (n : Nat) : Int := if (n : Int) > 1 then (n : Int) else 1
def backF (n m : Nat) : List Int := (List.range n).map fun k => (((0 : Int) + (k : Nat)) - (m : Int)).fmod (maxOne n)
/-- one turned number, leg by leg -/
def turnNum (n m k : Nat) : Int := numF ((List.range n).map fun j => pickF (bitsF n k) (pickF (backF n m) ((0 : Int) + (j : Nat))))
theorem turn_due : ∀ n, n ≤ 5 → ∀ m, m ≤ 8 → (List.range (2 ^ n)).map (fun k => turnNum n m k) = idxF n (turnOrder n m) 0 := by
  have h : ∀ n, n < 6 → ∀ m, m < 9 → (List.range (2 ^ n)).map (fun k => turnNum n m k) = idxF n (turnOrder n m) 0 := by decide +kernel
  exact fun n hn m hm => h n (by omega) m (by omega)
theorem back_in : ∀ n, n ≤ 5 → ∀ m, m ≤ 8 → ∀ j, j < n → 0 ≤ pickF (backF n m) ((0 : Int) + (j : Nat)) ∧ pickF (backF n m) ((0 : Int) + (j : Nat)) < (n : Int) := by
  have h : ∀ n, n < 6 → ∀ m, m < 9 → ∀ j, j < n → 0 ≤ pickF (backF n m) ((0 : Int) + (j : Nat)) ∧ pickF (backF n m) ((0 : Int) + (j : Nat)) < (n : Int) := by decide +kernel
  exact fun n hn m hm => h n (by omega) m (by omega)
theorem at_refs {ts : List Addr} {i : Nat} {x : V} (h : (ts.map V.ref)[i]? = some x) : ∃ t, x = V.ref t ∧ ts[i]? = some t := by
  rw [List.getElem?_map] at h
  cases e : ts[i]? with
  | none =>
    rw [e] at h
    cases h
  | some z =>
    rw [e] at h
    exact ⟨z, (Option.some.inj h).symm, rfl⟩
theorem idx_in {n : Nat} {f : Nat → Int} {idx : List Int} (e : (List.range (2 ^ n)).map f = idx) (h : ∀ i ∈ idx, 0 ≤ i ∧ i < ((2 ^ n : Nat) : Int)) {k : Nat} (hk : k < 2 ^ n) : 0 ≤ f k ∧ f k < ((2 ^ n : Nat) : Int) :=
  h _ (e ▸ List.mem_map.mpr ⟨k, List.mem_range.mpr hk, rfl⟩)
section
variable {P : Program} {w : World} {K : PySem.W.Frag} {mg : Str → Option Value} {base : Heap} {f c : Addr} {A : Around} {outer : List Env} {s : Shared} {H0 : Hp} {E : XK} {C CN CB fI : Addr} {fdI : FuncData} {T : List (Addr × Str)} {d l c0 : Addr}
def A6 (C : Addr) (T : List (Addr × Str)) (d l c0 : Addr) : L2.St → Hp → Prop := fun σ H => ∃ p n ns tab r ab ts, TurnAt C T d l c0 σ H p n ns tab r ab ts ∧ ∃ m : Nat, Sl σ 10 (.int m) ∧ m ≤ 8
def A7 (C : Addr) (T : List (Addr × Str)) (d l c0 : Addr) : L2.St → Hp → Prop := fun σ H => ∃ p n ns tab r ab ts, TurnAt C T d l c0 σ H p n ns tab r ab ts ∧ ∃ m : Nat, Sl σ 10 (.int m) ∧ m ≤ 8 ∧ ∃ bk, Sl σ 11 (.ref bk) ∧ H bk = some (.lst ((backF n m).map V.int))
def A8 (C : Addr) (T : List (Addr × Str)) (d l c0 : Addr) : L2.St → Hp → Prop := fun σ H => ∃ p n ns tab r ab ts, TurnAt C T d l c0 σ H p n ns tab r ab ts ∧ ∃ m : Nat, Sl σ 10 (.int m) ∧ m ≤ 8 ∧ DueIs σ H ((idxF n (turnOrder n m) 0).map (pickF ns))
/-- many = .. -/
theorem st6 (L : LD P w K mg base C CN CB fI fdI) (hr : Room 10 (LX P w K mg base f c A outer s H0 E).A) : PS (LX P w K mg base f c A outer s H0 E) (stB 6) (tTri (St1 C T d l c0) (A6 C T d l c0)) := by
  obtain ⟨fT, dT, GT, bT, gT, kT⟩ := L.take
  refine tri (ps_set (i := 10) scL.nd rfl (Or.inr rfl) (pe_call GT (hr.mono (by decide)) rfl gT kT bT .nil pass0 (pa_cons (pv 1) (pa_cons pe_int pa_nil)))) fun D σ H hl ⟨p, n, ns, tab, r, ab, ts, vr, ok, I⟩ k => ?_
  have hl : σ.length = 20 := hl
  refine ⟨_, vr.v_draw, d, l, c0, 9, rfl, I.t_draw, by decide, by decide, fun m H1 m0 m1 D1 k1 => ?_⟩
  obtain ⟨m, rfl⟩ := Int.eq_ofNat_of_zero_le m0
  exact k _ _ ⟨p, n, ns, tab, r, ab, ts, ⟨vr.put, ok, I.kept D1 k1⟩, m, Sl.here (by omega), by omega⟩
/-- back = .. -/
theorem st7 (L : LD P w K mg base C CN CB fI fdI) : PS (LX P w K mg base f c A outer s H0 E) (stB 7) (tTri (A6 C T d l c0) (A7 C T d l c0)) := by
  have B := L.low.B
  refine tri (ps_set (i := 11) scL.nd rfl (Or.inr rfl) (pe_lc (own := [("leg", 12)]) (g := gName 12) (tt := tYes) rfl scL.nd (pi_range1 (by rfl) B.range (pa_cons (pv 4) pa_nil)) (blkOk_by (N := NL) (sc := defScope sLaw) (by decide +kernel)) (fun _ _ _ _ _ => pg_name (i := 12) scL.nd rfl (Or.inl rfl)) (fun _ _ _ _ _ => pts_nil)
    (fun _ _ _ _ _ => pe_op op_modN (pe_op op_sub (pv 12) (pv 10)) (pe_callB (call_max2 rfl) (by rfl) L.mx (by decide +kernel) (pa_cons pe_int (pa_cons (pv 4) pa_nil)))))) fun D σ H hl ⟨p, n, ns, tab, r, ab, ts, ⟨vr, ok, I⟩, m, hm, m8⟩ go => ?_
  have hl : σ.length = 20 := hl
  have n5 := ok.five
  refine ⟨_, vr.v_legs, n, rfl, by omega, by omega, fun q hq => lc_it walk_range (fun i H' => H' = upd H q (.lst (((List.range i).map fun k => (((0 : Int) + (k : Nat)) - (m : Int)).fmod (maxOne n)).map V.int))) rfl (fun _ _ _ _ => trivial) ?_ ?_⟩
  · rintro i y H' H'' hi rfl ⟨rfl, rfl⟩
    have hi : i < n := by omega
    refine ⟨wipe_it, ?_⟩
    unfold tYes
    dsimp only
    rw [if_pos rfl]
    refine ⟨_, Sl.it (i := 12) (by omega), _, hm.in1, _, _, rfl, rfl, _, vr.v_legs.in1, 1, n, rfl, _, _, rfl, rfl, ?_, _, upd_same, ?_, ?_⟩
    · split <;> omega
    · rw [List.length_map, List.length_map, List.length_range, sizeLine_eq]
      omega
    · rw [upd_upd, List.range_succ, List.map_append, List.map_append]
      rfl
  · rintro H' rfl
    exact go _ _ ⟨p, n, ns, tab, r, ab, ts, ⟨vr.put, ok, I.same (new_same hq)⟩, m, hm.put, m8, q, Sl.here (by omega), upd_same.trans rfl⟩
/-- due = [table_here[_law_number([bits[back[leg]] for leg in ..])] for bits in all_bits] -/
theorem st8 (L : LD P w K mg base C CN CB fI fdI) (hr : Room 10 (LX P w K mg base f c A outer s H0 E).A) : PS (LX P w K mg base f c A outer s H0 E) (stB 8) (tTri (A7 C T d l c0) (A8 C T d l c0)) := by
  have B := L.low.B
  obtain ⟨fN, dN, GN, bN, gN, kN⟩ := L.number
  refine tri (ps_setLc (i := 9) (own := [("bits", 19)]) (g := gName 19) (tt := tYes) rfl scL.nd rfl rfl (sw_true rfl rfl rfl (by decide +kernel)) (pi_list (pv 7)) (blkOk_by (N := NL) (sc := defScope sLaw) (by decide +kernel)) (fun _ _ _ _ _ => pg_name (i := 19) scL.nd rfl (Or.inr rfl)) (fun _ _ _ _ _ => pts_nil)
    (fun _ _ _ _ _ => pe_ix (ix_list : IxR _ (rIxL K)) (pv 5) (pe_call GN (hr.mono (by decide)) rfl gN kN bN .nil pass0 (pa_cons
      (pe_lc (own := [("leg", 12)]) (g := gName 12) (tt := tYes) rfl scL.nd (pi_range1 (by rfl) B.range (pa_cons (pv 4) pa_nil)) (blkOk_by (N := NL) (sc := compScope (stB 8)) (by decide +kernel)) (fun _ _ _ _ _ => pg_name (i := 12) scL.nd rfl (Or.inl rfl)) (fun _ _ _ _ _ => pts_nil)
        (fun _ _ _ _ _ => pe_ix (ix_tup : IxR _ (rIxT K)) (pv 19) (pe_ix (ix_list : IxR _ (rIxL K)) (pv 11) (pv 12) (fun _ _ => rfl)) (fun _ _ => rfl))) pa_nil)) (fun _ _ => rfl))) fun D σ H hl ⟨p, n, ns, tab, r, ab, ts, ⟨vr, ok, I⟩, m, hm, m8, bk, hbk, hback⟩ go => ?_
  have hl : σ.length = 20 := hl
  have n5 := ok.five
  have p5 : (2 : Nat) ^ n ≤ 2 ^ 5 := Nat.pow_le_pow_right (by decide) n5
  have eD := turn_due n n5 m m8
  obtain ⟨_, _, o3⟩ := order_ok n5 (turn_all n n5 m m8)
  refine ⟨_, vr.v_ab, ab, rfl, ⟨_, SqL.of I.t_ab⟩, fun q hq => lc_list (K := K) (a := ab) (xs := ts.map V.ref) (fun i H' => (∀ b o, H b = some o → H' b = some o) ∧ H' q = some (.lst (((List.range i).map fun k => pickF ns (turnNum n m k)).map V.int))) ⟨new_same hq, upd_same⟩ ?_ ?_ ?_⟩
  · rintro i H' _ ⟨sm, _⟩
    exact SqL.of (sm _ _ I.t_ab)
  · rintro i x H' hx ⟨sm, hL⟩
    obtain ⟨t, rfl, ht⟩ := at_refs hx
    have hi : i < 2 ^ n := by
      have := (List.getElem?_eq_some_iff.mp ht).1
      rw [I.t_many] at this
      exact this
    have hbits := sm _ _ (I.t_bits i t ht)
    refine ⟨wipe_it, ?_⟩
    unfold tYes
    dsimp only
    rw [if_pos rfl]
    refine ⟨_, vr.v_tab.in1, _, vr.v_legs.in1, n, rfl, by omega, by omega, fun u hu => ?_⟩
    have hl2 : ((wipe σ [19]).set 19 (some (V.ref t))).length = 20 := by rw [List.length_set, wipe_length]; exact hl
    have nu : u ≠ q := fun e => by rw [e, hL] at hu; cases hu
    refine lc_it (g := gName 12) (tt := tYes) (te := tOp (rIxT K) (tVar 19) (tOp (rIxL K) (tVar 11) (tVar 12))) (vs := [12]) (σ := (wipe σ [19]).set 19 (some (V.ref t))) walk_range (fun j H2 => H2 = upd H' u (.lst (((List.range j).map fun j => pickF (bitsF n i) (pickF (backF n m) ((0 : Int) + (j : Nat)))).map V.int))) rfl (fun _ _ _ _ => trivial) ?_ ?_
    · rintro j y H2 H3 hj rfl ⟨rfl, rfl⟩
      have hj : j < n := by omega
      obtain ⟨z0, z1⟩ := back_in n n5 m m8 j hj
      refine ⟨wipe_it, ?_⟩
      unfold tYes
      dsimp only
      rw [if_pos rfl]
      have su := new_same (o := .lst (((List.range j).map fun j => pickF (bitsF n i) (pickF (backF n m) ((0 : Int) + (j : Nat)))).map V.int)) hu
      refine ⟨_, (Sl.it (i := 19) (by omega)).in1, _, hbk.in1.in1, _, Sl.it (i := 12) (by omega), bk, _, _, _, rfl, rfl, SqL.of (su _ _ (sm _ _ hback)), at_pick (by omega) (by unfold backF; rw [List.length_map, List.length_range]; omega), t, _, _, _, rfl, rfl, SqT.of (su _ _ hbits), at_pick z0 (by unfold bitsF; rw [List.length_map, List.length_range]; exact z1), _, upd_same, ?_, ?_⟩
      · rw [List.length_map, List.length_map, List.length_range, sizeLine_eq]
        omega
      · rw [upd_upd, List.range_succ, List.map_append, List.map_append]
        rfl
    · rintro H2 rfl
      rw [Int.toNat_natCast]
      have su := new_same (o := .lst (((List.range n).map fun j => pickF (bitsF n i) (pickF (backF n m) ((0 : Int) + (j : Nat)))).map V.int)) hu
      obtain ⟨z0, z1⟩ := idx_in eD o3 hi
      refine ⟨u, _, rfl, .inl (SqL.of upd_same), ?_⟩
      refine ⟨tab, _, _, _, rfl, rfl, SqL.of (su _ _ (sm _ _ I.t_tab)), at_pick z0 (by rw [ok.len]; exact z1), _, su _ _ hL, ?_, ?_, ?_⟩
      · rw [List.length_map, List.length_map, List.length_range, sizeLine_eq]
        omega
      · intro b o e
        rw [upd_ne (ne_of_none e hq)]
        exact su _ _ (sm _ _ e)
      · rw [upd_same, List.range_succ, List.map_append, List.map_append]
        rfl
  · rintro H' ⟨sm, hL⟩
    rw [List.length_map, I.t_many] at hL
    refine go _ _ ⟨p, n, ns, tab, r, ab, ts, ⟨vr.put, ok, I.same sm⟩, m, hm.put, m8, q, Sl.here (by omega), ?_⟩
    rw [hL, ← eD]
    simp only [List.map_map]
    rfl
end
end K
end
section
set_option linter.all false
set_option maxRecDepth 100000
set_option maxHeartbeats 4000000
/-! t[::-1], t a tuple -/
namespace HT
open PySem PySem.Spec PyProof.Rows L2
section
variable {prog : Program} {w : World} {A : Around} {E : Value → Shared → Prop} {s : Shared}
theorem adjust_rev (n : Nat) : Builtin.Slice.sliceAdjust none none (-1) (n : Int) = ((n : Int) - 1, -1) := rfl
theorem places_rev (n : Nat) : Builtin.Slice.slicePlaces ((n : Int) - 1) (-1) (-1) = n := by
  unfold Builtin.Slice.slicePlaces
  have h1 : ¬ ((-1 : Int) > 0) := by decide
  simp only [h1, if_false]
  rw [show (- -1 : Int) = 1 by decide, Int.ediv_one]
  split <;> omega
theorem pick_rev (xs : Array Value) : ((List.range xs.size).filterMap fun (k : Nat) => xs[(((xs.size : Nat) : Int) - 1 + (k : Int) * (-1)).toNat]?).toArray = xs.toList.reverse.toArray := by
  have e : (List.range xs.size).filterMap (fun (k : Nat) => xs[(((xs.size : Nat) : Int) - 1 + (k : Int) * (-1)).toNat]?) = ((List.range xs.size).map (fun k => xs.size - 1 - k)).filterMap (xs[·]?) := by
    rw [List.filterMap_map]
    refine congrArg (fun f => List.filterMap f (List.range xs.size)) ?_
    funext k
    show xs[(((xs.size : Nat) : Int) - 1 + (k : Int) * (-1)).toNat]? = xs[xs.size - 1 - k]?
    rw [show (((xs.size : Nat) : Int) - 1 + (k : Int) * (-1)).toNat = xs.size - 1 - k by omega]
  rw [e, PySem.W.krv_range, List.filterMap_reverse, PySem.W.krv_all]
theorem sliceApplied_rev {sl : Addr} {vs : Value} {n : Nat} {Q : Int × Int × Nat → Shared → Prop} (hs : s.heap.IsSliceOf sl .none .none vs) (ps : IsPart vs (some (-1)))
    (h : Q ((n : Int) - 1, -1, n) s) : wpAny (model prog w) A (Builtin.Slice.sliceApplied (.ref sl) (pure (n : Int))) Q E s := by
  obtain ⟨os, hos, hcs, hds⟩ := id hs
  unfold Builtin.Slice.sliceApplied Builtin.Slice.sliceFields
  refine wpAny_bind (wpAny_bind (wpAny_field hos hds (x := .none) rfl (wpAny_bind (wpAny_field hos hds (x := .none) rfl (wpAny_bind (wpAny_field hos hds (x := vs) rfl (wpAny_pure ?_)))))))
  refine wpAny_bind (slicePart_ ps ?_)
  show wpAny _ _ (if ((-1 : Int) == 0) = true then _ else _) _ _ s
  rw [if_neg (by decide)]
  refine wpAny_bind (slicePart_none (wpAny_bind (slicePart_none (wpAny_bind (wpAny_pure ?_)))))
  show wpAny _ _ (pure ((n : Int) - 1, (-1 : Int), Builtin.Slice.slicePlaces ((n : Int) - 1) (-1) (-1))) _ _ s
  rw [places_rev]
  exact wpAny_pure h
theorem getItem_tuple_rev {t sl : Addr} {items : Array Value} {vs : Value} {Q : Value → Shared → Prop} (ht : IsTup s.heap t items) (hs : s.heap.IsSliceOf sl .none .none vs) (ps : IsPart vs (some (-1)))
    (h : Q (.ref s.heap.objs.size) { s with heap := s.heap.push { cls := .type "tuple", data := .seq items.toList.reverse.toArray } })
    (hsz : items.size ≤ sizeLine) : wpAny (model prog w) A (getItem (.ref t) (.ref sl)) Q E s := by
  have htake : sizeOk (.seq items.toList.reverse.toArray) := by
    show items.toList.reverse.toArray.size ≤ sizeLine
    rw [List.size_toArray, List.length_reverse, Array.length_toList]
    exact hsz
  obtain ⟨os, hos, hcs, hds⟩ := id hs
  have hTs : s.TypeIs (.ref sl) "slice" := ⟨os, hos, hcs⟩
  unfold getItem
  try with_reducible refine wpAny_holding ?_
  first | refine wpAny_bind (wpAny_pure ?_) | skip
  refine wpAny_bind (wpAny_sequenceKey ht.typeIs (by decide) ?_)
  refine wpAny_bind (wpAny_callSpecial?_slot (name := Str.ofString "__getitem__") ht.typeIs PyProof.Rows.slot_tuple_getitem
    (wpAny_call_entry PyProof.Rows.slot_tuple_getitem ht.typeIs entry_tuple_getitem ?_ (args_tuple_getitem _ _)))
  show wpAny _ _ (Builtin.Tuple.tupleItemsOf (.ref t) >>= _) _ _ s
  refine wpAny_bind (tupleItemsOf_ ht ?_)
  refine wpAny_bind (wpAny_typeOf hTs ?_)
  rw [if_pos (by decide)]
  refine wpAny_bind (sliceApplied_rev hs ps ?_)
  have hno : ¬ (((((items.size : Nat) : Int) - 1) == 0 && (-1 : Int) == 1 && items.size == items.size) = true) := by
    intro q
    rw [Bool.and_eq_true, Bool.and_eq_true] at q
    exact absurd q.1.2 (by decide)
  show wpAny _ _ (if ((((items.size : Nat) : Int) - 1) == 0 && (-1 : Int) == 1 && items.size == items.size) = true then _ else _) _ _ s
  rw [if_neg hno, pick_rev]
  first
    | exact wpAny_bind (m := Builtin.Tuple.tupleExact _) (wpAny_newObj_type (wpAny_pure ⟨_, rfl, wpAny_pure h⟩) htake)
    | exact wpAny_bind (m := Builtin.Tuple.tupleExact _) (wpAny_newObj_type (wpAny_bind (wpAny_pure (wpAny_pure ⟨_, rfl, wpAny_pure h⟩))) htake)
    | exact wpAny_bind (wpAny_bind (m := Builtin.Tuple.tupleExact _) (wpAny_newObj_type (wpAny_pure (wpAny_pure ⟨_, rfl, wpAny_pure h⟩)) htake))
    | exact wpAny_bind (wpAny_bind (m := Builtin.Tuple.tupleExact _) (wpAny_newObj_type (wpAny_pure ⟨_, rfl, wpAny_pure h⟩) htake))
end
end HT
namespace Ob
open PySem PySem.Spec PyProof.Rows L2
section
variable {X : Cx}
def tRevT (K : PySem.W.Frag) (te : TE) : TE := fun σ H Q => te σ H fun x H1 => ∃ a xs, x = .ref a ∧ SqT K H1 a xs ∧ ∀ p, H1 p = none → Q (.ref p) (upd H1 p (.tup xs.reverse))
theorem pe_revT {e : Expr} {te : TE} {k : Nat} {p1 p2 p3 pos : Pos} (he : PE X e te) : PE X (.Subscript e (.Slice none none (some (.UnaryOp .USub (.Constant (.int 1) k p1) p2)) p3) pos) (tRevT X.K te) := by
  refine ⟨fun pins s σ H Q I h => ?_⟩
  refine Subscript_ (thn (he.run pins s σ H _ I h) fun v s1 ⟨x, H1, I1, r1, q1⟩ => ?_)
  obtain ⟨a, xs, ex, hx, q⟩ := q1
  subst ex
  cases r1
  have hst : PO X (some (.UnaryOp .USub (.Constant (.int 1) k p1) p2)) (tPart (tUn (rU fun i => .int (-i)) (tC (.int 1)))) := po_some (pe_un un_neg pe_int)
  refine wpAny_Slice (thn (po_none.run pins s1 σ H1 (fun o H2 => o = none ∧ H2 = H1) I1 ⟨rfl, rfl⟩) fun vl s2 ⟨l, H2, I2, pl, el, e2⟩ => ?_)
  subst el e2
  refine thn (po_none.run pins s2 σ H2 (fun o H3 => o = none ∧ H3 = H2) I2 ⟨rfl, rfl⟩) fun vu s3 ⟨u, H3, I3, pu, eu, e3⟩ => ?_
  subst eu e3
  refine thn (hst.run pins s3 σ H3 (fun o H4 => o = some (-1) ∧ H4 = H3) I3 ⟨1, rfl, -1, rfl, rfl, rfl⟩) fun vs s4 ⟨o, H4, I4, ps, eo, e4⟩ => ?_
  subst eo e4
  cases pl
  cases pu
  have I5 : Inv X pins σ H4 { s4 with heap := s4.heap.push { cls := .type "slice", data := .fields #[.none, .none, vs] } } := I4.kept (t' := s4.toks) fun b ob q => Heap.get?_push_of_some _ q
  obtain ⟨its, r, ht, hz⟩ := I5.tuple hx
  have hlen := r.length
  show wpAny (model X.prog X.w) X.A (subscriptTail e (.Slice none none (some (.UnaryOp .USub (.Constant (.int 1) k p1) p2)) p3) (.ref a) (.ref s4.heap.objs.size)) (EP X pins σ Q) X.xe { s4 with heap := s4.heap.push { cls := .type "slice", data := .fields #[.none, .none, vs] } }
  refine tail_any (ops := [.ref a, .ref s4.heap.objs.size]) ht.typeIs (PyProof.Rows.slot_tuple_getitem.lookup) ?_ (by with_unfolding_all rfl)
  refine HT.getItem_tuple_rev ht (Heap.IsSliceOf.new _ _ _ vs) ps ?_ (by rw [List.size_toArray]; omega)
  refine ⟨.ref _, _, I5.laid (t' := s4.toks) (o := .tup xs.reverse) (fun b ob q => Heap.get?_push_of_some _ q) (Nat.le_refl _) ?_, rfl, q _ (I5.hok.fresh (Nat.le_refl _))⟩
  exact ⟨by rw [List.length_reverse]; exact hz, _, r.reverse, IsTup.new _ _⟩
end
end Ob
end
section
set_option linter.all false
set_option maxRecDepth 100000
set_option maxHeartbeats 8000000
namespace K
open PySem PySem.Spec PyProof.Rows L2 LamX Ob
theorem pick_map {ns idx : List Int} {i : Int} (h0 : 0 ≤ i) (h1 : i < (idx.length : Int)) : pickF (idx.map (pickF ns)) i = pickF ns (pickF idx i) := by
  obtain ⟨k, rfl⟩ := Int.eq_ofNat_of_zero_le h0
  have hk : k < idx.length := by omega
  show (idx.map (pickF ns)).getD ((k : Int)).toNat 0 = pickF ns (idx.getD ((k : Int)).toNat 0)
  rw [Int.toNat_natCast, List.getD_eq_getElem?_getD, List.getD_eq_getElem?_getD, List.getElem?_map, List.getElem?_eq_getElem hk]
  rfl
theorem pick_range {ns : List Int} {N : Nat} (hl : ns.length = N) : ((List.range N).map fun k => ((k : Nat) : Int)).map (pickF ns) = ns := by
  refine List.ext_getElem (by rw [List.length_map, List.length_map, List.length_range, hl]) fun i h1 h2 => ?_
  rw [List.getElem_map, List.getElem_map, List.getElem_range]
  show ns.getD ((i : Int)).toNat 0 = _
  rw [Int.toNat_natCast, List.getD_eq_getElem?_getD, List.getElem?_eq_getElem h2]
  rfl
/-- there and back -/
theorem back_pick {ns i1 i2 : List Int} {N : Nat} (hl : ns.length = N) (h1 : i1.length = N) (hi : ∀ i ∈ i2, 0 ≤ i ∧ i < ((N : Nat) : Int)) (hc : i2.map (pickF i1) = (List.range N).map fun k => ((k : Nat) : Int)) : i2.map (pickF (i1.map (pickF ns))) = ns := by
  have e : i2.map (pickF (i1.map (pickF ns))) = (i2.map (pickF i1)).map (pickF ns) := by
    rw [List.map_map]
    refine List.map_congr_left fun i him => ?_
    obtain ⟨a, b⟩ := hi i him
    exact pick_map a (by rw [h1]; exact b)
  rw [e, hc, pick_range hl]
theorem turn_len : ∀ n : Nat, n ≤ 5 → ∀ m : Nat, m ≤ 8 → (idxF n (turnOrder n m) 0).length = 2 ^ n := fun n h m hm => by
  unfold idxF
  rw [sums_len, List.length_map]
  unfold turnOrder
  rw [List.length_map, List.length_range]
theorem mirror_len (n : Nat) : (idxF n (mirrorOrder n) 0).length = 2 ^ n := by
  unfold idxF
  rw [sums_len, List.length_map]
  unfold mirrorOrder
  rw [List.length_map, List.length_range]
theorem turn_comp : ∀ n : Nat, n ≤ 5 → ∀ m : Nat, m < n → (idxF n (turnOrder n (n - m)) 0).map (pickF (idxF n (turnOrder n m) 0)) = (List.range (2 ^ n)).map fun k => ((k : Nat) : Int) := by
  have h : ∀ n : Nat, n < 6 → ∀ m : Nat, m < n → (idxF n (turnOrder n (n - m)) 0).map (pickF (idxF n (turnOrder n m) 0)) = (List.range (2 ^ n)).map fun k => ((k : Nat) : Int) := by decide +kernel
  exact fun n hn => h n (by omega)
theorem mirror_comp : ∀ n : Nat, n ≤ 5 → (idxF n (mirrorOrder n) 0).map (pickF (idxF n (mirrorOrder n) 0)) = (List.range (2 ^ n)).map fun k => ((k : Nat) : Int) := by
  have h : ∀ n : Nat, n < 6 → (idxF n (mirrorOrder n) 0).map (pickF (idxF n (mirrorOrder n) 0)) = (List.range (2 ^ n)).map fun k => ((k : Nat) : Int) := by decide +kernel
  exact fun n hn => h n (by omega)
theorem turn_back {p : Int} {n m : Nat} {ns : List Int} (ok : RuleOk p n ns) (hm : m < n) : (idxF n (turnOrder n (n - m)) 0).map (pickF ((idxF n (turnOrder n m) 0).map (pickF ns))) = ns := by
  have n5 := ok.five
  exact back_pick ok.len (turn_len n n5 m (by omega)) (order_ok n5 (turn_all n n5 _ (by omega))).2.2 (turn_comp n n5 m hm)
theorem mirror_back {p : Int} {n : Nat} {ns : List Int} (ok : RuleOk p n ns) : (idxF n (mirrorOrder n) 0).map (pickF ((idxF n (mirrorOrder n) 0).map (pickF ns))) = ns := by
  have n5 := ok.five
  exact back_pick ok.len (mirror_len n) (order_ok n5 (mirror_all n n5)).2.2 (mirror_comp n n5)
def mirNum (n k : Nat) : Int := numF (bitsF n k).reverse
theorem mirror_due : ∀ n : Nat, n ≤ 5 → (List.range (2 ^ n)).map (fun k => mirNum n k) = idxF n (mirrorOrder n) 0 := by
  have h : ∀ n : Nat, n < 6 → (List.range (2 ^ n)).map (fun k => mirNum n k) = idxF n (mirrorOrder n) 0 := by decide +kernel
  exact fun n hn => h n (by omega)
theorem turnOk {p : Int} {n m : Nat} {ns : List Int} (ok : RuleOk p n ns) (hm : m ≤ 8) : RuleOk p n ((idxF n (turnOrder n m) 0).map (pickF ns)) :=
  pick_ok ok (turn_len n ok.five m hm) (order_ok ok.five (turn_all n ok.five m hm)).2.2
theorem mirrorOk {p : Int} {n : Nat} {ns : List Int} (ok : RuleOk p n ns) : RuleOk p n ((idxF n (mirrorOrder n) 0).map (pickF ns)) :=
  pick_ok ok (mirror_len n) (order_ok ok.five (mirror_all n ok.five)).2.2
section
variable {P : Program} {w : World} {K : PySem.W.Frag} {mg : Str → Option Value} {base : Heap} {f c : Addr} {A : Around} {outer : List Env} {s : Shared} {H0 : Hp} {E : XK} {C CN CB fI : Addr} {fdI : FuncData} {T : List (Addr × Str)} {d l c0 : Addr}
/-- the check of turned -/
theorem st9 (L : LD P w K mg base C CN CB fI fdI) (hG : (LX P w K mg base f c A outer s H0 E).A.guards = some []) (hr : Room 10 (LX P w K mg base f c A outer s H0 E).A) : PS (LX P w K mg base f c A outer s H0 E) (stB 9) (tTri (A8 C T d l c0) (A6 C T d l c0)) := by
  have MR := L.low.MR
  obtain ⟨fS, dS, GS, bS, gS, kS, wS⟩ := L.turned
  obtain ⟨fR, dR, GR, bR, gR, kR⟩ := L.isRule
  obtain ⟨fE, dE, NE, GE, bE⟩ := L.eq
  refine tri (ps_if (pw_or (pt_not (pt_val (pe_callG hG GR (hr.mono (by decide)) (by rfl) gR kR bR (pa_cons (pe_call GS (hr.mono (by decide)) (by rfl) gS kS bS .nil passL (pa_cons (pv 6) (pa_cons (pv 10) pa_nil))) (pa_cons (pv 3) (pa_cons (pv 9) pa_nil))))))
      (pw_or1 (pt_cmpR (op_neR NE GE bE pass0 (hr.mono (by decide))) (pe_kw GS (hr.mono (by decide)) (by rfl) gS kS wS passL (pk_cons (pv 10) (pk_cons (pv 6) pk_nil))) (pe_make MR.M MR.G (hr.mono (by decide)) (by rfl) MR.T.g MR.b .nil pass0 (by exact pa_cons (pv 3) (pa_cons (pv 9) pa_nil))) (nomark _)))).pt
    (pss_one (ps_ret pe_bl)) pss_nil) fun D σ H hl ⟨p, n, ns, tab, r, ab, ts, ⟨vr, ok, I⟩, m, hm, m8, due, v9, hdue⟩ go => ?_
  have okS := turnOk ok m8
  refine ⟨_, vr.v_rule, _, hm, r, .int m, some m, p, n, ns, rfl, I.t_rule, ok, .num m, .inl ⟨m, rfl, m8, fun H1 q1 s1 r1 => ?_⟩⟩
  refine ⟨_, vr.v_prime, _, v9, q1, due, p, n, _, rfl, r1, okS, s1 _ _ hdue, fun H2 s2 => ⟨_, rfl, iteF ?_⟩⟩
  have s02 : ∀ b o, H b = some o → H2 b = some o := fun b o z => s2 b o (s1 b o z)
  refine ⟨_, hm, _, vr.v_rule, r, .int m, some m, p, n, ns, rfl, I.t_rule.same s02, ok, .num m, .inl ⟨m, rfl, m8, fun H3 q3 s3 r3 => ?_⟩⟩
  have s03 : ∀ b o, H b = some o → H3 b = some o := fun b o z => s3 b o (s02 b o z)
  refine ⟨_, vr.v_prime, _, v9, ?_⟩
  refine made okS (s03 _ _ hdue) fun H4 q4 s4 r4 => ?_
  refine neR_false (r3.same s4) r4 ⟨_, rfl, iteF ?_⟩
  exact go _ _ ⟨p, n, ns, tab, r, ab, ts, ⟨vr, ok, I.same fun b o z => s4 b o (s03 b o z)⟩, m, hm, m8⟩
/-- turned and back -/
theorem st10 (L : LD P w K mg base C CN CB fI fdI) (hr : Room 10 (LX P w K mg base f c A outer s H0 E).A) : PS (LX P w K mg base f c A outer s H0 E) (stB 10) (tTri (A6 C T d l c0) (St1 C T d l c0)) := by
  obtain ⟨fS, dS, GS, bS, gS, kS, wS⟩ := L.turned
  obtain ⟨fE, dE, NE, GE, bE⟩ := L.eq
  refine tri (ps_if (pw_and (pt_cmpR op_gt (pv 4) pe_int (nomark _))
      (pw_and1 (pt_cmpR (op_neR NE GE bE pass0 (hr.mono (by decide))) (pe_call GS (hr.mono (by decide)) (by rfl) gS kS bS .nil passL (pa_cons (pe_call GS (hr.mono (by decide)) (by rfl) gS kS bS .nil passL (pa_cons (pv 6) (pa_cons (pe_op op_modN (pv 10) (pv 4)) pa_nil))) (pa_cons (pe_op op_sub (pv 4) (pe_op op_modN (pv 10) (pv 4))) pa_nil))) (pv 6) (nomark _)))).pt
    (pss_one (ps_ret pe_bl)) pss_nil) fun D σ H hl ⟨p, n, ns, tab, r, ab, ts, ⟨vr, ok, I⟩, m, hm, m8⟩ go => ?_
  have n5 := ok.five
  refine ⟨_, vr.v_legs, n, 0, rfl, rfl, _, rfl, ?_⟩
  by_cases hn : (0 : Int) < n
  · rw [decide_eq_true hn]
    refine iteT ?_
    have hn0 : 0 < n := by omega
    have hlt : m % n < n := Nat.mod_lt m hn0
    have e1 : ((m : Int)).fmod n = ((m % n : Nat) : Int) := by
      rw [Int.fmod_eq_emod_of_nonneg _ (by omega)]
      rfl
    refine ⟨_, vr.v_rule, _, hm, _, vr.v_legs, m, n, rfl, rfl, (by omega : (n : Int) ≠ 0), r, .int _, some _, p, n, ns, rfl, I.t_rule, ok, .num _, .inl ⟨m % n, congrArg some e1, by omega, fun H1 q1 s1 r1 => ?_⟩⟩
    refine ⟨_, vr.v_legs, _, hm, _, vr.v_legs, m, n, rfl, rfl, (by omega : (n : Int) ≠ 0), n, _, rfl, rfl, q1, .int _, some _, p, n, _, rfl, r1, turnOk ok (by omega), .num _, .inl ⟨n - m % n, ?_, by omega, fun H2 q2 s2 r2 => ?_⟩⟩
    · rw [e1]
      exact congrArg some (by omega)
    · rw [turn_back ok hlt] at r2
      have s02 : ∀ b o, H b = some o → H2 b = some o := fun b o z => s2 b o (s1 b o z)
      refine ⟨_, vr.v_rule, neR_false r2 (I.t_rule.same s02) ⟨_, rfl, iteF ?_⟩⟩
      exact go _ _ ⟨p, n, ns, tab, r, ab, ts, vr, ok, I.same s02⟩
  · rw [decide_eq_false hn]
    refine iteF (iteF ?_)
    exact go _ _ ⟨p, n, ns, tab, r, ab, ts, vr, ok, I⟩
def A11 (C : Addr) (T : List (Addr × Str)) (d l c0 : Addr) : L2.St → Hp → Prop := fun σ H => ∃ p n ns tab r ab ts, TurnAt C T d l c0 σ H p n ns tab r ab ts ∧ DueIs σ H ((idxF n (mirrorOrder n) 0).map (pickF ns))
/-- due = [table_here[_law_number(bits[::-1])] for bits in all_bits] -/
theorem st11 (L : LD P w K mg base C CN CB fI fdI) (hr : Room 10 (LX P w K mg base f c A outer s H0 E).A) : PS (LX P w K mg base f c A outer s H0 E) (stB 11) (tTri (St1 C T d l c0) (A11 C T d l c0)) := by
  have B := L.low.B
  obtain ⟨fN, dN, GN, bN, gN, kN⟩ := L.number
  refine tri (ps_setLc (i := 9) (own := [("bits", 19)]) (g := gName 19) (tt := tYes) rfl scL.nd rfl rfl (sw_true rfl rfl rfl (by decide +kernel)) (pi_list (pv 7)) (blkOk_by (N := NL) (sc := defScope sLaw) (by decide +kernel)) (fun _ _ _ _ _ => pg_name (i := 19) scL.nd rfl (Or.inl rfl)) (fun _ _ _ _ _ => pts_nil)
    (fun _ _ _ _ _ => pe_ix (ix_list : IxR _ (rIxL K)) (pv 5) (pe_call GN (hr.mono (by decide)) rfl gN kN bN .nil pass0 (pa_cons (by exact (show PE _ _ (tRevT K (tVar 19)) from pe_revT (pv 19))) pa_nil)) (fun _ _ => rfl))) fun D σ H hl ⟨p, n, ns, tab, r, ab, ts, vr, ok, I⟩ go => ?_
  have hl : σ.length = 20 := hl
  have n5 := ok.five
  have p5 : (2 : Nat) ^ n ≤ 2 ^ 5 := Nat.pow_le_pow_right (by decide) n5
  have eD := mirror_due n n5
  obtain ⟨_, _, o3⟩ := order_ok n5 (mirror_all n n5)
  refine ⟨_, vr.v_ab, ab, rfl, ⟨_, SqL.of I.t_ab⟩, fun q hq => lc_list (K := K) (a := ab) (xs := ts.map V.ref) (fun i H' => (∀ b o, H b = some o → H' b = some o) ∧ H' q = some (.lst (((List.range i).map fun k => pickF ns (mirNum n k)).map V.int))) ⟨new_same hq, upd_same⟩ ?_ ?_ ?_⟩
  · rintro i H' _ ⟨sm, _⟩
    exact SqL.of (sm _ _ I.t_ab)
  · rintro i x H' hx ⟨sm, hL⟩
    obtain ⟨t, rfl, ht⟩ := at_refs hx
    have hi : i < 2 ^ n := by
      have := (List.getElem?_eq_some_iff.mp ht).1
      rw [I.t_many] at this
      exact this
    have hbits := sm _ _ (I.t_bits i t ht)
    obtain ⟨z0, z1⟩ := idx_in eD o3 hi
    refine ⟨wipe_it, ?_⟩
    unfold tYes
    dsimp only
    rw [if_pos rfl]
    refine ⟨_, vr.v_tab.in1, _, Sl.it (i := 19) (by omega), t, _, rfl, SqT.of hbits, fun u hu => ?_⟩
    have su := new_same (o := .tup ((bitsF n i).map V.int).reverse) hu
    refine ⟨u, (bitsF n i).reverse, rfl, .inr (SqT.of (upd_same.trans (by rw [List.map_reverse]))), ?_⟩
    refine ⟨tab, _, _, _, rfl, rfl, SqL.of (su _ _ (sm _ _ I.t_tab)), at_pick z0 (by rw [ok.len]; exact z1), _, su _ _ hL, ?_, ?_, ?_⟩
    · rw [List.length_map, List.length_map, List.length_range, sizeLine_eq]
      omega
    · intro b o e
      rw [upd_ne (ne_of_none e hq)]
      exact su _ _ (sm _ _ e)
    · rw [upd_same, List.range_succ, List.map_append, List.map_append]
      rfl
  · rintro H' ⟨sm, hL⟩
    rw [List.length_map, I.t_many] at hL
    refine go _ _ ⟨p, n, ns, tab, r, ab, ts, ⟨vr.put, ok, I.same sm⟩, q, Sl.here (by omega), ?_⟩
    rw [hL, ← eD]
    simp only [List.map_map]
    rfl
/-- the check of mirrored -/
theorem st12 (L : LD P w K mg base C CN CB fI fdI) (hG : (LX P w K mg base f c A outer s H0 E).A.guards = some []) (hr : Room 10 (LX P w K mg base f c A outer s H0 E).A) : PS (LX P w K mg base f c A outer s H0 E) (stB 12) (tTri (A11 C T d l c0) (St1 C T d l c0)) := by
  have MR := L.low.MR
  obtain ⟨fS, dS, GS, bS, gS, kS, wS⟩ := L.mirrored
  obtain ⟨fR, dR, GR, bR, gR, kR⟩ := L.isRule
  obtain ⟨fE, dE, NE, GE, bE⟩ := L.eq
  refine tri (ps_if (pw_or (pt_not (pt_val (pe_callG hG GR (hr.mono (by decide)) (by rfl) gR kR bR (pa_cons (pe_call GS (hr.mono (by decide)) (by rfl) gS kS bS .nil pass0 (pa_cons (pv 6) pa_nil)) (pa_cons (pv 3) (pa_cons (pv 9) pa_nil))))))
      (pw_or (pt_cmpR (op_neR NE GE bE pass0 (hr.mono (by decide))) (pe_kw GS (hr.mono (by decide)) (by rfl) gS kS wS pass0 (pk_cons (pv 6) pk_nil)) (pe_make MR.M MR.G (hr.mono (by decide)) (by rfl) MR.T.g MR.b .nil pass0 (by exact pa_cons (pv 3) (pa_cons (pv 9) pa_nil))) (nomark _))
      (pw_or1 (pt_cmpR (op_neR NE GE bE pass0 (hr.mono (by decide))) (pe_call GS (hr.mono (by decide)) (by rfl) gS kS bS .nil pass0 (pa_cons (pe_call GS (hr.mono (by decide)) (by rfl) gS kS bS .nil pass0 (pa_cons (pv 6) pa_nil)) pa_nil)) (pv 6) (nomark _))))).pt
    (pss_one (ps_ret pe_bl)) pss_nil) fun D σ H hl ⟨p, n, ns, tab, r, ab, ts, ⟨vr, ok, I⟩, due, v9, hdue⟩ go => ?_
  have okS := mirrorOk ok
  refine ⟨_, vr.v_rule, r, p, n, ns, rfl, I.t_rule, ok, fun H1 q1 s1 r1 => ?_⟩
  refine ⟨_, vr.v_prime, _, v9, q1, due, p, n, _, rfl, r1, okS, s1 _ _ hdue, fun H2 s2 => ⟨_, rfl, iteF ?_⟩⟩
  have s02 : ∀ b o, H b = some o → H2 b = some o := fun b o z => s2 b o (s1 b o z)
  refine ⟨_, vr.v_rule, r, p, n, ns, rfl, I.t_rule.same s02, ok, fun H3 q3 s3 r3 => ?_⟩
  have s03 : ∀ b o, H b = some o → H3 b = some o := fun b o z => s3 b o (s02 b o z)
  refine ⟨_, vr.v_prime, _, v9, ?_⟩
  refine made okS (s03 _ _ hdue) fun H4 q4 s4 r4 => ?_
  refine neR_false (r3.same s4) r4 ⟨_, rfl, iteF ?_⟩
  have s04 : ∀ b o, H b = some o → H4 b = some o := fun b o z => s4 b o (s03 b o z)
  refine ⟨_, vr.v_rule, r, p, n, ns, rfl, I.t_rule.same s04, ok, fun H5 q5 s5 r5 => ?_⟩
  refine ⟨q5, p, n, _, rfl, r5, okS, fun H6 q6 s6 r6 => ?_⟩
  rw [mirror_back ok] at r6
  have s06 : ∀ b o, H b = some o → H6 b = some o := fun b o z => s6 b o (s5 b o (s04 b o z))
  refine ⟨_, vr.v_rule, neR_false r6 (I.t_rule.same s06) ⟨_, rfl, iteF ?_⟩⟩
  exact go _ _ ⟨p, n, ns, tab, r, ab, ts, vr, ok, I.same s06⟩
end
end K
end
section
set_option linter.all false
set_option maxRecDepth 100000
set_option maxHeartbeats 8000000
namespace K
open PySem PySem.Spec PyProof.Rows L2 LamX Ob
abbrev lawLam : Str := "law.<locals>.<lambda>"
/-- statements from A i to B i, whatever i is -/
def tTriP {ι : Type} (n : Nat) (A B : ι → L2.St → Hp → Prop) : TS := fun D σ H => ∃ i, (σ.length = n → A i σ H) ∧ ∀ σ' H', B i σ' H' → D.nx σ' H'
theorem triP {X : Cx} {ss : List Stmt} {ι : Type} {n : Nat} {A B : ι → L2.St → Hp → Prop} (hn : X.N.length = n) (h : ∀ i, PSs X ss (tTri (A i) (B i))) : PSs X ss (tTriP n A B) :=
  ⟨fun pins s σ H D I ⟨i, a, b⟩ => (h i).run pins s σ H D I ⟨a (hn ▸ I.len), b⟩⟩
/-- the same, of one statement -/
theorem triE {X : Cx} {st : Stmt} {ι : Type} {A B : ι → L2.St → Hp → Prop} (h : ∀ i, PS X st (tTri (A i) (B i))) : PS X st (tTri (fun σ H => ∃ i, A i σ H) (fun σ H => ∃ i, B i σ H)) :=
  ⟨fun pins s σ H D I ⟨⟨i, a⟩, b⟩ => (h i).run pins s σ H D I ⟨a, fun σ' H' z => b σ' H' ⟨i, z⟩⟩⟩
theorem tri_mono {X : Cx} {st : Stmt} {A A' B B' : L2.St → Hp → Prop} (h : PS X st (tTri A B)) (ha : ∀ σ H, A' σ H → A σ H) (hb : ∀ σ H, B σ H → B' σ H) : PS X st (tTri A' B') :=
  ⟨fun pins s σ H D I ⟨a, b⟩ => h.run pins s σ H D I ⟨ha _ _ a, fun σ' H' z => b σ' H' (hb _ _ z)⟩⟩
theorem extN_same {H H' : Hp} (h : ∀ b o, H b = some o → H' b = some o) : ExtN H H' := fun b o e _ => h b o e
section
variable {P : Program} {w : World} {K : PySem.W.Frag} {mg : Str → Option Value} {base : Heap} {f c Pt : Addr} {A : Around} {outer : List Env} {s : Shared} {H0 : Hp} {E : XK} {C CN CB fI : Addr} {fdI : FuncData} {d l c0 : Addr}
/-- what a refusal leaves at caught -/
def CaughtIs (CN : Addr) (wd : Str) (σ : L2.St) (H : Hp) : Prop := ∃ a dd, Sl σ 16 (.ref a) ∧ CgtAt H a CN dd [("part", .str wd)]
abbrev TL (Pt : Addr) : List (Addr × Str) := [(Pt, lawLam)]
/-- caught = _law_caught(lambda: ..), which raises -/
theorem st_caught (L : LD P w K mg base C CN CB fI fdI) (TB : TabB base mg c Pt) (hr : Room 11 (LX P w K mg base f c A outer s H0 E).A) {ps : Arguments} {b : Expr} {sc : Scope} {p0 p1 p2 p3 p4 : Pos} {dt : XK → TE} {wd : Str} {G : L2.St → Hp → Prop}
    (hS : lamSB (defScope sLaw) sc = true) (hB : ∀ (q : Str) (cl : List (Str × Addr)) (pm cv ctv : Value), bindArgs (PySem.W.kla_fn "<lambda>" q ps b sc cl pm cv ctv) ⟨[], []⟩ = pure [])
    (hbody : ∀ (A' : Around) (outer' : List Env) (s' : Shared) (H' : Hp) (E' : XK) (f' c' : Addr), Room 9 (A'.deeper (lamEnv (LX P w K mg base f c A outer s H0 E) sc s'.heap.objs.size f' c')) → PE (lamCx (LX P w K mg base f c A outer s H0 E) A' outer' s' H' E' sc f' c') b (dt E')) (hdef : defaultsOf ps (LX P w K mg base f c A outer s H0 E).env = ([], []))
    (hd : ∀ σ H E' Q, G σ H → Raised CN "part" (.str wd) H E' → dt E' σ H Q) (hT : ∀ σ H, G σ H → Tabs (TL Pt) H) (hg : ∀ σ H H2, G σ H → ExtN H H2 → Tabs (TL Pt) H2 → G σ H2) (hv : ∀ σ H v, G σ H → G (σ.set 16 v) H) :
    PS (LX P w K mg base f c A outer s H0 E) (.Assign [.Name "caught" p0] (.Call (.Name "_law_caught" p1) [.Lambda ps b sc p2] [] p3) p4) (tTri G (fun σ H => G σ H ∧ CaughtIs CN wd σ H)) := by
  obtain ⟨fC, dC, FC, bC, gC⟩ := L.caught
  obtain ⟨oc, od, kV, doc, pm, an, cdv, ct, osl, rfl, lk, hcd⟩ := FC.ex
  have hL : LamT (LX P w K mg base f c A outer s H0 E) 9 ⟨ps, b, sc, dt⟩ := ⟨lamS_by hS, hB, hbody⟩
  refine tri (ps_set (i := 16) scL.nd rfl (Or.inl rfl) (pe_lamarg (x := "_law_caught") (a := "work") (k := 9) (ds := [⟨ps, b, sc, dt⟩]) (Ng := ["work", "caught", "error"]) (by rfl) gC FC.kp lk hcd bC ⟨rfl, rfl, rfl, by decide +kernel, rfl, by decide +kernel, by decide +kernel⟩ rfl (Or.inl rfl)
    (caught_gives ⟨rfl, rfl, rfl, by decide +kernel, rfl, by decide +kernel, by decide +kernel⟩ (Or.inl rfl) rfl rfl rfl L.base_ (by decide) (by decide) (by decide) (by decide) (by decide)) hr (fun d hd => (List.mem_singleton.mp hd) ▸ hL)
    (pe_lam TB rfl (T := TL Pt) (List.mem_singleton.mpr rfl) (fun p hp _ => by rw [List.mem_singleton.mp hp]; rfl) hdef (fun ok => LamS.has hL.scope ok)))) fun D σ H hl hG go => ?_
  have hl : σ.length = 20 := hl
  refine ⟨hT _ _ hG, fun fl c' H1 ext tabs nf hc => ⟨fl, c', _, rfl, List.mem_singleton.mpr rfl, ⟨upd_same, ?_⟩, ?_⟩⟩
  · rw [upd_ne (ne_of_none hc nf)]
    exact hc
  · have sm := new_same (o := LamO fl (lq (LX P w K mg base f c A outer s H0 E)) ps b sc (cloFrom (LX P w K mg base f c A outer s H0 E).env.cells sc.names []) c') nf
    have t2 : Tabs (TL Pt) (upd H1 fl (LamO fl (lq (LX P w K mg base f c A outer s H0 E)) ps b sc (cloFrom (LX P w K mg base f c A outer s H0 E).env.cells sc.names []) c')) := fun p hp => (tabs p hp).ext sm
    have g2 := hg _ _ _ hG (ext.trans (extN_same sm)) t2
    refine hd _ _ _ _ g2 fun dd hdd => ⟨L.exm, fun a na => ?_⟩
    have s3 := new_same (o := .xd [(("part" : Str), V.str wd)]) hdd
    have s4 := new_same (o := Cgt (.ref CN) (some dd) a) na
    refine go _ _ ⟨hv _ _ _ (hg _ _ _ g2 (extN_same fun b o e => s4 b o (s3 b o e)) fun p hp => (t2 p hp).ext fun b o e => s4 b o (s3 b o e)), a, dd, Sl.here (by omega), upd_same, ?_⟩
    exact s4 _ _ upd_same
/-- if not isinstance(caught, BadNumber) or caught.part != ..: return False -/
theorem st_part (L : LD P w K mg base C CN CB fI fdI) {p0 p1 p2 p3 p4 p5 p6 p7 p8 p9 p10 p11 p12 : Pos} {j1 j2 : Nat} {wd : Str} {G : L2.St → Hp → Prop} :
    PS (LX P w K mg base f c A outer s H0 E) (.If (.BoolOp .Or [.UnaryOp .Not (.Call (.Name "isinstance" p0) [.Name "caught" p1, .Name "BadNumber" p2] [] p3) p4, .Compare (.Attribute (.Name "caught" p5) "part" p6) [.NotEq] [.Constant (.str wd) j1 p7] p8] p9) [.Return (some (.Constant (.bool false) j2 p10)) p11] [] p12)
      (tTri (fun σ H => G σ H ∧ CaughtIs CN wd σ H) G) := by
  have B := L.low.B
  refine tri (ps_if (pw_or (pt_not (pt_val (pe_callB call_isC (by rfl) B.isi (by decide +kernel) (pa_cons (pv 16) (pa_cons (pe_glob (v := .ref CN) (by rfl) L.low.TN.g rfl) pa_nil)))))
      (pw_or1 (pt_cmpR op_ne (pe_cgt (pv 16)) pe_str (nomark _)))).pt
    (pss_one (ps_ret pe_bl)) pss_nil) fun D σ H hl ⟨hG, a, dd, h16, hC⟩ go => ?_
  refine ⟨_, h16, a, CN, dd, _, .ref CN, .ref CN, true, rfl, hC, L.xc, fun _ z => z, ?_, true, rfl, iteF ?_⟩
  · exact kit_self
  · refine ⟨_, h16, a, CN, dd, _, .str wd, rfl, hC, L.xf, L.xno, rfl, ?_⟩
    refine ⟨rfl, _, rfl, ?_⟩
    rw [decide_eq_true rfl]
    exact iteF (go _ _ hG)
end
end K
end
section
set_option linter.all false
set_option maxRecDepth 100000
set_option maxHeartbeats 8000000
namespace K
open PySem PySem.Spec PyProof.Rows L2 LamX Ob
/-- what is refused -/
def bads (z : Int) : List V := [.non, .int (-1), .int z, .bl true, .str "0"]
theorem bad_thing {K : PySem.W.Frag} {H : Hp} {z : Int} {v : V} (h : v ∈ bads z) : ∃ o, Thing K H v o ∧ (o = none ∨ o = some (-1) ∨ o = some z) := by
  unfold bads at h
  simp only [List.mem_cons, List.not_mem_nil, or_false] at h
  rcases h with rfl | rfl | rfl | rfl | rfl
  · exact ⟨_, thing_non, .inl rfl⟩
  · exact ⟨_, .num (-1), .inr (.inl rfl)⟩
  · exact ⟨_, .num z, .inr (.inr rfl)⟩
  · exact ⟨_, thing_bl, .inl rfl⟩
  · exact ⟨_, thing_str, .inl rfl⟩
theorem bad_out {o : Option Int} {z most : Int} (h : o = none ∨ o = some (-1) ∨ o = some z) (hz : most < z) : within o 0 most = false := by
  rcases h with rfl | rfl | rfl
  · rfl
  · unfold within
    simp
  · unfold within
    simp
    omega
section
variable {P : Program} {w : World} {K : PySem.W.Frag} {mg : Str → Option Value} {base : Heap} {f c Pt : Addr} {A : Around} {outer : List Env} {s : Shared} {H0 : Hp} {E : XK} {C CN CB fI : Addr} {fdI : FuncData} {d l c0 : Addr}
/-- for bad in [None, -1, .., True, "0"]: .. -/
theorem st_bad {e : Expr} {te : TE} {p0 p1 p2 p3 p4 p5 p6 p7 : Pos} {j0 j1 j2 j3 : Nat} {body : List Stmt} {z : Int} {G : L2.St → Hp → Prop} (he : PE (LX P w K mg base f c A outer s H0 E) e te) (hse : ∀ es, starEach (e :: es) (LX P w K mg base f c A outer s H0 E).env = (false, eval e (LX P w K mg base f c A outer s H0 E).env) :: starEach es (LX P w K mg base f c A outer s H0 E).env)
    (hz : ∀ σ H (Q : VK), G σ H → Q (.int z) H → te σ H Q) (hs : ∀ σ H H', G σ H → (∀ b o, H b = some o → H' b = some o) → G σ H') (hv : ∀ σ H v, G σ H → G (σ.set 14 v) H)
    (hb : ∀ v ∈ bads z, ∀ q : Addr, PSs (LX P w K mg base f c A outer s H0 E) body (tTri (fun σ H => G σ H ∧ Sl σ 14 v ∧ H q = some (.lst (bads z))) (fun σ H => G σ H ∧ Sl σ 14 v ∧ H q = some (.lst (bads z))))) :
    PS (LX P w K mg base f c A outer s H0 E) (.For (.Name "bad" p0) (.List [.Constant .none j0 p1, .UnaryOp .USub (.Constant (.int 1) j1 p2) p3, e, .Constant (.bool true) j2 p4, .Constant (.str "0") j3 p5] p6) body [] p7) (tTri G G) := by
  refine tri (ps_for PassesOwn.never rfl (pi_list (pe_lst (pa_cons pe_non (pa_cons (pe_un un_neg pe_int) (pa_cons he (pa_cons pe_bl (pa_cons pe_str pa_nil)) (hs := hse _)))))) (pg_name (i := 14) scL.nd rfl (Or.inr rfl))
    (triP (n := 20) (ι := {vq : V × Addr // vq.1 ∈ bads z}) rfl fun i => hb i.1.1 i.2 i.1.2)) fun D σ H hl hG go => ?_
  refine ⟨1, rfl, hz _ _ _ hG ⟨(show 5 ≤ sizeLine by rw [sizeLine_eq]; decide), fun q hq => ⟨q, rfl, ⟨_, SqL.of upd_same⟩, ?_⟩⟩⟩
  refine for_list (K := K) (a := q) (xs := bads z) (fun i σ H' => G σ H' ∧ H' q = some (.lst (bads z))) ⟨hs _ _ _ hG (new_same hq), upd_same⟩ (fun i σ H' _ ⟨_, h⟩ => SqL.of h) ?_ (fun σ H' ⟨h, _⟩ => go _ _ h)
  rintro i x σ H' hx ⟨h1, h2⟩
  exact ⟨⟨(x, q), List.mem_of_getElem? hx⟩, fun hl2 => ⟨hv _ _ _ h1, Sl.here (by rw [List.length_set] at hl2; omega), h2⟩, fun σ' H'' ⟨g, _, k⟩ => ⟨g, k⟩⟩
/-- all that stays through the refusals of one turn -/
abbrev Tn := Int × Nat × List Int × Addr × Addr × Addr × List Addr
def GT (C : Addr) (Pt d l c0 : Addr) (t : Tn) : L2.St → Hp → Prop := fun σ H => TurnAt C (TL Pt) d l c0 σ H t.1 t.2.1 t.2.2.1 t.2.2.2.1 t.2.2.2.2.1 t.2.2.2.2.2.1 t.2.2.2.2.2.2
theorem gt_st1 {σ : L2.St} {H : Hp} : (∃ t, GT C Pt d l c0 t σ H) ↔ St1 C (TL Pt) d l c0 σ H :=
  ⟨fun ⟨_, h⟩ => h.st, fun ⟨p, n, ns, tab, r, ab, ts, a, b, c⟩ => ⟨(p, n, ns, tab, r, ab, ts), a, b, c⟩⟩
theorem GT.ext {t : Tn} {σ : L2.St} {H H' : Hp} (g : GT C Pt d l c0 t σ H) (e : ExtN H H') (tb : Tabs (TL Pt) H') : GT C Pt d l c0 t σ H' := ⟨g.vars, g.ok, g.ti.ext e tb⟩
/-- the refusal of turned -/
theorem st15 (L : LD P w K mg base C CN CB fI fdI) (TB : TabB base mg c Pt) (hr : Room 11 (LX P w K mg base f c A outer s H0 E).A) : PS (LX P w K mg base f c A outer s H0 E) (stB 15) (tTri (St1 C (TL Pt) d l c0) (St1 C (TL Pt) d l c0)) := by
  obtain ⟨fS, dS, GS, bS, gS, kS, wS⟩ := L.turned
  refine tri_mono (triE (A := GT C Pt d l c0) (B := GT C Pt d l c0) fun t => ?_) (fun σ H h => gt_st1.mpr h) (fun σ H h => gt_st1.mp h)
  refine st_bad (z := 9) (G := GT C Pt d l c0 t) pe_int (fun _ => rfl) (fun _ _ _ _ q => q) (fun σ H H' g sm => TurnAt.same g sm) (fun σ H v g => TurnAt.put g) fun v hv q => ?_
  refine tri_cons (st_caught (wd := "many") L TB hr (dt := fun E' => tCall (spTurned K C CN) [] E' (tCons (tVar 6) (tCons (tVar 14) tNil))) (by decide +kernel) (fun _ _ _ _ _ => rfl) (fun A outer s H E' f c' hr => pe_call GS hr (by rfl) gS kS bS .nil (passE (takes_of rfl rfl rfl rfl)) (pa_cons (pv 6) (pa_cons (pv 14) pa_nil))) rfl ?_ ?_ ?_ ?_) (tri_last (st_part L))
  · rintro σ H E' Q ⟨g, h14, hq⟩ ra
    obtain ⟨o, th, ho⟩ := bad_thing (K := K) (H := H) hv
    exact ⟨_, g.vars.v_rule, _, h14, _, v, o, _, _, _, rfl, g.ti.t_rule, g.ok, th, .inr ⟨bad_out ho (by decide), ra⟩⟩
  · rintro σ H ⟨g, _⟩
    exact g.ti.t_tabs
  · rintro σ H H2 ⟨g, h14, hq⟩ ext tb
    exact ⟨g.ext ext tb, h14, ext _ _ hq fun _ z => by cases z⟩
  · rintro σ H v ⟨g, h14, hq⟩
    exact ⟨TurnAt.put g, h14.put, hq⟩
/-- the refusal of scaled -/
theorem st16 (L : LD P w K mg base C CN CB fI fdI) (TB : TabB base mg c Pt) (hr : Room 11 (LX P w K mg base f c A outer s H0 E).A) : PS (LX P w K mg base f c A outer s H0 E) (stB 16) (tTri (St1 C (TL Pt) d l c0) (St1 C (TL Pt) d l c0)) := by
  obtain ⟨fS, dS, GS, bS, gS, kS, wS⟩ := L.scaled
  refine tri_mono (triE (A := GT C Pt d l c0) (B := GT C Pt d l c0) fun t => ?_) (fun σ H h => gt_st1.mpr h) (fun σ H h => gt_st1.mp h)
  refine st_bad (z := t.1) (G := GT C Pt d l c0 t) (pv 3) (fun _ => rfl) (fun _ _ _ g q => ⟨_, g.vars.v_prime, q⟩) (fun σ H H' g sm => TurnAt.same g sm) (fun σ H v g => TurnAt.put g) fun v hv q => ?_
  refine tri_cons (st_caught (wd := "number") L TB hr (dt := fun E' => tCall (spScaled K C CN) [] E' (tCons (tVar 6) (tCons (tVar 14) tNil))) (by decide +kernel) (fun _ _ _ _ _ => rfl) (fun A outer s H E' f c' hr => pe_call GS (hr.mono (by decide)) (by rfl) gS kS bS .nil (passE (takes_of rfl rfl rfl rfl)) (pa_cons (pv 6) (pa_cons (pv 14) pa_nil))) rfl ?_ ?_ ?_ ?_) (tri_last (st_part L))
  · rintro σ H E' Q ⟨g, h14, hq⟩ ra
    obtain ⟨o, th, ho⟩ := bad_thing (K := K) (H := H) hv
    exact ⟨_, g.vars.v_rule, _, h14, _, v, o, _, _, _, rfl, g.ti.t_rule, g.ok, th, .inr ⟨bad_out ho (by omega), ra⟩⟩
  · rintro σ H ⟨g, _⟩
    exact g.ti.t_tabs
  · rintro σ H H2 ⟨g, h14, hq⟩ ext tb
    exact ⟨g.ext ext tb, h14, ext _ _ hq fun _ z => by cases z⟩
  · rintro σ H v ⟨g, h14, hq⟩
    exact ⟨TurnAt.put g, h14.put, hq⟩
end
end K
end
section
set_option linter.all false
set_option maxRecDepth 100000
set_option maxHeartbeats 8000000
namespace K
open PySem PySem.Spec PyProof.Rows L2 LamX Ob
def askOf : Stmt → Arguments × Expr × Scope
  | .For _ (.List [_, .Lambda ps b sc _] _) _ _ _ => (ps, b, sc)
  | _ => (⟨[], [], none, [], [], none, []⟩, .Constant .none 0 ⟨0, 0, 0, 0⟩, defScope sLaw)
/-- for ask in [flipped, lambda ..]: .. -/
def sAsk : Stmt := (forBody (stB 14)).getD 0 (.Pass ⟨0, 0, 0, 0⟩)
/-- the lambda with parameters, at g -/
def AskAt (H : Hp) (g c' : Addr) : Prop := H g = some (LamO g lawLam (askOf sAsk).1 (askOf sAsk).2.1 (askOf sAsk).2.2 [] c') ∧ H c' = some (CodeO c' lawLam)
theorem of_mem2 {α : Type} {a b x : α} (h : x ∈ [a, b]) : x = a ∨ x = b := by simpa using h
theorem lamO_ne {g c' : Addr} {q : Str} {ps : Arguments} {b : Expr} {sc : Scope} {cl : List (Str × Addr)} (xs : Array Value) : LamO g q ps b sc cl c' ≠ .tbl xs := fun z => by
  unfold LamO at z
  cases z
theorem AskAt.ext {H H' : Hp} {g c' : Addr} (h : AskAt H g c') (e : ExtN H H') : AskAt H' g c' := ⟨e _ _ h.1 lamO_ne, e _ _ h.2 fun _ z => by unfold CodeO at z; cases z⟩
section
variable {P : Program} {w : World} {K : PySem.W.Frag} {mg : Str → Option Value} {base : Heap} {f c Pt : Addr} {A : Around} {outer : List Env} {s : Shared} {H0 : Hp} {E : XK} {C CN CB fI : Addr} {fdI : FuncData} {d l c0 : Addr}
def AskG (C Pt d l c0 : Addr) (t : Tn) (v : V) (q fF : Addr) (z : {z : Addr × Addr × Addr × Addr // z.1 = fF ∨ z.1 = z.2.1}) : L2.St → Hp → Prop := fun σ H =>
  GT C Pt d l c0 t σ H ∧ Sl σ 14 v ∧ H q = some (.lst (bads t.2.1)) ∧ Sl σ 15 (.ref z.1.1) ∧ H z.1.2.2.2 = some (.lst [.ref fF, .ref z.1.2.1]) ∧ AskAt H z.1.2.1 z.1.2.2.1
/-- the refusal of flipped and set_leg -/
theorem st14 (L : LD P w K mg base C CN CB fI fdI) (TB : TabB base mg c Pt) (hr : Room 11 (LX P w K mg base f c A outer s H0 E).A) : PS (LX P w K mg base f c A outer s H0 E) (stB 14) (tTri (St1 C (TL Pt) d l c0) (St1 C (TL Pt) d l c0)) := by
  obtain ⟨fF, dF, GF, bF, gF, kF, wF⟩ := L.flipped
  obtain ⟨fS, dS, GS, bS, gS, kS, wS⟩ := L.setLeg
  refine tri_mono (triE (A := GT C Pt d l c0) (B := GT C Pt d l c0) fun t => ?_) (fun σ H h => gt_st1.mpr h) (fun σ H h => gt_st1.mp h)
  refine st_bad (z := (t.2.1 : Int)) (G := GT C Pt d l c0 t) (pv 4) (fun _ => rfl) (fun _ _ _ g q => ⟨_, g.vars.v_legs, q⟩) (fun σ H H' g sm => TurnAt.same g sm) (fun σ H v g => TurnAt.put g) fun v hv q => ?_
  refine tri_last (tri (ps_for PassesOwn.never rfl (pi_list (pe_lst (pa_cons (pe_glob (v := .ref fF) (by rfl) gF rfl) (pa_cons (pe_lam TB rfl (T := TL Pt) (List.mem_singleton.mpr rfl) (fun p hp _ => by rw [List.mem_singleton.mp hp]; rfl) rfl (fun _ y hy e => ?hfree)) pa_nil)))) (pg_name (i := 15) scL.nd rfl (Or.inr rfl))
    (triP (n := 20) (A := AskG C Pt d l c0 t v q fF) (B := AskG C Pt d l c0 t v q fF) rfl fun z => ?hbody)) fun D σ H hl hG go => ?hread)
  case hfree =>
    simp only [List.mem_cons, List.not_mem_nil, or_false] at hy
    rcases hy with rfl | rfl | rfl <;> cases e
  case hbody =>
    refine tri_cons (st_caught (wd := "leg") L TB hr (dt := fun E' σ H Q => tCallL 15 fF (spFlipped K C CN) [] E' (tCons (tVar 6) (tCons (tVar 14) tNil)) σ H Q ∨ _) (by decide +kernel) (fun _ _ _ _ _ => rfl) (fun A outer s H E' f c' hr => pe_either
      (pe_callL (i := 15) GF (hr.mono (by decide)) (by rfl) (.inr (.inr rfl)) kF bF .nil (passE (takes_of rfl rfl rfl rfl)) (pa_cons (pv 6) (pa_cons (pv 14) pa_nil)))
      (pe_callLam (i := 15) (k := 8) (ps := ["some", "leg"]) (q := lawLam) (params := (askOf sAsk).1) (body := (askOf sAsk).2.1) (scope := (askOf sAsk).2.2) (tb := tCall (spSetLeg K C CN) [] E' (tCons (tVar 0) (tCons (tVar 1) (tCons (tC .non) tNil)))) ⟨rfl, rfl, rfl, by decide +kernel, rfl, by decide +kernel, by decide +kernel⟩
        (fun us hu pm cv ctv => by match us, hu with | [a, b], _ => rfl)
        (fun A outer s H f c' hr => by exact pe_call GS hr (by rfl) gS kS bS .nil (passE (takes_of rfl rfl rfl rfl)) (pa_cons (pv 0) (pa_cons (pv 1) (pa_cons pe_non pa_nil)))) hr (passE (takes_of rfl rfl rfl rfl)) (by rfl) (.inr (.inr rfl)) (pa_cons (pv 6) (pa_cons (pv 14) pa_nil)))) rfl ?_ ?_ ?_ ?_) (tri_last (st_part L))
    · rintro σ H E' Q ⟨g, h14, hq, h15, hq2, ask⟩ ra
      obtain ⟨o, th, ho⟩ := bad_thing (K := K) (H := H) hv
      rcases z.2 with e | e
      · rw [e] at h15
        exact .inl ⟨h15, _, g.vars.v_rule, _, h14, _, v, o, _, _, _, rfl, g.ti.t_rule, g.ok, th, .inr ⟨bad_out ho (by omega), ra⟩⟩
      · rw [e] at h15
        exact .inr ⟨_, _, h15, ask.1, _, g.vars.v_rule, _, h14, ask.1, ask.2, rfl, _, rfl, _, rfl, _, v, .non, o, none, _, _, _, rfl, g.ti.t_rule, g.ok, th, thing_non, .inr ⟨bad_out ho (by omega), ra⟩⟩
    · rintro σ H ⟨g, _⟩
      exact g.ti.t_tabs
    · rintro σ H H2 ⟨g, h14, hq, h15, hq2, ask⟩ ext tb
      exact ⟨g.ext ext tb, h14, ext _ _ hq (fun _ z => by cases z), h15, ext _ _ hq2 (fun _ z => by cases z), ask.ext ext⟩
    · rintro σ H v ⟨g, h14, hq, h15, hq2, ask⟩
      exact ⟨TurnAt.put g, h14.put, hq, h15.put, hq2, ask⟩
  case hread =>
    obtain ⟨g, h14, hq⟩ := hG
    refine ⟨g.ti.t_tabs, fun fl c' H1 ext tabs nf hc => ⟨(show 2 ≤ sizeLine by rw [sizeLine_eq]; decide), fun q2 hq2 => ⟨q2, rfl, ⟨_, SqL.of upd_same⟩, ?_⟩⟩⟩
    have s1 := new_same (o := LamO fl lawLam (askOf sAsk).1 (askOf sAsk).2.1 (askOf sAsk).2.2 [] c') nf
    have s2 := new_same (o := .lst [.ref fF, .ref fl]) hq2
    have sm : ∀ b o, H1 b = some o → _ := fun b o e => s2 b o (s1 b o e)
    have hAsk : AskAt (upd (upd H1 fl (LamO fl lawLam (askOf sAsk).1 (askOf sAsk).2.1 (askOf sAsk).2.2 [] c')) q2 (.lst [.ref fF, .ref fl])) fl c' := ⟨s2 _ _ upd_same, sm _ _ hc⟩
    refine for_list (K := K) (a := q2) (xs := [.ref fF, .ref fl]) (fun i σ H' => GT C Pt d l c0 t σ H' ∧ Sl σ 14 v ∧ H' q = some (.lst (bads t.2.1)) ∧ H' q2 = some (.lst [.ref fF, .ref fl]) ∧ AskAt H' fl c')
      ⟨g.ext (ext.trans (extN_same sm)) (fun p hp => (tabs p hp).ext sm), h14, sm _ _ (ext _ _ hq fun _ z => by cases z), upd_same, hAsk⟩ (fun i σ H' _ h => SqL.of h.2.2.2.1) ?_ (fun σ H' h => go _ _ ⟨h.1, h.2.1, h.2.2.1⟩)
    rintro i x σ H' hx ⟨h1, h2, h3, h4, h5⟩
    obtain ⟨y, rfl, hy⟩ : ∃ y, x = V.ref y ∧ (y = fF ∨ y = fl) := by
      rcases of_mem2 (List.mem_of_getElem? hx) with rfl | rfl
      · exact ⟨_, rfl, .inl rfl⟩
      · exact ⟨_, rfl, .inr rfl⟩
    exact ⟨⟨(y, fl, c', q2), hy⟩, fun hl2 => ⟨TurnAt.put h1, h2.put, h3, Sl.here (by rw [List.length_set] at hl2; omega), h4, h5⟩, fun σ' H'' ⟨g1, g2, g3, g4, g5, g6⟩ => ⟨g1, g2, g3, g5, g6⟩⟩
end
end K
end
section
set_option linter.all false
set_option maxRecDepth 100000
set_option maxHeartbeats 8000000
namespace K
open PySem PySem.Spec PyProof.Rows L2 LamX Ob
/-- the i-th statement of the legs' loop -/
def sLeg (i : Nat) : Stmt := (forBody (stB 13)).getD i (.Pass ⟨0, 0, 0, 0⟩)
def flipNum (n l k : Nat) : Int := numF ((bitsF n k).take l ++ [1 - pickF (bitsF n k) (l : Nat)] ++ (bitsF n k).drop (l + 1))
theorem flip_due : ∀ n : Nat, n ≤ 5 → ∀ l : Nat, l < n → (List.range (2 ^ n)).map (fun k => flipNum n l k) = flipIdx n l := by
  have h : ∀ n : Nat, n < 6 → ∀ l : Nat, l < n → (List.range (2 ^ n)).map (fun k => flipNum n l k) = flipIdx n l := by decide +kernel
  exact fun n hn => h n (by omega)
def setL (n l : Nat) (b : Int) (i : Nat) : List Int := ((List.range i).filter fun k => decide (pickF (bitsF n (k : Nat)) (l : Nat) = b)).map fun k => (0 : Int) + (k : Nat)
theorem set_due : ∀ n : Nat, n ≤ 5 → ∀ l : Nat, l < n → ∀ b : Int, b = 0 ∨ b = 1 → setL n l b (2 ^ n) = setIdx n l b := by
  have h : ∀ n : Nat, n < 6 → ∀ l : Nat, l < n → setL n l 0 (2 ^ n) = setIdx n l 0 ∧ setL n l 1 (2 ^ n) = setIdx n l 1 := by decide +kernel
  rintro n hn l hl b (rfl | rfl)
  · exact (h n (by omega) l hl).1
  · exact (h n (by omega) l hl).2
theorem setL_yes {n l i : Nat} {b : Int} (h : pickF (bitsF n (i : Nat)) (l : Nat) = b) : setL n l b (i + 1) = setL n l b i ++ [(0 : Int) + (i : Nat)] := by
  unfold setL
  rw [List.range_succ, List.filter_append, List.map_append]
  simp [h]
theorem setL_no {n l i : Nat} {b : Int} (h : ¬ pickF (bitsF n (i : Nat)) (l : Nat) = b) : setL n l b (i + 1) = setL n l b i := by
  unfold setL
  rw [List.range_succ, List.filter_append, List.map_append]
  simp [h]
theorem setL_len (n l : Nat) (b : Int) (i : Nat) : (setL n l b i).length ≤ i := by
  unfold setL
  rw [List.length_map]
  exact Nat.le_trans (List.length_filter_le _ _) (by simp)
theorem cut_lo {bs : List Int} {l : Nat} (h : l ≤ bs.length) : cutV (bs.map V.int) none (some (l : Int)) = (bs.take l).map V.int := by
  unfold cutV
  rw [HT.sIx_none, HT.sIx_nat, List.length_map, List.drop_zero, Nat.min_eq_left h, Nat.sub_zero, List.map_take]
theorem cut_hi {bs : List Int} {l : Nat} (h : l + 1 ≤ bs.length) : cutV (bs.map V.int) (some ((l : Int) + 1)) none = (bs.drop (l + 1)).map V.int := by
  unfold cutV
  rw [show ((l : Int) + 1) = ((l + 1 : Nat) : Int) from rfl, HT.sIx_none, HT.sIx_nat, List.length_map, Nat.min_eq_left h, List.map_drop, List.take_of_length_le (by rw [List.length_drop, List.length_map]; omega)]
theorem catA_any {K : PySem.W.Frag} {H : Hp} {a b : Addr} {xs ys : List V} {Q : VK} (ha : SqT K H a xs) (hb : SqT K H b ys) (hz : xs.length + ys.length ≤ sizeLine) (k : ∀ H' q, (∀ b o, H b = some o → H' b = some o) → SqT K H' q (xs ++ ys) → Q (.ref q) H') : rCatA K (.ref a) (.ref b) H Q :=
  ⟨a, b, xs, ys, rfl, rfl, ha, hb, hz, fun e => k H b (fun _ _ z => z) (by rw [e]; exact hb), fun _ e => k H a (fun _ _ z => z) (by rw [e, List.append_nil]; exact ha), fun _ _ p hp => k _ p (new_same hp) (SqT.of upd_same)⟩
theorem slA_new {K : PySem.W.Frag} {H : Hp} {a : Addr} {xs : List V} {lo hi : Option Int} {Q : VK} (ha : SqT K H a xs) (hw : ¬ (HT.sIx xs.length 0 lo = 0 ∧ HT.sIx xs.length xs.length hi = xs.length)) (k : ∀ H' q, (∀ b o, H b = some o → H' b = some o) → SqT K H' q (cutV xs lo hi) → Q (.ref q) H') : rSlA K (.ref a) lo hi H Q :=
  ⟨a, xs, rfl, ha, fun w => absurd w hw, fun _ p hp => k _ p (new_same hp) (SqT.of upd_same)⟩
theorem sqT_same {K : PySem.W.Frag} {H H' : Hp} {a : Addr} {xs : List V} (s : ∀ b o, H b = some o → H' b = some o) (h : SqT K H a xs) : SqT K H' a xs :=
  h.elim (fun h => .inl (h.elim (fun h => .inl (s _ _ h)) fun ⟨o, h⟩ => .inr ⟨o, s _ _ h⟩)) fun h => .inr h
section
variable {C Pt d l c0 : Addr}
/-- in the turn of a leg -/
def GL (C Pt d l c0 : Addr) (t : Tn) (g : Nat) : L2.St → Hp → Prop := fun σ H => GT C Pt d l c0 t σ H ∧ Sl σ 12 (.int (g : Nat)) ∧ g < t.2.1
theorem gl_same {t : Tn} {g : Nat} {σ : L2.St} {H H' : Hp} (h : GL C Pt d l c0 t g σ H) (sm : ∀ b o, H b = some o → H' b = some o) : GL C Pt d l c0 t g σ H' := ⟨TurnAt.same h.1 sm, h.2⟩
theorem gl_put {t : Tn} {g i : Nat} {y : Option V} {σ : L2.St} {H : Hp} (h : GL C Pt d l c0 t g σ H) (hi : i ∉ [1, 3, 4, 5, 6, 7] := by decide) (hi2 : i ≠ 12 := by decide) : GL C Pt d l c0 t g (σ.set i y) H := ⟨TurnAt.put h.1 hi, h.2.1.put hi2, h.2.2⟩
end
section
variable {P : Program} {w : World} {K : PySem.W.Frag} {mg : Str → Option Value} {base : Heap} {f c Pt : Addr} {A : Around} {outer : List Env} {s : Shared} {H0 : Hp} {E : XK} {C CN CB fI : Addr} {fdI : FuncData} {d l c0 : Addr}
def GLdue (C Pt d l c0 : Addr) (t : Tn) (g : Nat) (idx : List Int) : L2.St → Hp → Prop := fun σ H => GL C Pt d l c0 t g σ H ∧ DueIs σ H (idx.map (pickF t.2.2.1))
/-- due = [.. with one bit the other way ..] -/
theorem leg0 (L : LD P w K mg base C CN CB fI fdI) (hr : Room 11 (LX P w K mg base f c A outer s H0 E).A) (t : Tn) (g : Nat) : PS (LX P w K mg base f c A outer s H0 E) (sLeg 0) (tTri (GL C Pt d l c0 t g) (GLdue C Pt d l c0 t g (flipIdx t.2.1 g))) := by
  have B := L.low.B
  obtain ⟨fN, dN, GN, bN, gN, kN⟩ := L.number
  refine tri (ps_setLc (i := 9) (own := [("bits", 19)]) (g := gName 19) (tt := tYes) rfl scL.nd rfl rfl (sw_true rfl rfl rfl (by decide +kernel)) (pi_list (pv 7)) (blkOk_by (N := NL) (sc := defScope sLaw) (by decide +kernel)) (fun _ _ _ _ _ => pg_name (i := 19) scL.nd rfl (Or.inl rfl)) (fun _ _ _ _ _ => pts_nil)
    (fun _ _ _ _ _ => pe_ix (ix_list : IxR _ (rIxL K)) (pv 5) (pe_call GN (hr.mono (by decide)) rfl gN kN bN .nil pass0 (pa_cons
      (pe_op (op_catA : OpR _ _ (rCatA K)) (pe_op (op_catA : OpR _ _ (rCatA K)) (pe_slice (sl_tupA : SlR _ (rSlA K)) (pv 19) po_none (po_some (pv 12))) (pe_tup (pa_cons (pe_op op_sub pe_int (pe_ix (ix_tup : IxR _ (rIxT K)) (pv 19) (pv 12) (fun _ _ => rfl))) pa_nil)))
        (pe_slice (sl_tupA : SlR _ (rSlA K)) (pv 19) (po_some (pe_op op_add (pv 12) pe_int)) po_none)) pa_nil)) (fun _ _ => rfl))) fun D σ H hl ⟨⟨vr, ok, I⟩, h12, hg⟩ go => ?_
  have hl : σ.length = 20 := hl
  obtain ⟨p, n, ns, tab, r, ab, ts⟩ := t
  dsimp only at vr ok I h12 hg ⊢
  have n5 := ok.five
  have p5 : (2 : Nat) ^ n ≤ 2 ^ 5 := Nat.pow_le_pow_right (by decide) n5
  have eD := flip_due n n5 g hg
  have o3 := flip_all n n5 g hg
  simp only [List.all_eq_true, decide_eq_true_eq] at o3
  refine ⟨_, vr.v_ab, ab, rfl, ⟨_, SqL.of I.t_ab⟩, fun q hq => lc_list (K := K) (a := ab) (xs := ts.map V.ref) (fun i H' => (∀ b o, H b = some o → H' b = some o) ∧ H' q = some (.lst (((List.range i).map fun k => pickF ns (flipNum n g k)).map V.int))) ⟨new_same hq, upd_same⟩ ?_ ?_ ?_⟩
  · rintro i H' _ ⟨sm, _⟩
    exact SqL.of (sm _ _ I.t_ab)
  · rintro i x H' hx ⟨sm, hL⟩
    obtain ⟨t, rfl, ht⟩ := at_refs hx
    have hi : i < 2 ^ n := by
      have := (List.getElem?_eq_some_iff.mp ht).1
      rw [I.t_many] at this
      exact this
    have hbits := sm _ _ (I.t_bits i t ht)
    have bl : (bitsF n i).length = n := by unfold bitsF; rw [List.length_map, List.length_range]
    obtain ⟨z0, z1⟩ := idx_in eD o3 hi
    refine ⟨wipe_it, ?_⟩
    unfold tYes
    dsimp only
    rw [if_pos rfl]
    have h19 : Sl ((wipe σ [19]).set 19 (some (V.ref t))) 19 (.ref t) := Sl.it (i := 19) (by omega)
    refine ⟨_, vr.v_tab.in1, _, h19, _, h12.in1, g, rfl, slA_new (SqT.of hbits) ?_ fun H2 q2 s2 hq2 => ?_⟩
    · rw [HT.sIx_nat, List.length_map, bl]
      omega
    rw [cut_lo (by omega)] at hq2
    refine ⟨_, h19, _, h12.in1, t, _, g, _, rfl, rfl, SqT.of (s2 _ _ hbits), at_pick (by omega) (by omega), 1, _, rfl, rfl, (show 1 ≤ sizeLine by rw [sizeLine_eq]; decide), fun u hu => ?_⟩
    have su := new_same (o := .tup [V.int (1 - pickF (bitsF n i) g)]) hu
    refine catA_any (sqT_same su hq2) (SqT.of upd_same) ?_ fun H3 q3 s3 hq3 => ?_
    · rw [List.length_map, List.length_take, sizeLine_eq]
      show min g _ + 1 ≤ _
      omega
    refine ⟨_, h19, _, h12.in1, g, 1, rfl, rfl, _, rfl, ?_⟩
    dsimp only [tNoPart]
    refine slA_new (SqT.of (s3 _ _ (su _ _ (s2 _ _ hbits)))) ?_ fun H4 q4 s4 hq4 => ?_
    · rw [show ((g : Int) + 1) = ((g + 1 : Nat) : Int) from rfl, HT.sIx_nat, List.length_map, bl]
      omega
    rw [cut_hi (by omega)] at hq4
    refine catA_any (sqT_same s4 hq3) hq4 ?_ fun H5 q5 s5 hq5 => ?_
    · rw [List.length_append, List.length_map, List.length_map, List.length_take, List.length_drop, sizeLine_eq]
      show min g _ + 1 + _ ≤ _
      omega
    have s15 : ∀ b o, H' b = some o → H5 b = some o := fun b o e => s5 b o (s4 b o (s3 b o (su b o (s2 b o e))))
    refine ⟨q5, (bitsF n i).take g ++ [1 - pickF (bitsF n i) g] ++ (bitsF n i).drop (g + 1), rfl, .inr (by rw [List.map_append, List.map_append]; exact hq5), ?_⟩
    refine ⟨tab, _, _, _, rfl, rfl, SqL.of (s15 _ _ (sm _ _ I.t_tab)), at_pick z0 (by rw [ok.len]; exact z1), _, s15 _ _ hL, ?_, ?_, ?_⟩
    · rw [List.length_map, List.length_map, List.length_range, sizeLine_eq]
      omega
    · intro b o e
      rw [upd_ne (ne_of_none e hq)]
      exact s15 _ _ (sm _ _ e)
    · rw [upd_same, List.range_succ, List.map_append, List.map_append]
      rfl
  · rintro H' ⟨sm, hL⟩
    rw [List.length_map, I.t_many] at hL
    refine go _ _ ⟨⟨⟨vr.put, ok, I.same sm⟩, h12.put, hg⟩, q, Sl.here (by omega), ?_⟩
    rw [hL]
    dsimp only
    rw [← eD]
    simp only [List.map_map]
    rfl
end
end K
end
section
set_option linter.all false
set_option maxRecDepth 100000
set_option maxHeartbeats 8000000
namespace K
open PySem PySem.Spec PyProof.Rows L2 LamX Ob
theorem flipOk {p : Int} {n g : Nat} {ns : List Int} (ok : RuleOk p n ns) (hg : g < n) : RuleOk p n ((flipIdx n g).map (pickF ns)) := by
  have o3 := flip_all n ok.five g hg
  simp only [List.all_eq_true, decide_eq_true_eq] at o3
  exact pick_ok2 ok ok.five (by unfold flipIdx; rw [List.length_map, List.length_range]) o3
theorem set_in {n g : Nat} {b : Int} (h5 : n ≤ 5) (hg : g < n) (hb : b = 0 ∨ b = 1) : (setIdx n g b).length = 2 ^ (n - 1) ∧ ∀ i ∈ setIdx n g b, 0 ≤ i ∧ i < ((2 ^ n : Nat) : Int) := by
  have hs := set_all n h5 g hg b hb
  unfold setB at hs
  simp only [Bool.and_eq_true, decide_eq_true_eq, List.all_eq_true] at hs
  obtain ⟨⟨s1, s2⟩, s3⟩ := hs
  refine ⟨?_, s3⟩
  unfold setIdx idxF
  rw [sums_len, List.length_map]
  exact congrArg (fun m => 2 ^ m) (by omega)
theorem setOk {p b : Int} {n g : Nat} {ns : List Int} (ok : RuleOk p n ns) (hg : g < n) (hb : b = 0 ∨ b = 1) : RuleOk p (n - 1) ((setIdx n g b).map (pickF ns)) := by
  have h5 := ok.five
  obtain ⟨a, z⟩ := set_in h5 hg hb
  exact pick_ok2 ok (by omega) a z
def GLbit (C Pt d l c0 : Addr) (t : Tn) (g : Nat) (b : Int) : L2.St → Hp → Prop := fun σ H => GL C Pt d l c0 t g σ H ∧ Sl σ 13 (.int b) ∧ (b = 0 ∨ b = 1)
section
variable {P : Program} {w : World} {K : PySem.W.Frag} {mg : Str → Option Value} {base : Heap} {f c Pt : Addr} {A : Around} {outer : List Env} {s : Shared} {H0 : Hp} {E : XK} {C CN CB fI : Addr} {fdI : FuncData} {d l c0 : Addr}
/-- the check of flipped -/
theorem leg1 (L : LD P w K mg base C CN CB fI fdI) (hG : (LX P w K mg base f c A outer s H0 E).A.guards = some []) (hr : Room 11 (LX P w K mg base f c A outer s H0 E).A) (t : Tn) (g : Nat) :
    PS (LX P w K mg base f c A outer s H0 E) (sLeg 1) (tTri (GLdue C Pt d l c0 t g (flipIdx t.2.1 g)) (GL C Pt d l c0 t g)) := by
  have MR := L.low.MR
  obtain ⟨fS, dS, GS, bS, gS, kS, wS⟩ := L.flipped
  obtain ⟨fR, dR, GR, bR, gR, kR⟩ := L.isRule
  obtain ⟨fE, dE, NE, GE, bE⟩ := L.eq
  refine tri (ps_if (pw_or (pt_not (pt_val (pe_callG hG GR (hr.mono (by decide)) (by rfl) gR kR bR (pa_cons (pe_call GS (hr.mono (by decide)) (by rfl) gS kS bS .nil passL (pa_cons (pv 6) (pa_cons (pv 12) pa_nil))) (pa_cons (pv 3) (pa_cons (pv 9) pa_nil))))))
      (pw_or1 (pt_cmpR (op_neR NE GE bE pass0 (hr.mono (by decide))) (pe_kw GS (hr.mono (by decide)) (by rfl) gS kS wS passL (pk_cons (pv 12) (pk_cons (pv 6) pk_nil))) (pe_make MR.M MR.G (hr.mono (by decide)) (by rfl) MR.T.g MR.b .nil pass0 (by exact pa_cons (pv 3) (pa_cons (pv 9) pa_nil))) (nomark _)))).pt
    (pss_one (ps_ret pe_bl)) pss_nil) fun D σ H hl ⟨⟨⟨vr, ok, I⟩, h12, hg⟩, due, v9, hdue⟩ go => ?_
  obtain ⟨p, n, ns, tab, r, ab, ts⟩ := t
  dsimp only at vr ok I h12 hg hdue
  have okS := flipOk ok hg
  refine ⟨_, vr.v_rule, _, h12, r, .int g, some g, p, n, ns, rfl, I.t_rule, ok, .num g, .inl ⟨g, rfl, hg, fun H1 q1 s1 r1 => ?_⟩⟩
  refine ⟨_, vr.v_prime, _, v9, q1, due, p, n, _, rfl, r1, okS, s1 _ _ hdue, fun H2 s2 => ⟨_, rfl, iteF ?_⟩⟩
  have s02 : ∀ b o, H b = some o → H2 b = some o := fun b o z => s2 b o (s1 b o z)
  refine ⟨_, h12, _, vr.v_rule, r, .int g, some g, p, n, ns, rfl, I.t_rule.same s02, ok, .num g, .inl ⟨g, rfl, hg, fun H3 q3 s3 r3 => ?_⟩⟩
  have s03 : ∀ b o, H b = some o → H3 b = some o := fun b o z => s3 b o (s02 b o z)
  refine ⟨_, vr.v_prime, _, v9, ?_⟩
  refine made okS (s03 _ _ hdue) fun H4 q4 s4 r4 => ?_
  refine neR_false (r3.same s4) r4 ⟨_, rfl, iteF ?_⟩
  exact go _ _ ⟨⟨vr, ok, I.same fun b o z => s4 b o (s03 b o z)⟩, h12, hg⟩
/-- bit = .. -/
theorem leg2 (L : LD P w K mg base C CN CB fI fdI) (hr : Room 11 (LX P w K mg base f c A outer s H0 E).A) (t : Tn) (g : Nat) :
    PS (LX P w K mg base f c A outer s H0 E) (sLeg 2) (tTri (GL C Pt d l c0 t g) (fun σ H => ∃ b, GLbit C Pt d l c0 t g b σ H)) := by
  obtain ⟨fT, dT, GT, bT, gT, kT⟩ := L.take
  refine tri (ps_set (i := 13) scL.nd rfl (Or.inr rfl) (pe_call GT (hr.mono (by decide)) rfl gT kT bT .nil pass0 (pa_cons (pv 1) (pa_cons pe_int pa_nil)))) fun D σ H hl ⟨⟨vr, ok, I⟩, h12, hg⟩ k => ?_
  have hl : σ.length = 20 := hl
  refine ⟨_, vr.v_draw, d, l, c0, 2, rfl, I.t_draw, by decide, by decide, fun m H1 m0 m1 D1 k1 => ?_⟩
  exact k _ _ ⟨m, ⟨⟨vr.put, ok, I.kept D1 k1⟩, h12.put, hg⟩, Sl.here (by omega), by omega⟩
/-- due = [.. those with the bit ..] -/
theorem leg3 (L : LD P w K mg base C CN CB fI fdI) (hr : Room 11 (LX P w K mg base f c A outer s H0 E).A) (t : Tn) (g : Nat) (b : Int) :
    PS (LX P w K mg base f c A outer s H0 E) (sLeg 3) (tTri (GLbit C Pt d l c0 t g b) (fun σ H => GLbit C Pt d l c0 t g b σ H ∧ DueIs σ H ((setIdx t.2.1 g b).map (pickF t.2.2.1)))) := by
  have B := L.low.B
  refine tri (ps_setLc (i := 9) (own := [("k", 17)]) (g := gName 17) rfl scL.nd rfl rfl (sw_true rfl rfl rfl (by decide +kernel)) (pi_range1 (by rfl) B.range (pa_cons (pe_op op_shl pe_int (pv 4)) pa_nil)) (blkOk_by (N := NL) (sc := defScope sLaw) (by decide +kernel)) (fun _ _ _ _ _ => pg_name (i := 17) scL.nd rfl (Or.inl rfl))
    (fun _ _ _ _ _ => pts_one (pt_cmpR op_eq (pe_ix (ix_tup : IxR _ (rIxT K)) (pe_ix (ix_list : IxR _ (rIxL K)) (pv 7) (pv 17) (fun _ _ => rfl)) (pv 12) (fun _ _ => rfl)) (pv 13) (nomark _)))
    (fun _ _ _ _ _ => pe_ix (ix_list : IxR _ (rIxL K)) (pv 5) (pv 17) (fun _ _ => rfl))) fun D σ H hl ⟨⟨⟨vr, ok, I⟩, h12, hg⟩, h13, hb⟩ go => ?_
  have hl : σ.length = 20 := hl
  obtain ⟨p, n, ns, tab, r, ab, ts⟩ := t
  dsimp only at vr ok I h12 hg ⊢
  have n5 := ok.five
  have p5 : (2 : Nat) ^ n ≤ 2 ^ 5 := Nat.pow_le_pow_right (by decide) n5
  have e1 : (1 : Int) * 2 ^ ((n : Int)).toNat = ((2 ^ n : Nat) : Int) := by
    rw [Int.one_mul, Int.toNat_natCast]
    norm_cast
  have c2 : ((2 ^ n : Nat) : Int) ≤ 32 := Int.ofNat_le.mpr p5
  have c3 : (0 : Int) ≤ ((2 ^ n : Nat) : Int) := Int.natCast_nonneg _
  refine ⟨_, vr.v_legs, 1, n, rfl, rfl, ⟨by omega, by omega, by decide⟩, _, rfl, by omega, by omega, fun q hq => ?_⟩
  rw [e1, Int.toNat_natCast]
  refine lc_it walk_range (fun i H' => H' = upd H q (.lst (((setL n g b i).map (pickF ns)).map V.int))) rfl (fun _ _ _ _ => trivial) ?_ ?_
  · rintro i y H' H'' hi rfl ⟨rfl, rfl⟩
    have hi : i < 2 ^ n := hi
    have hil : i < ts.length := by rw [I.t_many]; exact hi
    have ht : ts[i]? = some ts[i] := List.getElem?_eq_getElem hil
    have hbits := new_same (o := .lst (((setL n g b i).map (pickF ns)).map V.int)) hq _ _ (I.t_bits i _ ht)
    have bl : (bitsF n i).length = n := by unfold bitsF; rw [List.length_map, List.length_range]
    have hat : atI (ts.map V.ref) ((0 : Int) + (i : Nat)) = some (V.ref ts[i]) := by
      rw [Int.zero_add]
      exact atI_nat (by rw [List.getElem?_map, ht]; rfl)
    refine ⟨wipe_it, ?_⟩
    refine ⟨_, vr.v_ab.in1, _, Sl.it (i := 17) (by omega), ab, _, _, _, rfl, rfl, SqL.of (new_same hq _ _ I.t_ab), hat, _, h12.in1, ts[i], _, g, _, rfl, rfl, SqT.of hbits, at_pick (by omega) (by omega), _, h13.in1, rfl, _, rfl, ?_⟩
    by_cases e : pickF (bitsF n i) g = b
    · rw [decide_eq_true (congrArg V.int e)]
      refine iteT ?_
      refine ⟨_, vr.v_tab.in1, _, Sl.it (i := 17) (by omega), tab, _, _, _, rfl, rfl, SqL.of (new_same hq _ _ I.t_tab), at_pick (by omega) (by rw [ok.len]; omega), _, upd_same, ?_, ?_⟩
      · rw [List.length_map, List.length_map, sizeLine_eq]
        have := setL_len n g b i
        omega
      · rw [upd_upd, setL_yes e, List.map_append, List.map_append]
        rfl
    · rw [decide_eq_false fun z => e (by injection z)]
      refine iteF ?_
      rw [setL_no e]
  · rintro H' rfl
    refine go _ _ ⟨⟨⟨⟨vr.put, ok, I.same (new_same hq)⟩, h12.put, hg⟩, h13.put, hb⟩, q, Sl.here (by omega), ?_⟩
    rw [upd_same, set_due n n5 g hg b hb]
/-- the check of set_leg -/
theorem leg4 (L : LD P w K mg base C CN CB fI fdI) (hG : (LX P w K mg base f c A outer s H0 E).A.guards = some []) (hr : Room 11 (LX P w K mg base f c A outer s H0 E).A) (t : Tn) (g : Nat) (b : Int) :
    PS (LX P w K mg base f c A outer s H0 E) (sLeg 4) (tTri (fun σ H => GLbit C Pt d l c0 t g b σ H ∧ DueIs σ H ((setIdx t.2.1 g b).map (pickF t.2.2.1))) (GL C Pt d l c0 t g)) := by
  have MR := L.low.MR
  obtain ⟨fS, dS, GS, bS, gS, kS, wS⟩ := L.setLeg
  obtain ⟨fR, dR, GR, bR, gR, kR⟩ := L.isRule
  obtain ⟨fE, dE, NE, GE, bE⟩ := L.eq
  refine tri (ps_if (pw_or (pt_not (pt_val (pe_callG hG GR (hr.mono (by decide)) (by rfl) gR kR bR (pa_cons (pe_call GS (hr.mono (by decide)) (by rfl) gS kS bS .nil passL (pa_cons (pv 6) (pa_cons (pv 12) (pa_cons (pv 13) pa_nil)))) (pa_cons (pv 3) (pa_cons (pv 9) pa_nil))))))
      (pw_or1 (pt_cmpR (op_neR NE GE bE pass0 (hr.mono (by decide))) (pe_kw GS (hr.mono (by decide)) (by rfl) gS kS wS passL (pk_cons (pv 13) (pk_cons (pv 12) (pk_cons (pv 6) pk_nil)))) (pe_make MR.M MR.G (hr.mono (by decide)) (by rfl) MR.T.g MR.b .nil pass0 (by exact pa_cons (pv 3) (pa_cons (pv 9) pa_nil))) (nomark _)))).pt
    (pss_one (ps_ret pe_bl)) pss_nil) fun D σ H hl ⟨⟨⟨⟨vr, ok, I⟩, h12, hg⟩, h13, hb⟩, due, v9, hdue⟩ go => ?_
  obtain ⟨p, n, ns, tab, r, ab, ts⟩ := t
  dsimp only at vr ok I h12 hg hdue
  have okS := setOk ok hg hb
  refine ⟨_, vr.v_rule, _, h12, _, h13, r, .int g, .int b, some g, some b, p, n, ns, rfl, I.t_rule, ok, .num g, .num b, .inl ⟨g, rfl, hg, .inl ⟨b, rfl, hb, fun H1 q1 s1 r1 => ?_⟩⟩⟩
  refine ⟨_, vr.v_prime, _, v9, q1, due, p, n - 1, _, rfl, r1, okS, s1 _ _ hdue, fun H2 s2 => ⟨_, rfl, iteF ?_⟩⟩
  have s02 : ∀ b o, H b = some o → H2 b = some o := fun b o z => s2 b o (s1 b o z)
  refine ⟨_, h13, _, h12, _, vr.v_rule, r, .int g, .int b, some g, some b, p, n, ns, rfl, I.t_rule.same s02, ok, .num g, .num b, .inl ⟨g, rfl, hg, .inl ⟨b, rfl, hb, fun H3 q3 s3 r3 => ?_⟩⟩⟩
  have s03 : ∀ b o, H b = some o → H3 b = some o := fun b o z => s3 b o (s02 b o z)
  refine ⟨_, vr.v_prime, _, v9, ?_⟩
  refine made okS (s03 _ _ hdue) fun H4 q4 s4 r4 => ?_
  refine neR_false (r3.same s4) r4 ⟨_, rfl, iteF ?_⟩
  exact go _ _ ⟨⟨vr, ok, I.same fun b o z => s4 b o (s03 b o z)⟩, h12, hg⟩
/-- the refusal of set_leg -/
theorem leg5 (L : LD P w K mg base C CN CB fI fdI) (TB : TabB base mg c Pt) (hr : Room 11 (LX P w K mg base f c A outer s H0 E).A) (t : Tn) (g : Nat) :
    PS (LX P w K mg base f c A outer s H0 E) (sLeg 5) (tTri (GL C Pt d l c0 t g) (GL C Pt d l c0 t g)) := by
  obtain ⟨fS, dS, GS, bS, gS, kS, wS⟩ := L.setLeg
  refine st_bad (z := 2) (G := GL C Pt d l c0 t g) pe_int (fun _ => rfl) (fun _ _ _ _ q => q) (fun σ H H' h sm => gl_same h sm) (fun σ H v h => gl_put h) fun v hv q => ?_
  refine tri_cons (st_caught (wd := "bit") L TB hr (dt := fun E' => tCall (spSetLeg K C CN) [] E' (tCons (tVar 6) (tCons (tVar 12) (tCons (tVar 14) tNil)))) (by decide +kernel) (fun _ _ _ _ _ => rfl) (fun A outer s H E' f c' hr => pe_call GS (hr.mono (by decide)) (by rfl) gS kS bS .nil (passE (takes_of rfl rfl rfl rfl)) (pa_cons (pv 6) (pa_cons (pv 12) (pa_cons (pv 14) pa_nil)))) rfl ?_ ?_ ?_ ?_) (tri_last (st_part L))
  · rintro σ H E' Q ⟨⟨h, h12, hg⟩, h14, hq⟩ ra
    obtain ⟨o, th, ho⟩ := bad_thing (K := K) (H := H) hv
    exact ⟨_, h.vars.v_rule, _, h12, _, h14, _, .int g, v, some g, o, _, _, _, rfl, h.ti.t_rule, h.ok, .num g, th, .inl ⟨g, rfl, hg, .inr ⟨bad_out ho (by decide), ra⟩⟩⟩
  · rintro σ H ⟨h, _⟩
    exact h.1.ti.t_tabs
  · rintro σ H H2 ⟨h, h14, hq⟩ ext tb
    exact ⟨⟨h.1.ext ext tb, h.2⟩, h14, ext _ _ hq fun _ z => by cases z⟩
  · rintro σ H v ⟨h, h14, hq⟩
    exact ⟨gl_put h, h14.put, hq⟩
theorem leg_all (L : LD P w K mg base C CN CB fI fdI) (TB : TabB base mg c Pt) (hG : (LX P w K mg base f c A outer s H0 E).A.guards = some []) (hr : Room 11 (LX P w K mg base f c A outer s H0 E).A) (t : Tn) (g : Nat) :
    PSs (LX P w K mg base f c A outer s H0 E) [sLeg 0, sLeg 1, sLeg 2, sLeg 3, sLeg 4, sLeg 5] (tTri (GL C Pt d l c0 t g) (GL C Pt d l c0 t g)) :=
  tri_cons (leg0 L hr t g) (tri_cons (leg1 L hG hr t g) (tri_cons (leg2 L hr t g) (tri_cons (triE fun b => leg3 L hr t g b) (tri_cons (tri_mono (triE (B := fun _ => GL C Pt d l c0 t g) fun b => leg4 L hG hr t g b) (fun _ _ h => h) (fun _ _ ⟨_, h⟩ => h)) (tri_last (leg5 L TB hr t g))))))
/-- for leg in range(legs_here): .. -/
theorem st13 (L : LD P w K mg base C CN CB fI fdI) (TB : TabB base mg c Pt) (hG : (LX P w K mg base f c A outer s H0 E).A.guards = some []) (hr : Room 11 (LX P w K mg base f c A outer s H0 E).A) :
    PS (LX P w K mg base f c A outer s H0 E) (stB 13) (tTri (St1 C (TL Pt) d l c0) (St1 C (TL Pt) d l c0)) := by
  have B := L.low.B
  refine tri_mono (triE (A := GT C Pt d l c0) (B := GT C Pt d l c0) fun t => ?_) (fun σ H h => gt_st1.mpr h) (fun σ H h => gt_st1.mp h)
  refine tri (ps_for PassesOwn.never rfl (pi_range1 (by rfl) B.range (pa_cons (pv 4) pa_nil)) (pg_name (i := 12) scL.nd rfl (Or.inr rfl)) (triP (n := 20) (ι := Nat) (A := GL C Pt d l c0 t) (B := GL C Pt d l c0 t) rfl fun g => leg_all L TB hG hr t g)) fun D σ H hl h go => ?_
  have n5 := h.ok.five
  refine ⟨_, h.vars.v_legs, t.2.1, rfl, by omega, by omega, for_it walk_range (fun i σ H' => GT C Pt d l c0 t σ H') h (fun _ _ _ _ _ => trivial) ?_ (fun σ H' h => go _ _ h)⟩
  rintro i x σ H' H'' hi h1 ⟨rfl, rfl⟩
  rw [Int.toNat_natCast] at hi
  refine ⟨i, fun hl2 => ⟨TurnAt.put h1, ?_, hi⟩, fun σ' H3 h3 => h3.1⟩
  show Sl (σ.set 12 (some (V.int ((0 : Int) + (i : Nat))))) 12 (V.int (i : Nat))
  rw [Int.zero_add]
  exact Sl.here (by rw [List.length_set] at hl2; omega)
end
end K
end
section
set_option linter.all false
set_option maxRecDepth 100000
set_option maxHeartbeats 8000000
namespace K
open PySem PySem.Spec PyProof.Rows L2 LamX Ob
section
variable {P : Program} {w : World} {K : PySem.W.Frag} {mg : Str → Option Value} {base : Heap} {f c Pt : Addr} {A : Around} {outer : List Env} {s : Shared} {H0 : Hp} {E : XK} {C CN CB fI : Addr} {fdI : FuncData}
theorem turn_all' (L : LD P w K mg base C CN CB fI fdI) (TB : TabB base mg c Pt) (hG : (LX P w K mg base f c A outer s H0 E).A.guards = some []) (hr : Room 11 (LX P w K mg base f c A outer s H0 E).A) (d l c0 : Addr) :
    PSs (LX P w K mg base f c A outer s H0 E) [stB 0, stB 1, stB 2, stB 3, stB 4, stB 5, stB 6, stB 7, stB 8, stB 9, stB 10, stB 11, stB 12, stB 13, stB 14, stB 15, stB 16] (tTri (A0 (TL Pt) d l c0) (St1 C (TL Pt) d l c0)) :=
  have h10 : Room 10 (LX P w K mg base f c A outer s H0 E).A := hr.mono (by decide)
  tri_cons (st0 L h10) (tri_cons (st1 L h10) (tri_cons (st2 L h10) (tri_cons (st3 L h10) (tri_cons st4 (tri_cons (st5 L hG h10) (tri_cons (st6 L h10) (tri_cons (st7 L) (tri_cons (st8 L h10) (tri_cons (st9 L hG h10) (tri_cons (st10 L h10)
    (tri_cons (st11 L h10) (tri_cons (st12 L hG h10) (tri_cons (st13 L TB hG hr) (tri_cons (st14 L TB hr) (tri_cons (st15 L TB hr) (tri_last (st16 L TB hr)))))))))))))))))
def spLaw (K : PySem.W.Frag) (Pt : Addr) : Sp := fun vs H Q _ => ∃ (a : Addr) (ns : List Int), vs = [.ref a] ∧ SqL K H a (ns.map V.int) ∧ ns.length ≤ 63 ∧ Tabs (TL Pt) H ∧ ∀ H', Q (.bl true) H'
theorem law_body (L : LD P w K mg base C CN CB fI fdI) (TB : TabB base mg c Pt) {vs : List V} {Q : VK} (hG : (A.deeper (envOfC "law" (defScope sLaw) s.heap.objs.size f (.ref c))).guards = some []) (hr : Room 11 (A.deeper (envOfC "law" (defScope sLaw) s.heap.objs.size f (.ref c)))) (h : spLaw K Pt vs H0 Q E) :
    ∃ t, PSs (cxOf CX0 P w K mg base NL "law" (defScope sLaw) f (.ref c) A outer s H0 E) (defBody sLaw) t ∧ t { nx := fun _ H' => Q .non H', rt := Q } (start NL vs) H0 := by
  obtain ⟨a, ns, rfl, hS, hlen, tabs, go⟩ := h
  obtain ⟨fB, dB, GB, bB, gB, kB⟩ := L.begun
  have B := L.low.B
  refine ⟨_, PSs.nox (pss_cons (ps_set (i := 1) scL.nd rfl (Or.inl rfl) (pe_call GB (hr.mono (by decide)) rfl gB kB bB .nil pass0 (pa_cons (pv 0) pa_nil)))
    (pss_cons (ps_for PassesOwn.never rfl (pi_range1 (by rfl) B.range (pa_cons (pe_op op_add pe_int (pe_callB (call_min2 rfl) (by rfl) L.mn (by decide +kernel) (pa_cons (pe_callB (r := rLenS K) (by exact call_len_seq) (by rfl) B.len PySem.boot_len (pa_cons (pv 0) pa_nil)) (pa_cons pe_int pa_nil)))) pa_nil)) (pg_name (i := 2) scL.nd rfl (Or.inl rfl))
      (triP (n := 20) (ι := Addr × Addr × Addr) (A := fun i => A0 (TL Pt) i.1 i.2.1 i.2.2) (B := fun i => St1 C (TL Pt) i.1 i.2.1 i.2.2) rfl fun i => by exact turn_all' L TB hG hr i.1 i.2.1 i.2.2))
    (pss_one (ps_ret pe_bl)))), ?_⟩
  refine ⟨_, rfl, a, ns, rfl, hS, hlen, fun d l c0 H1 s1 D1 => ?_⟩
  refine ⟨_, rfl, a, _, rfl, .inl (Same.seq s1 hS), _, _, rfl, 2, _, rfl, rfl, _, rfl, ?_, ?_, ?_⟩
  · rw [List.length_map]
    split <;> omega
  · rw [List.length_map]
    split <;> omega
  · refine for_it walk_range (fun i σ H' => A0 (TL Pt) d l c0 σ H') ⟨rfl, D1, fun p hp => (tabs p hp).ext s1⟩ (fun _ _ _ _ _ => trivial) ?_ (fun σ H' _ => go _)
    rintro i x σ H' H'' hi ⟨h1, h2, h3⟩ ⟨rfl, rfl⟩
    refine ⟨(d, l, c0), fun _ => ⟨h1.put, h2, h3⟩, fun σ' H3 ⟨p, n, ns, tab, r, ab, ts, vr, ok, I⟩ => ⟨vr.v_draw, I.t_draw, I.t_tabs⟩⟩
end
end K
end
section
set_option linter.all false
set_option maxRecDepth 100000
set_option maxHeartbeats 8000000
namespace K
open PySem PySem.Spec PyProof.Rows L2 Ob NdefX LamX
def excB (K : PySem.W.Frag) (C : Addr) : Bool :=
  decide (PySem.W.findIn K (.ref C) "__getattribute__" = some (some (.builtin "BaseException.__getattribute__"))) && (decide (PySem.W.findIn K (.ref C) "__getattr__" = some none) && (decide (PySem.W.subIn K (.ref C) (.type "BaseException") = some true) && (PySem.W.hasDictIn K C &&
    (decide (PySem.W.findIn K (.ref C) "__class__" = some (some (.builtin "object.__class__"))) && (decide (PySem.W.specialIn K (.builtin "object.__class__") "__get__" = some (some (.builtin "getset_descriptor.__get__"))) && (decide (PySem.W.takesIn K (.builtin "object.__class__") = some true) && decide (PySem.W.mroIn K C (.type "object") = some true)))))))
theorem excB_ok {K : PySem.W.Frag} {C : Addr} (h : excB K C = true) : ExcC K C := by
  unfold excB at h
  simp only [Bool.and_eq_true, decide_eq_true_eq] at h
  obtain ⟨h1, h2, h3, h4, h5, h6, h7, h8⟩ := h
  exact ⟨h1, h2, h3, h4, h5, h6, h7, h8⟩
def madeB (K : PySem.W.Frag) (C : Addr) : Bool := match K.lookup C with
  | some ⟨.type "type", _, .cls cd, sl⟩ => (match cd.mro, sl.toList with
    | .ref C' :: bm, [_, _, _, _, some (.builtin n), _] => C' == C && (n == "ValueError.__new__" && (!cd.hasDel && (cd.hasDict && HandSPX.refsVE bm)))
    | _, _ => false)
  | _ => false
theorem madeB_ok {K : PySem.W.Frag} {C : Addr} (h : madeB K C = true) : ∃ nm q N bs bm sn sub ab col dd k0 k1 k2 k3 k5, K.lookup C = some (excClassObj nm q C N bs bm true sn sub ab col dd k0 k1 k2 k3 k5 "ValueError.__new__") ∧ HandSPX.refsVE bm = true := by
  unfold madeB at h
  split at h
  · rename_i dd cd sl ho
    split at h
    · rename_i C' bm k0 k1 k2 k3 n k5 hm hs
      simp only [Bool.and_eq_true, beq_iff_eq, Bool.not_eq_true'] at h
      obtain ⟨rfl, rfl, hdel, hdict, hv⟩ := h
      obtain ⟨nm, bs, mro, ns, qn, hd, sn, sub, ab, col, del⟩ := cd
      dsimp only at hm hdel hdict
      subst hm hdel hdict
      have hsl : sl = #[k0, k1, k2, k3, some (.builtin "ValueError.__new__"), k5] := by
        obtain ⟨l⟩ := sl
        simp only at hs
        rw [hs]
      subst hsl
      exact ⟨nm, qn, ns, bs, bm, sn, sub, ab, col, dd, k0, k1, k2, k3, k5, ho, hv⟩
    · cases h
  · cases h
/-- with one -/
def ownB (K : PySem.W.Frag) (C : Addr) (part : Str) : Bool :=
  madeB K C && (decide (PySem.W.findIn K (.ref C) "__setattr__" = some (some (.builtin "object.__setattr__"))) && (decide (PySem.W.typeIn K (.ref C) = some (.type "type")) && (PySem.W.keepIn K (.ref C) &&
    ((match PySem.W.clsIn K C with | some cd => decide (PySem.W.alongIn K "__init__" ((cd.mro.dropWhile (· != .ref C)).drop 1) = some (some (.builtin "ValueError.__init__"))) | none => false) &&
      (decide (PySem.W.subIn K (.ref C) (.type "ValueError") = some true) && (decide (PySem.W.findIn K (.ref C) part = some none) && (decide (PySem.W.mroIn K C (.ref C) = some true) && (xfB K C && decide (PySem.W.nsIn K cStatics "thirdparty.any" = some none)))))))))
def initB (part pre : Str) (nms : List (Str × NameKind)) (q2 q7 : Pos) : Bool :=
  nscB ["self", part, "__class__"] ["self", part] ["__class__"] (initScope nms) && (decide (nms.lookup ("super" : Str) = some .globalImplicit) && ((q2.endLine == q7.line) && (decide (pre.length ≤ 1000) && (!(part == ("__debug__" : Str)) && !(part == ("__classdict__" : Str))))))
abbrev twoArgs (part : Str) (qa qb : Pos) : Arguments := { posonlyargs := [], args := [{ arg := "self", annotation := none, pos := qa }, { arg := part, annotation := none, pos := qb }], vararg := none, kwonlyargs := [], kw_defaults := [], kwarg := none, defaults := [] }
/-- a class with an __init__ of its own -/
structure Own (P : Program) (K : PySem.W.Frag) (mg : Str → Option Value) (C : Addr) (part : Str) : Prop where
  ex : ∃ (fI : Addr) (fd : FuncData), InitK P K mg C fI part part fd ∧ PySem.W.findIn K (.ref C) "__init__" = some (some (.ref fI)) ∧ PySem.W.typeIn K (.ref fI) = some (.type "function") ∧
    L2.Binds K fd ["self", part] [] ∧ (∀ (s : Shared) (a v : Value), BindsTo s fd ⟨[a], [(part, v)]⟩ [("self", a), (part, v)]) ∧ XfC K C
section
variable {P : Program} {w : World} {K : PySem.W.Frag} {mg : Str → Option Value} {base : Heap} {C fI cda cc : Addr} {part : Str}
theorem K2own {h0 : Heap} (KX : K.In h0) {oc ccl cl0 dV kV doc pm ct : Value} {od cdd cld : Option Addr} {an : Option Addr} {osl ccs csl : Array (Option Value)} {qual pre file : Str} {tf : Tok} {qa qb : Pos} {nms : List (Str × NameKind)} {vs : Array Value} {j : Nat} {q0 q1 q2 q3 q4 q5 q6 q7 q8 q9 q10 q11 q12 : Pos}
    (iC : PySem.W.findIn K (.ref C) "__init__" = some (some (.ref fI)))
    (l : K.lookup fI = some ⟨oc, od, .func (PySem.W.ksFn "__init__" qual (twoArgs part qa qb) (initBody pre part part j q0 q1 q2 q3 q4 q5 q6 q7 q8 q9 q10 q11 q12) (initScope nms) dV kV doc pm an (.ref cda) ct cc), osl⟩)
    (tI : PySem.W.typeIn K (.ref fI) = some (.type "function")) (hc : PySem.W.codeIn K (.ref cda) qual = true)
    (lc : K.lookup cda = some ⟨ccl, cdd, .fields vs, ccs⟩) (lcc : K.lookup cc = some ⟨cl0, cld, .cell (some (.ref C)), csl⟩)
    (hv : vs[2]? = some (.str file tf)) (hf : ((P.main.file : Str) == file) = true) (st : initB part pre nms q2 q7 = true)
    (pb : ∀ u v : Value, bindArgs (PySem.W.ksFn "__init__" qual (twoArgs part qa qb) (initBody pre part part j q0 q1 q2 q3 q4 q5 q6 q7 q8 q9 q10 q11 q12) (initScope nms) dV kV doc pm an (.ref cda) ct cc) ⟨[u, v], []⟩ = pure ((["self", part] : List Str).zip [u, v]))
    (kb : ∀ (s : Shared) (a v : Value), BindsTo s (PySem.W.ksFn "__init__" qual (twoArgs part qa qb) (initBody pre part part j q0 q1 q2 q3 q4 q5 q6 q7 q8 q9 q10 q11 q12) (initScope nms) dV kV doc pm an (.ref cda) ct cc) ⟨[a], [(part, v)]⟩ [("self", a), (part, v)])
    (ob : ownB K C part = true) (sup : mg "super" = none) (top : (P.main.scope.names.lookup ("super" : Str)).isSome = false) : Own P K mg C part := by
  unfold ownB at ob
  simp only [Bool.and_eq_true, decide_eq_true_eq] at ob
  obtain ⟨o1, o2, o3, o4, o5, o6, o7, o8, o9, o10⟩ := ob
  unfold initB at st
  simp only [Bool.and_eq_true, decide_eq_true_eq, Bool.not_eq_true'] at st
  obtain ⟨s1, s2, s3, s4, s5, s6⟩ := st
  have XF := xfB_ok o9
  have hal : ∃ cd, PySem.W.clsIn K C = some cd ∧ PySem.W.alongIn K "__init__" ((cd.mro.dropWhile (· != .ref C)).drop 1) = some (some (.builtin "ValueError.__init__")) := by
    split at o5
    · rename_i cd hcd
      exact ⟨cd, hcd, of_decide_eq_true o5⟩
    · cases o5
  exact ⟨fI, _, ⟨⟨oc, ccl, cl0, dV, kV, doc, pm, ct, od, cdd, cld, an, osl, ccs, csl, cc, cda, qual, pre, file, tf, twoArgs part qa qb, nms, vs, j, q0, q1, q2, q3, q4, q5, q6, q7, q8, q9, q10, q11, q12, rfl, l, hc, lc, hv, hf, lcc, nscope_by s1, s2, s3, ⟨_, rfl, rfl⟩, s4⟩,
    sup, top, ⟨madeB_ok o1, o2, XF.exC, o3, o4⟩, hal, o6, o10, o7, o8, s5, s6⟩, iC, tI, .all (fun us hu => match us, hu with | [u, v], _ => pb u v), kb, XF⟩
end
theorem K2def {K : PySem.W.Frag} {h0 : Heap} (KX : K.In h0) {x : Str} {st : Stmt} {f : Addr} {ps : List Str} {oc : Value} {od an : Option Addr} {osl : Array (Option Value)} {kV doc pm cdv ct : Value}
    (l : K.lookup f = some ⟨oc, od, .func (PySem.W.fnOf x x (defArgs st) (defBody st) (defScope st) .none kV doc pm an cdv ct), osl⟩) (c : PySem.W.codeIn K cdv x = true) (k : PySem.W.keepIn K (.ref f) = true)
    (b : ∀ us : List Value, us.length = ps.length → bindArgs (PySem.W.fnOf x x (defArgs st) (defBody st) (defScope st) .none kV doc pm an cdv ct) ⟨us, []⟩ = pure (ps.zip us)) : ∃ fd, Fun K x x st f fd ∧ L2.Binds K fd ps [] :=
  ⟨_, fun_mk l c k, .all b⟩
theorem K2kw {K : PySem.W.Frag} {h0 : Heap} (KX : K.In h0) {x : Str} {st : Stmt} {f : Addr} {ps : List Str} {oc : Value} {od an : Option Addr} {osl : Array (Option Value)} {kV doc pm cdv ct : Value}
    (l : K.lookup f = some ⟨oc, od, .func (PySem.W.fnOf x x (defArgs st) (defBody st) (defScope st) .none kV doc pm an cdv ct), osl⟩) (c : PySem.W.codeIn K cdv x = true) (k : PySem.W.keepIn K (.ref f) = true)
    (b : ∀ us : List Value, us.length = ps.length → bindArgs (PySem.W.fnOf x x (defArgs st) (defBody st) (defScope st) .none kV doc pm an cdv ct) ⟨us, []⟩ = pure (ps.zip us))
    (b2 : ∀ us : List Value, us.length = ps.length → bindArgs (PySem.W.fnOf x x (defArgs st) (defBody st) (defScope st) .none kV doc pm an cdv ct) ⟨[], ps.reverse.zip us⟩ = pure (ps.zip us.reverse)) : ∃ fd, Fun K x x st f fd ∧ L2.Binds K fd ps [] ∧ KwBinds fd ps :=
  ⟨_, fun_mk l c k, .all b, fun s us h => .of_eq (b2 us h)⟩
/-- a method -/
theorem K2met {K : PySem.W.Frag} {h0 : Heap} (KX : K.In h0) {x q : Str} {st : Stmt} {f : Addr} {ps : List Str} {oc : Value} {od an : Option Addr} {osl : Array (Option Value)} {kV doc pm cdv ct : Value}
    (l : K.lookup f = some ⟨oc, od, .func (PySem.W.fnOf x q (defArgs st) (defBody st) (defScope st) .none kV doc pm an cdv ct), osl⟩) (c : PySem.W.codeIn K cdv q = true) (k : PySem.W.keepIn K (.ref f) = true)
    (b : ∀ us : List Value, us.length = ps.length → bindArgs (PySem.W.fnOf x q (defArgs st) (defBody st) (defScope st) .none kV doc pm an cdv ct) ⟨us, []⟩ = pure (ps.zip us)) : ∃ fd, Fun K x q st f fd ∧ L2.Binds K fd ps [] :=
  ⟨_, fun_mk l c k, .all b⟩
/-- the law's own def, its code object at c -/
def LawAt (K : PySem.W.Frag) (f c : Addr) : Prop := ∃ (oc kV doc pm ct : Value) (od an : Option Addr) (osl : Array (Option Value)),
  K.lookup f = some ⟨oc, od, .func (PySem.W.fnOf "law" "law" (defArgs sLaw) (defBody sLaw) (defScope sLaw) .none kV doc pm an (.ref c) ct), osl⟩ ∧ PySem.W.codeIn K (.ref c) "law" = true ∧
    ∀ u : Value, bindArgs (PySem.W.fnOf "law" "law" (defArgs sLaw) (defBody sLaw) (defScope sLaw) .none kV doc pm an (.ref c) ct) ⟨[u], []⟩ = pure [((PySem.Str.ofString "script" : Str), u)]
theorem K2law {K : PySem.W.Frag} {h0 : Heap} (KX : K.In h0) {f c : Addr} {oc : Value} {od an : Option Addr} {osl : Array (Option Value)} {kV doc pm ct : Value}
    (l : K.lookup f = some ⟨oc, od, .func (PySem.W.fnOf "law" "law" (defArgs sLaw) (defBody sLaw) (defScope sLaw) .none kV doc pm an (.ref c) ct), osl⟩) (hc : PySem.W.codeIn K (.ref c) "law" = true)
    (b : ∀ u : Value, bindArgs (PySem.W.fnOf "law" "law" (defArgs sLaw) (defBody sLaw) (defScope sLaw) .none kV doc pm an (.ref c) ct) ⟨[u], []⟩ = pure [((PySem.Str.ofString "script" : Str), u)]) : LawAt K f c := ⟨oc, kV, doc, pm, ct, od, an, osl, l, hc, b⟩
theorem tab_in {K : PySem.W.Frag} {x : Str} {f c P : Addr} {oc e' : Value} {od dd : Option Addr} {fd : FuncData} {vs : Array Value} {osl sl : Array (Option Value)} (n : PySem.W.nsIn K mainGlobals x = some (some (.ref f))) (l : K.lookup f = some ⟨oc, od, .func fd, osl⟩) (e : fd.code = .ref c) (lc : K.lookup c = some ⟨e', dd, .fields vs, sl⟩) (hv : vs[11]? = some (.ref P)) :
    PySem.W.tabIn K x = some (c, P) := by
  unfold PySem.W.tabIn
  rw [n]
  dsimp only
  rw [l]
  dsimp only
  rw [e]
  dsimp only
  rw [lc]
  dsimp only
  rw [hv]
/-! ### the class Rule -/
def ruleB (K : PySem.W.Frag) (C : Addr) : Bool :=
  PySem.W.plainGet K C Str.empty && (PySem.W.hasDictIn K C && (PySem.W.plainOver K C && (decide (PySem.W.findIn K (.ref C) "__setattr__" = some (some (.builtin "object.__setattr__"))) && (decide (PySem.W.findIn K (.ref C) "prime" = some none) && (decide (PySem.W.findIn K (.ref C) "legs" = some none) &&
    (decide (PySem.W.findIn K (.ref C) "table" = some none) && (decide (PySem.W.findIn K (.ref C) "__class__" = some (some (.builtin "object.__class__"))) && (decide (PySem.W.specialIn K (.builtin "object.__class__") "__get__" = some (some (.builtin "getset_descriptor.__get__"))) &&
      (decide (PySem.W.takesIn K (.builtin "object.__class__") = some true) && (decide (PySem.W.mroIn K C (.type "object") = some true) && (PySem.W.makesIn K C && PySem.W.keepIn K (.ref C))))))))))))
theorem ruleB_ok {K : PySem.W.Frag} {mg : Str → Option Value} {C fI : Addr} (h : ruleB K C = true) (g : mg "Rule" = some (.ref C)) (i : PySem.W.findIn K (.ref C) "__init__" = some (some (.ref fI))) (n : PySem.W.isFn K (.ref fI) = true) : RuleC K mg C ∧ Mk K C fI := by
  unfold ruleB at h
  simp only [Bool.and_eq_true, decide_eq_true_eq] at h
  obtain ⟨h1, h2, h3, h4, h5, h6, h7, h8, h9, h10, h11, h12, h13⟩ := h
  exact ⟨⟨⟨h1, h2, h3, h4⟩, h5, h6, h7, g, h8, h9, h10, h11⟩, ⟨h12, i, n, h13⟩⟩
def neB (K : PySem.W.Frag) (C f : Addr) : Bool := match K.lookup C with
  | some ⟨.type "type", _, .cls cd, sl⟩ => (match cd.mro, sl.toList with
    | [.ref C', .type "object"], [_, _, _, _, some (.builtin _), _] => C' == C && (!cd.hasDel && (PySem.W.nsOkIn K cd.ns && (decide (PySem.W.nsIn K cd.ns "__eq__" = some (some (.ref f))) && (decide (PySem.W.nsIn K cd.ns "__ne__" = some none) && decide ((K.lookup f).map (fun o => o.cls) = some (.type "function"))))))
    | _, _ => false)
  | _ => false
theorem neB_ok {K : PySem.W.Frag} {C f : Addr} (h : neB K C f = true) : NeC K C f := by
  unfold neB at h
  split at h
  · rename_i dd cd sl ho
    split at h
    · rename_i C' k0 k1 k2 k3 n k5 hm hs
      simp only [Bool.and_eq_true, beq_iff_eq, Bool.not_eq_true', decide_eq_true_eq] at h
      obtain ⟨rfl, hdel, h1, h2, h3, h4⟩ := h
      obtain ⟨nm, bs, mro, ns, qn, hd, sn, sub, ab, col, del⟩ := cd
      dsimp only at hm hdel h1 h2 h3
      subst hm hdel
      have hsl : sl = #[k0, k1, k2, k3, some (.builtin n), k5] := by
        obtain ⟨l⟩ := sl
        simp only at hs
        rw [hs]
      subst hsl
      obtain ⟨o, e1, e2⟩ := Option.map_eq_some_iff.mp h4
      exact ⟨⟨nm, qn, ns, bs, hd, sn, sub, ab, col, dd, k0, k1, k2, k3, k5, n, ho, h1, h2, h3⟩, ⟨o, e1, e2⟩⟩
    · cases h
  · cases h
theorem K2end {P : Program} {w : World} {K : PySem.W.Frag} {s₁ : Shared} {mg mb : Str → Option Value} {a c Pt C CN CB fI fE : Addr} {vs : List Value} {ns : List Int} {tM : Tok} {fa fl f0 f1 f2 f3 f4 f5 f6 f7 f8 f9 f10 f11 f12 f13 f14 f15 f16 f17 f18 f19 f20 f21 f22 f23 f24 f25 f26 f27 f28 : Addr} (KX : K.In s₁.heap) (G : s₁.heap.Ns mainGlobals mg) (hb : s₁.heap.Ns builtinsNs mb) (hbb : ∀ x : Str, x ≠ "__name__" → mb x = bootBuiltins x) (hlim : s₁.heap.NoLimit) (hg : s₁.gens = #[])
    (ha : s₁.heap.get? a = some { cls := .type "list", data := .seq vs.toArray }) (hi : IntsAre vs ns) (hl : ns.length ≤ 63) (hfa : mg "law" = some (.ref fa))
    (hbm : ∃ (bm : Addr) (ob : Obj), mg "__builtins__" = some (.ref bm) ∧ bm ≠ builtinsNs ∧ s₁.heap.get? bm = some ob ∧ ob.cls = .type "module" ∧ ob.dict = some builtinsNs ∧ ob.data = .plain)
    (nl : PySem.W.nsIn K mainGlobals "law" = some (some (.ref fl))) (el : LawAt K fl c) (tab : PySem.W.CodeHd s₁.heap c Pt ∧ s₁.heap.get? Pt = some (PySem.W.tabObj #[])) (nT : K.lookup Pt = none)
    (nR : PySem.W.nsIn K mainGlobals "Rule" = some (some (.ref C))) (nB : PySem.W.nsIn K mainGlobals "BasisError" = some (some (.ref CB))) (nN : PySem.W.nsIn K mainGlobals "BadNumber" = some (some (.ref CN))) (nM : PySem.W.nsIn K mainGlobals "MOST_LEGS" = some (some (.int 8 tM)))
    (rB : ruleB K C = true) (rI : PySem.W.findIn K (.ref C) "__init__" = some (some (.ref fI))) (rF : PySem.W.isFn K (.ref fI) = true) (nQ : PySem.W.findIn K (.ref C) "__eq__" = some (some (.ref fE))) (nE : neB K C fE = true)
    (eI : ∃ fd, Fun K "__init__" "Rule.__init__" sRule_init fI fd ∧ L2.Binds K fd ["self", "prime", "table"] []) (eE : ∃ fd, Fun K "__eq__" "Rule.__eq__" sRule_eq fE fd ∧ L2.Binds K fd ["self", "other"] [])
    (exm : PySem.W.exmOne K (.ref CN) (.ref CB) = some true) (xb : excB K CN = true) (xno : PySem.W.findIn K (.ref CN) "part" = some none) (ow : Own P K mg CN "part")
    (n0 : PySem.W.nsIn K mainGlobals "is_number" = some (some (.ref f0)))
    (n1 : PySem.W.nsIn K mainGlobals "is_from" = some (some (.ref f1)))
    (n2 : PySem.W.nsIn K mainGlobals "is_list" = some (some (.ref f2)))
    (n3 : PySem.W.nsIn K mainGlobals "is_prime" = some (some (.ref f3)))
    (n4 : PySem.W.nsIn K mainGlobals "is_field_number" = some (some (.ref f4)))
    (n5 : PySem.W.nsIn K mainGlobals "are_field_numbers" = some (some (.ref f5)))
    (n6 : PySem.W.nsIn K mainGlobals "is_table" = some (some (.ref f6)))
    (n7 : PySem.W.nsIn K mainGlobals "is_bit" = some (some (.ref f7)))
    (n8 : PySem.W.nsIn K mainGlobals "leg_mask" = some (some (.ref f8)))
    (n9 : PySem.W.nsIn K mainGlobals "sums_of" = some (some (.ref f9)))
    (n10 : PySem.W.nsIn K mainGlobals "leg_sums" = some (some (.ref f10)))
    (n11 : PySem.W.nsIn K mainGlobals "want_rule" = some (some (.ref f11)))
    (n12 : PySem.W.nsIn K mainGlobals "want_leg" = some (some (.ref f12)))
    (n13 : PySem.W.nsIn K mainGlobals "regrouped" = some (some (.ref f13)))
    (n14 : PySem.W.nsIn K mainGlobals "scaled" = some (some (.ref f14)))
    (n15 : PySem.W.nsIn K mainGlobals "turned" = some (some (.ref f15)))
    (n16 : PySem.W.nsIn K mainGlobals "mirrored" = some (some (.ref f16)))
    (n17 : PySem.W.nsIn K mainGlobals "flipped" = some (some (.ref f17)))
    (n18 : PySem.W.nsIn K mainGlobals "set_leg" = some (some (.ref f18)))
    (n19 : PySem.W.nsIn K mainGlobals "_law_begun" = some (some (.ref f19)))
    (n20 : PySem.W.nsIn K mainGlobals "_law_mixed" = some (some (.ref f20)))
    (n21 : PySem.W.nsIn K mainGlobals "_law_take" = some (some (.ref f21)))
    (n22 : PySem.W.nsIn K mainGlobals "_law_pick" = some (some (.ref f22)))
    (n23 : PySem.W.nsIn K mainGlobals "_law_caught" = some (some (.ref f23)))
    (n24 : PySem.W.nsIn K mainGlobals "_law_prime" = some (some (.ref f24)))
    (n25 : PySem.W.nsIn K mainGlobals "_law_numbers" = some (some (.ref f25)))
    (n26 : PySem.W.nsIn K mainGlobals "_law_bits" = some (some (.ref f26)))
    (n27 : PySem.W.nsIn K mainGlobals "_law_number" = some (some (.ref f27)))
    (n28 : PySem.W.nsIn K mainGlobals "_law_is_rule" = some (some (.ref f28)))
    (e0 : ∃ fd, Fun K "is_number" "is_number" sIsNumber f0 fd ∧ L2.Binds K fd ["thing"] [])
    (e1 : ∃ fd, Fun K "is_from" "is_from" sIsFrom f1 fd ∧ L2.Binds K fd ["thing", "least", "most"] [])
    (e2 : ∃ fd, Fun K "is_list" "is_list" sIsList f2 fd ∧ L2.Binds K fd ["thing"] [])
    (e3 : ∃ fd, Fun K "is_prime" "is_prime" sIsPrime f3 fd ∧ L2.Binds K fd ["thing"] [])
    (e4 : ∃ fd, Fun K "is_field_number" "is_field_number" sIsFieldNumber f4 fd ∧ L2.Binds K fd ["prime", "thing"] [])
    (e5 : ∃ fd, Fun K "are_field_numbers" "are_field_numbers" sAreFieldNumbers f5 fd ∧ L2.Binds K fd ["prime", "things"] [])
    (e6 : ∃ fd, Fun K "is_table" "is_table" sIsTable f6 fd ∧ L2.Binds K fd ["prime", "things"] [])
    (e7 : ∃ fd, Fun K "is_bit" "is_bit" sIsBit f7 fd ∧ L2.Binds K fd ["thing"] [])
    (e8 : ∃ fd, Fun K "leg_mask" "leg_mask" sLegMask f8 fd ∧ L2.Binds K fd ["many", "leg"] [])
    (e9 : ∃ fd, Fun K "sums_of" "sums_of" sSumsOf f9 fd ∧ L2.Binds K fd ["masks", "base"] [])
    (e10 : ∃ fd, Fun K "leg_sums" "leg_sums" sLegSums f10 fd ∧ L2.Binds K fd ["many", "legs", "base"] [])
    (e11 : ∃ fd, Fun K "want_rule" "want_rule" sWantRule f11 fd ∧ L2.Binds K fd ["rule"] [])
    (e12 : ∃ fd, Fun K "want_leg" "want_leg" sWantLeg f12 fd ∧ L2.Binds K fd ["rule", "leg", "part"] [])
    (e13 : ∃ fd, Fun K "regrouped" "regrouped" sRegrouped f13 fd ∧ L2.Binds K fd ["rule", "order"] [])
    (e14 : ∃ fd, Fun K "scaled" "scaled" sScaled f14 fd ∧ L2.Binds K fd ["rule", "number"] [] ∧ KwBinds fd ["rule", "number"])
    (e15 : ∃ fd, Fun K "turned" "turned" sTurned f15 fd ∧ L2.Binds K fd ["rule", "many"] [] ∧ KwBinds fd ["rule", "many"])
    (e16 : ∃ fd, Fun K "mirrored" "mirrored" sMirrored f16 fd ∧ L2.Binds K fd ["rule"] [] ∧ KwBinds fd ["rule"])
    (e17 : ∃ fd, Fun K "flipped" "flipped" sFlipped f17 fd ∧ L2.Binds K fd ["rule", "leg"] [] ∧ KwBinds fd ["rule", "leg"])
    (e18 : ∃ fd, Fun K "set_leg" "set_leg" sSetLeg f18 fd ∧ L2.Binds K fd ["rule", "leg", "bit"] [] ∧ KwBinds fd ["rule", "leg", "bit"])
    (e19 : ∃ fd, Fun K "_law_begun" "_law_begun" sLBegun f19 fd ∧ L2.Binds K fd ["script"] [])
    (e20 : ∃ fd, Fun K "_law_mixed" "_law_mixed" sLMixed f20 fd ∧ L2.Binds K fd ["draw"] [])
    (e21 : ∃ fd, Fun K "_law_take" "_law_take" sLTake f21 fd ∧ L2.Binds K fd ["draw", "amount"] [])
    (e22 : ∃ fd, Fun K "_law_pick" "_law_pick" sLPick f22 fd ∧ L2.Binds K fd ["draw", "some"] [])
    (e23 : ∃ fd, Fun K "_law_caught" "_law_caught" sLCaught f23 fd ∧ L2.Binds K fd ["work"] [])
    (e24 : ∃ fd, Fun K "_law_prime" "_law_prime" sLPrime f24 fd ∧ L2.Binds K fd ["draw"] [])
    (e25 : ∃ fd, Fun K "_law_numbers" "_law_numbers" sLNumbers f25 fd ∧ L2.Binds K fd ["draw", "prime_here", "many"] [])
    (e26 : ∃ fd, Fun K "_law_bits" "_law_bits" sLBits f26 fd ∧ L2.Binds K fd ["number", "many"] [])
    (e27 : ∃ fd, Fun K "_law_number" "_law_number" sLNumber f27 fd ∧ L2.Binds K fd ["bits"] [])
    (e28 : ∃ fd, Fun K "_law_is_rule" "_law_is_rule" sLIsRule f28 fd ∧ L2.Binds K fd ["thing", "prime_here", "table_here"] [])
    (z_abs : PySem.W.nsIn K mainGlobals "abs" = some none)
    (z_int : PySem.W.nsIn K mainGlobals "int" = some none)
    (z_len : PySem.W.nsIn K mainGlobals "len" = some none)
    (z_isinstance : PySem.W.nsIn K mainGlobals "isinstance" = some none)
    (z_bool : PySem.W.nsIn K mainGlobals "bool" = some none)
    (z_list : PySem.W.nsIn K mainGlobals "list" = some none)
    (z_tuple : PySem.W.nsIn K mainGlobals "tuple" = some none)
    (z_all : PySem.W.nsIn K mainGlobals "all" = some none)
    (z_range : PySem.W.nsIn K mainGlobals "range" = some none)
    (z_repr : PySem.W.nsIn K mainGlobals "repr" = some none)
    (z_min : PySem.W.nsIn K mainGlobals "min" = some none)
    (z_max : PySem.W.nsIn K mainGlobals "max" = some none)
    : codeAny (model P w) callerA (.call (.ref fa) ⟨[.ref a], []⟩) (fun r s' => r = .ok (.ret (.bool true)) ∧ OldK s₁.heap s'.heap ∧ s'.os = s₁.os ∧ AllBare s'.gens) s₁ := by
  have e := hfa.symm.trans (PySem.W.mg_of KX G nl)
  cases e
  have zz : ∀ {x : Str}, PySem.W.nsIn K mainGlobals x = some none → mg x = none := fun e => PySem.W.mg_none_of KX G e
  have gg : ∀ {x : Str} {v : Value}, PySem.W.nsIn K mainGlobals x = some (some v) → mg x = some v := fun e => PySem.W.mg_of KX G e
  have B : Bts mg := ⟨zz z_isinstance, zz z_int, zz z_bool, zz z_list, zz z_tuple, zz z_all, zz z_len, zz z_range⟩
  obtain ⟨T, M⟩ := ruleB_ok rB (gg nR) rI rF
  obtain ⟨fX, dX, IK, iX, tX, bX, _, XF⟩ := ow.ex
  have TN : Err P K mg "BadNumber" CN "part" := ⟨⟨fX, dX, IK, iX, tX, bX⟩, gg nN⟩
  obtain ⟨dI, FI, bI⟩ := eI
  obtain ⟨dE, FE, bE⟩ := eE
  obtain ⟨d0, F0, b0⟩ := e0
  obtain ⟨d1, F1, b1⟩ := e1
  obtain ⟨d2, F2, b2⟩ := e2
  obtain ⟨d3, F3, b3⟩ := e3
  obtain ⟨d4, F4, b4⟩ := e4
  obtain ⟨d5, F5, b5⟩ := e5
  obtain ⟨d6, F6, b6⟩ := e6
  obtain ⟨d7, F7, b7⟩ := e7
  obtain ⟨d8, F8, b8⟩ := e8
  obtain ⟨d9, F9, b9⟩ := e9
  obtain ⟨d10, F10, b10⟩ := e10
  obtain ⟨d11, F11, b11⟩ := e11
  obtain ⟨d12, F12, b12⟩ := e12
  obtain ⟨d13, F13, b13⟩ := e13
  obtain ⟨d14, F14, b14, w14⟩ := e14
  obtain ⟨d15, F15, b15, w15⟩ := e15
  obtain ⟨d16, F16, b16, w16⟩ := e16
  obtain ⟨d17, F17, b17, w17⟩ := e17
  obtain ⟨d18, F18, b18, w18⟩ := e18
  obtain ⟨d19, F19, b19⟩ := e19
  obtain ⟨d20, F20, b20⟩ := e20
  obtain ⟨d21, F21, b21⟩ := e21
  obtain ⟨d22, F22, b22⟩ := e22
  obtain ⟨d23, F23, b23⟩ := e23
  obtain ⟨d24, F24, b24⟩ := e24
  obtain ⟨d25, F25, b25⟩ := e25
  obtain ⟨d26, F26, b26⟩ := e26
  obtain ⟨d27, F27, b27⟩ := e27
  obtain ⟨d28, F28, b28⟩ := e28
  obtain ⟨oc, kV, doc, pm, ct, od, an, osl, ll, lc, lb⟩ := el
  refine callGT KX G hb hbb hlim hg tab.2 nT tab.1 hbm ha hi (Nat.le_trans hl (by rw [sizeLine_eq]; decide)) (k := 12) ⟨rfl, by decide, by decide⟩
    (fun base _ _ TB => fnG_at (sp := spLaw K Pt) ll lc scL (fun vs H Q E h => by obtain ⟨a, ns, rfl, _⟩ := h; rfl) fun A outer s H vs Q E hG hr h => law_body (C := C) (CN := CN) (CB := CB) (fI := fI) (fdI := dI) ?_ TB hG hr h)
    (fun s u => .of_eq (lb u)) (fun H hT hS => ⟨a, ns, rfl, hS, hl, fun p hp => ?_, fun _ => rfl⟩)
  rotate_left
  · rw [List.mem_singleton.mp hp]
    exact ⟨#[], hT, trivial, fun pos cv hc => by cases hc⟩
  have GR : FnOk P w K mg base CX0 2 _ _ ["thing", "least", "most"] (spIsFrom K) := ok_is_from F1 F0 b0 (gg n0) B
  have GP : FnOk P w K mg base CX0 3 _ _ ["thing"] (spIsPrime K) := ok_is_prime F3 F1 GR b1 (gg n1) B
  have GF : FnOk P w K mg base CX0 3 _ _ ["prime", "thing"] (spIsField K) := ok_is_field F4 F1 GR b1 (gg n1)
  have GB : FnOk P w K mg base CX0 3 _ _ ["thing"] (spIsBit K) := ok_is_bit F7 F1 GR b1 (gg n1)
  have GA : FnOk P w K mg base CX0 4 _ _ ["prime", "things"] (spAreField K) := ok_are_field F5 F2 b2 (gg n2) F4 GF b4 (gg n4) B
  have GT : FnOk P w K mg base CX0 5 _ _ ["prime", "things"] (spIsTable K) := ok_is_table F6 F2 b2 (gg n2) F5 GA b5 (gg n5) (gg nM) B
  have GI : FnOk P w K mg base CX0 6 fI dI ["self", "prime", "table"] (spRInit K C) := ok_rinit FI T F3 GP b3 (gg n3) F6 GT b6 (gg n6) B
  have MR : MkRule P w K mg base C fI dI := ⟨T, M, GI, bI⟩
  have GS : FnOk P w K mg base CX0 2 _ _ ["many", "legs", "base"] (spLegSums K) := ok_leg_sums F10 F8 b8 (gg n8) F9 b9 (gg n9)
  have GG : FnOk P w K mg base CX0 8 _ _ ["rule", "order"] (spRegrouped K C) := ok_regrouped F13 MR F10 GS b10 (gg n10)
  have LW : Low P w K mg base C CN fI dI := ⟨MR, TN, B, ⟨_, _, ok_want_rule F11 T B, b11, (gg n11), F11.kp⟩, ⟨_, _, ok_want_leg F12 T TN F1 GR b1 (gg n1), b12, (gg n12), F12.kp⟩,
      ⟨_, _, GR, b1, (gg n1), F1.kp⟩, ⟨_, _, GB, b7, (gg n7), F7.kp⟩, ⟨_, _, ok_leg_mask F8, b8, (gg n8), F8.kp⟩, ⟨_, _, GS, b10, (gg n10), F10.kp⟩, ⟨_, gg nM⟩⟩
  have Gk : FnOk P w K mg base CX0 2 _ _ ["draw", "amount"] spTake := ok_take F21 F20 b20 (gg n20) (zz z_int)
  have Gp : FnOk P w K mg base CX0 3 _ _ ["draw", "some"] spPick := ok_pick F22 F21 Gk b21 (gg n21) (zz z_len)
  exact { low := LW, begun := ⟨_, _, ok_begun F19 (zz z_abs), b19, (gg n19), F19.kp⟩, pick := ⟨_, _, Gp, b22, (gg n22), F22.kp⟩, take := ⟨_, _, Gk, b21, (gg n21), F21.kp⟩,
          prime := ⟨_, _, ok_prime F24 Gp b22 (gg n22) F22.kp, b24, (gg n24), F24.kp⟩, numbers := ⟨_, _, ok_numbers F25 Gp b22 (gg n22) F22.kp Gk b21 (gg n21) F21.kp B, b25, (gg n25), F25.kp⟩, bits := ⟨_, _, ok_bits F26 B, b26, (gg n26), F26.kp⟩, number := ⟨_, _, ok_number F27, b27, (gg n27), F27.kp⟩, isRule := ⟨_, _, ok_is_rule F28 T B (zz z_repr), b28, (gg n28), F28.kp⟩,
          scaled := ⟨_, _, ok_scaled F14 MR TN F11 b11 (gg n11) F4 GF b4 (gg n4) B, b14, (gg n14), F14.kp, w14⟩, turned := ⟨_, _, ok_turned F15 LW GG b13 (gg n13) F13.kp, b15, (gg n15), F15.kp, w15⟩, mirrored := ⟨_, _, ok_mirrored F16 LW GG b13 (gg n13) F13.kp, b16, (gg n16), F16.kp, w16⟩, flipped := ⟨_, _, ok_flipped F17 LW, b17, (gg n17), F17.kp, w17⟩, setLeg := ⟨_, _, ok_set_leg F18 LW, b18, (gg n18), F18.kp, w18⟩,
          eq := ⟨_, _, neB_ok nE, ok_req FE T B, bE⟩, mn := zz z_min, mx := zz z_max, caught := ⟨_, _, F23, b23, (gg n23)⟩, base_ := gg nB, exm := exm, xf := XF, xno := xno, xc := excB_ok xb }
end K
end
section
set_option linter.all false
open PySem PySem.W PyProof.Rows L2 K Ob
set_option maxRecDepth 100000
set_option maxHeartbeats 0
theorem PySem.Challenge.cw_onebasis_k02_whole_rules_turned_and_set_holds : PySem.Challenge.rw_onebasis_k02_whole_rules_turned_and_set.Holds := by
  w_on; o_law; k_headL; (case hw => w_witness2)
  k_fill
  refine Att.attach_call (n := 63) rfl rfl fun w s₀ s₁ mg mb fa o pm cd doc a vs ns G Y ho hd hcd hmg hobj hints hlen hg => ?_
  have KX := PySem.W.kIn_of Y
  have zs : mg "super" = none := PySem.W.mg_none_of KX G.T.g (by k_is)
  refine' K2end KX G.T.g G.T.b G.T.builtins G.T.nolimit hg hobj hints hlen hmg G.T.bmain ?nl ?el ?tab ?nT ?nR ?nB ?nN ?nM ?rB ?rI ?rF ?nQ ?nE ?eI ?eE ?exm ?xb ?xno ?ow ?n0 ?n1 ?n2 ?n3 ?n4 ?n5 ?n6 ?n7 ?n8 ?n9 ?n10 ?n11 ?n12 ?n13 ?n14 ?n15 ?n16 ?n17 ?n18 ?n19 ?n20 ?n21 ?n22 ?n23 ?n24 ?n25 ?n26 ?n27 ?n28 ?e0 ?e1 ?e2 ?e3 ?e4 ?e5 ?e6 ?e7 ?e8 ?e9 ?e10 ?e11 ?e12 ?e13 ?e14 ?e15 ?e16 ?e17 ?e18 ?e19 ?e20 ?e21 ?e22 ?e23 ?e24 ?e25 ?e26 ?e27 ?e28 ?z_abs ?z_int ?z_len ?z_isinstance ?z_bool ?z_list ?z_tuple ?z_all ?z_range ?z_repr ?z_min ?z_max
  (case nl => k_is)
  (case nR => k_is)
  (case nB => k_is)
  (case nN => k_is)
  (case nM => k_is)
  (case rI => k_is)
  (case nQ => k_is)
  (case n0 => k_is)
  (case n1 => k_is)
  (case n2 => k_is)
  (case n3 => k_is)
  (case n4 => k_is)
  (case n5 => k_is)
  (case n6 => k_is)
  (case n7 => k_is)
  (case n8 => k_is)
  (case n9 => k_is)
  (case n10 => k_is)
  (case n11 => k_is)
  (case n12 => k_is)
  (case n13 => k_is)
  (case n14 => k_is)
  (case n15 => k_is)
  (case n16 => k_is)
  (case n17 => k_is)
  (case n18 => k_is)
  (case n19 => k_is)
  (case n20 => k_is)
  (case n21 => k_is)
  (case n22 => k_is)
  (case n23 => k_is)
  (case n24 => k_is)
  (case n25 => k_is)
  (case n26 => k_is)
  (case n27 => k_is)
  (case n28 => k_is)
  (case z_abs => k_is)
  (case z_int => k_is)
  (case z_len => k_is)
  (case z_isinstance => k_is)
  (case z_bool => k_is)
  (case z_list => k_is)
  (case z_tuple => k_is)
  (case z_all => k_is)
  (case z_range => k_is)
  (case z_repr => k_is)
  (case z_min => k_is)
  (case z_max => k_is)
  (case el => (refine' K2law KX ?l ?k ?b; (case l => k_is); (case k => k_is); (case b => exact fun u => rfl)))
  (case tab => (refine' PySem.W.tab_of (x := "law") G.T KX ?rec ?tin; (case tin => (refine' tab_in ?n ?l ?e ?lc ?hv; (case n => k_is); (case l => k_is); (case e => exact rfl); (case lc => k_is); (case hv => exact rfl))); (case rec => rfl)))
  (case nT => kernel_rfl)
  (case rB => kernel_rfl); (case rF => kernel_rfl)
  (case eE => (refine' K2met KX ?l ?k ?p ?b; (case l => k_is); (case k => k_is); (case p => k_is); (case b => exact fun us hl => match us, hl with | [_, _], _ => rfl)))
  (case eI => (refine' K2met KX ?l ?k ?p ?b; (case l => k_is); (case k => k_is); (case p => k_is); (case b => exact fun us hl => match us, hl with | [_, _, _], _ => rfl)))
  (case nE => kernel_rfl); (case exm => kernel_rfl); (case xb => kernel_rfl); (case xno => k_is)
  case ow =>
    refine' K2own KX ?iC ?l ?tI ?hco ?lc ?lcc ?hv ?hf ?st ?pb ?kb ?ob zs ?top
    (case iC => k_is); (case l => k_is); (case tI => k_is); (case hco => k_is); (case lc => k_is); (case lcc => k_is)
    (case hv => exact rfl); (case hf => exact rfl); (case st => decide +kernel); (case pb => exact fun u v => rfl); (case kb => exact fun s a v => .of_eq rfl); (case ob => kernel_rfl); (case top => decide +kernel)
  (case e0 => (refine' K2def KX ?l ?k ?p ?b; (case l => k_is); (case k => k_is); (case p => k_is); (case b => exact fun us hl => match us, hl with | [_], _ => rfl)))
  (case e1 => (refine' K2def KX ?l ?k ?p ?b; (case l => k_is); (case k => k_is); (case p => k_is); (case b => exact fun us hl => match us, hl with | [_, _, _], _ => rfl)))
  (case e2 => (refine' K2def KX ?l ?k ?p ?b; (case l => k_is); (case k => k_is); (case p => k_is); (case b => exact fun us hl => match us, hl with | [_], _ => rfl)))
  (case e3 => (refine' K2def KX ?l ?k ?p ?b; (case l => k_is); (case k => k_is); (case p => k_is); (case b => exact fun us hl => match us, hl with | [_], _ => rfl)))
  (case e4 => (refine' K2def KX ?l ?k ?p ?b; (case l => k_is); (case k => k_is); (case p => k_is); (case b => exact fun us hl => match us, hl with | [_, _], _ => rfl)))
  (case e5 => (refine' K2def KX ?l ?k ?p ?b; (case l => k_is); (case k => k_is); (case p => k_is); (case b => exact fun us hl => match us, hl with | [_, _], _ => rfl)))
  (case e6 => (refine' K2def KX ?l ?k ?p ?b; (case l => k_is); (case k => k_is); (case p => k_is); (case b => exact fun us hl => match us, hl with | [_, _], _ => rfl)))
  (case e7 => (refine' K2def KX ?l ?k ?p ?b; (case l => k_is); (case k => k_is); (case p => k_is); (case b => exact fun us hl => match us, hl with | [_], _ => rfl)))
  (case e8 => (refine' K2def KX ?l ?k ?p ?b; (case l => k_is); (case k => k_is); (case p => k_is); (case b => exact fun us hl => match us, hl with | [_, _], _ => rfl)))
  (case e9 => (refine' K2def KX ?l ?k ?p ?b; (case l => k_is); (case k => k_is); (case p => k_is); (case b => exact fun us hl => match us, hl with | [_, _], _ => rfl)))
  (case e10 => (refine' K2def KX ?l ?k ?p ?b; (case l => k_is); (case k => k_is); (case p => k_is); (case b => exact fun us hl => match us, hl with | [_, _, _], _ => rfl)))
  (case e11 => (refine' K2def KX ?l ?k ?p ?b; (case l => k_is); (case k => k_is); (case p => k_is); (case b => exact fun us hl => match us, hl with | [_], _ => rfl)))
  (case e12 => (refine' K2def KX ?l ?k ?p ?b; (case l => k_is); (case k => k_is); (case p => k_is); (case b => exact fun us hl => match us, hl with | [_, _, _], _ => rfl)))
  (case e13 => (refine' K2def KX ?l ?k ?p ?b; (case l => k_is); (case k => k_is); (case p => k_is); (case b => exact fun us hl => match us, hl with | [_, _], _ => rfl)))
  (case e14 => (refine' K2kw KX ?l ?k ?p ?b ?b2; (case l => k_is); (case k => k_is); (case p => k_is); (case b => exact fun us hl => match us, hl with | [_, _], _ => rfl); (case b2 => exact fun us hl => match us, hl with | [_, _], _ => rfl)))
  (case e15 => (refine' K2kw KX ?l ?k ?p ?b ?b2; (case l => k_is); (case k => k_is); (case p => k_is); (case b => exact fun us hl => match us, hl with | [_, _], _ => rfl); (case b2 => exact fun us hl => match us, hl with | [_, _], _ => rfl)))
  (case e16 => (refine' K2kw KX ?l ?k ?p ?b ?b2; (case l => k_is); (case k => k_is); (case p => k_is); (case b => exact fun us hl => match us, hl with | [_], _ => rfl); (case b2 => exact fun us hl => match us, hl with | [_], _ => rfl)))
  (case e17 => (refine' K2kw KX ?l ?k ?p ?b ?b2; (case l => k_is); (case k => k_is); (case p => k_is); (case b => exact fun us hl => match us, hl with | [_, _], _ => rfl); (case b2 => exact fun us hl => match us, hl with | [_, _], _ => rfl)))
  (case e18 => (refine' K2kw KX ?l ?k ?p ?b ?b2; (case l => k_is); (case k => k_is); (case p => k_is); (case b => exact fun us hl => match us, hl with | [_, _, _], _ => rfl); (case b2 => exact fun us hl => match us, hl with | [_, _, _], _ => rfl)))
  (case e19 => (refine' K2def KX ?l ?k ?p ?b; (case l => k_is); (case k => k_is); (case p => k_is); (case b => exact fun us hl => match us, hl with | [_], _ => rfl)))
  (case e20 => (refine' K2def KX ?l ?k ?p ?b; (case l => k_is); (case k => k_is); (case p => k_is); (case b => exact fun us hl => match us, hl with | [_], _ => rfl)))
  (case e21 => (refine' K2def KX ?l ?k ?p ?b; (case l => k_is); (case k => k_is); (case p => k_is); (case b => exact fun us hl => match us, hl with | [_, _], _ => rfl)))
  (case e22 => (refine' K2def KX ?l ?k ?p ?b; (case l => k_is); (case k => k_is); (case p => k_is); (case b => exact fun us hl => match us, hl with | [_, _], _ => rfl)))
  (case e23 => (refine' K2def KX ?l ?k ?p ?b; (case l => k_is); (case k => k_is); (case p => k_is); (case b => exact fun us hl => match us, hl with | [_], _ => rfl)))
  (case e24 => (refine' K2def KX ?l ?k ?p ?b; (case l => k_is); (case k => k_is); (case p => k_is); (case b => exact fun us hl => match us, hl with | [_], _ => rfl)))
  (case e25 => (refine' K2def KX ?l ?k ?p ?b; (case l => k_is); (case k => k_is); (case p => k_is); (case b => exact fun us hl => match us, hl with | [_, _, _], _ => rfl)))
  (case e26 => (refine' K2def KX ?l ?k ?p ?b; (case l => k_is); (case k => k_is); (case p => k_is); (case b => exact fun us hl => match us, hl with | [_, _], _ => rfl)))
  (case e27 => (refine' K2def KX ?l ?k ?p ?b; (case l => k_is); (case k => k_is); (case p => k_is); (case b => exact fun us hl => match us, hl with | [_], _ => rfl)))
  (case e28 => (refine' K2def KX ?l ?k ?p ?b; (case l => k_is); (case k => k_is); (case p => k_is); (case b => exact fun us hl => match us, hl with | [_, _, _], _ => rfl)))
end
