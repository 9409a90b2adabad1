import PyProof.Rows.All
import Wide.All
import OpenK.AllK
import Wide.FinOn
import HandS.ForMost
import HandS.Exc
import HandS.ExcInit
import HandS.Nested
import HandS.FStr
import KE.KExcSuper
import HandS.ExcValue
import HandS.ExcField
import HandS.ExcIs
import HandS.IsInst
import KE.KExcIs
import HandS.Defaults
import HandS.MakeKwOnly
import PyProof.ReprRoads
import HandS.Wide
import HandS.Style
import HandS.Walk
import KE.OsRunLaw
import PySem.Challenge.RW_onebasis_k00_errors_of_all_parts
set_option Elab.async false
section
set_option linter.all false
set_option maxRecDepth 100000
set_option maxHeartbeats 4000000
/-! an error class of the program: def __init__(self, part): super().__init__(f'..{part}'); self.part = part -/
namespace Ob
open PySem PySem.Spec PyProof.Rows L2 NdefX

/-- v in an f-string gives some text of bounded length, and keeps all objects -/
def Fmt (P : Program) (w : World) (A : Around) (H : Hp) (y : V) : Prop :=
  ∀ (E : Value → Shared → Prop) (s : Shared) (u : Value) (Q : Value → Shared → Prop), HOk P w H s.heap → RelV y u →
    (∀ (m : Str) (t tk : Tok) (h' : Heap), m.length ≤ 100000 → (∀ b o, s.heap.get? b = some o → h'.get? b = some o) → Q (.str m t) { s with heap := h', toks := tk }) →
    wpAny (model P w) A (formatField u Str.empty) Q E s
theorem fmt_str {P : Program} {w : World} {A : Around} {H : Hp} {y : Str} (h : y.length ≤ 100000) : Fmt P w A H (.str y) := fun E s u Q _ r q => by
  obtain ⟨t, rfl⟩ := r
  have e : ∀ t tk, Q (.str y t) { s with toks := tk } := fun t tk => q y t tk s.heap h fun _ _ z => z
  exact wpAny_formatField_str (e t s.toks) (e _ _) (by rw [sizeLine_eq]; omega)
theorem fmt_none {P : Program} {w : World} {A : Around} {H : Hp} : Fmt P w A H .non := fun E s u Q _ r q => by
  cases r
  exact wpAny_formatField_none (q _ _ _ s.heap (by decide +kernel) fun _ _ z => z)
/-- {x} -/
def tFmtA (X : Cx) (te : TE) : TE := fun σ H Q => te σ H fun x H1 => Fmt X.prog X.w X.A H1 x ∧ ∀ y : Str, y.length ≤ 100000 → Q (.str y) H1
theorem pe_fmtA {X : Cx} {e : Expr} {te : TE} {pos : Pos} (he : PE X e te) : PE X (.FormattedValue e (-1) none pos) (tFmtA X te) := by
  refine ⟨fun pins s σ H Q I h => ?_⟩
  refine wpAny_FormattedValue_plain (thn (he.run pins s σ H _ I h) fun v s1 hv => ?_)
  obtain ⟨x, H1, I1, r1, f, q⟩ := hv
  exact f _ _ _ _ I1.hok r1 fun m t tk h' hm k => ⟨.str m, H1, I1.kept k, ⟨_, rfl⟩, q m hm⟩

/-! ### the wrapper of the built-in __init__, called -/
section
open PySem.W
variable {prog : Program} {w : World} {A : Around} {E : Value → Shared → Prop} {h : Heap} {g : Array GenState} {d : Drawn} {tk : Nat} {os : OsState}
variable {nm q : Str} {C N : Addr} {bs bm bmB : List Value} {hdct : Bool} {sn : List Str} {sub : List Value} {ab : Bool} {col : Option Bool} {dd : Option Addr} {k0 k1 k2 k3 k5 : Option Value} {B newId i : String}
theorem call_mw (FB : ExcBaseFacts B newId i bmB) {u x t : Addr} {rest : List Value} {Q : Value → Shared → Prop}
    (hC : h.get? C = some (excClassObj nm q C N bs bm hdct sn sub ab col dd k0 k1 k2 k3 k5 newId)) (hu : h.get? u = some (kxs_mw i x)) (he : h.get? x = some (excObj C t none .none)) (hz : rest.length ≤ sizeLine)
    (fin : ∀ h', (∀ b o, b ≠ x → h.get? b = some o → h'.get? b = some o) → h'.get? x = some (excObj C h.objs.size none .none) → Q .none ⟨h', g, d, tk, os⟩) :
    wpAny (model prog w) A (call (.ref u) rest) Q E ⟨h, g, d, tk, os⟩ := by
  refine wpAny_call (codeAny_of_tree ?_)
  show wpAny _ A.in1 (callAny (.ref u) ⟨rest, []⟩) _ _ _
  simp only [callAny]
  refine wpAny_bind (wpAny_load hu ?_)
  simp only [kxs_mw, show (Value.type "method-wrapper" == Value.type "method" || Value.type "method-wrapper" == Value.type "builtin_function_or_method" || Value.type "method-wrapper" == Value.type "method-wrapper") = true by decide, if_true]
  refine W.KFB.if_so (by decide) ?_
  refine wpAny_bind (check_bound_init FB.toExcCallFacts hC he rfl ?_)
  refine wpAny_bind (wpAny_pure (wpAny_pure ?_))
  refine ⟨plainId_quiet FB.init.plain _, codeAny_builtin FB.initEntry ?_⟩
  exact exc_init_tree (cls := .ref C) (t0 := t) (dv := none) (c2 := .none) (c3 := .none) (b4 := .bool false) he hz fun h' k e' _ => fin h' k e'
end
theorem eval_mcall {o : Expr} {name : Str} {q2 q7 : Pos} {vals : List Expr} {q6 : Pos} (env : Env) (hpos : (q2.endLine == q7.line) = true) :
    eval (.Call (.Attribute o name q2) [.JoinedStr vals q6] [] q7) env = (do
      let ov ← attributeBase o name env (eval o env)
      standAt q2.atName
      let (f, first) ← holding [ov] (getMethod ov name (do return (← importBound o env).getD true))
      callWith q7 f first (backTo q7 (starEach [.JoinedStr vals q6] env)) []) := by
  show (do
    let ov ← attributeBase o name env (eval o env)
    standAt q2.atName
    methodCall o name q2 q7 env ov 1 (backTo q7 (starEach [.JoinedStr vals q6] env)) []) = _
  have hf : methodCallForm 1 (backTo q7 (starEach [.JoinedStr vals q6] env)) [] = true := by rfl
  unfold methodCall methodCallPos calleeOf
  simp only [hf, hpos, Bool.not_true, Bool.false_or, if_true, pure_bind]
/-! ### the body, as it stands in the text -/
def initBody (pre part attr : Str) (j : Nat) (q0 q1 q2 q3 q4 q5 q6 q7 q8 q9 q10 q11 q12 : Pos) : List Stmt :=
  [.Expr (.Call (.Attribute (.Call (.Name "super" q0) [] [] q1) "__init__" q2) [.JoinedStr [.Constant (.str pre) j q3, .FormattedValue (.Name part q4) (-1) none q5] q6] [] q7) q8,
   .Assign [.Attribute (.Name "self" q9) attr q10] (.Name part q11) q12]
abbrev initScope (nms : List (Str × NameKind)) : Scope := { kind := .function, names := nms, isGenerator := false, isCoroutine := false, more := [] }
/-- what is known of such an __init__, written -/
structure InitK (P : Program) (K : PySem.W.Frag) (mg : Str → Option Value) (C fI : Addr) (part attr : Str) (fd : FuncData) : Prop where
  ex : ∃ (oc ccl cl0 dV kV doc pm ct : Value) (od cdd cld : Option Addr) (an : Option Addr) (osl ccs csl : Array (Option Value)) (cc cda : Addr) (qual pre file : Str) (tf : Tok) (params : Arguments) (nms : List (Str × NameKind)) (vs : Array Value) (j : Nat) (q0 q1 q2 q3 q4 q5 q6 q7 q8 q9 q10 q11 q12 : Pos),
    fd = PySem.W.ksFn "__init__" qual params (initBody pre part attr j q0 q1 q2 q3 q4 q5 q6 q7 q8 q9 q10 q11 q12) (initScope nms) dV kV doc pm an (.ref cda) ct cc ∧
    K.lookup fI = some ⟨oc, od, .func fd, osl⟩ ∧ PySem.W.codeIn K (.ref cda) qual = true ∧
    K.lookup cda = some ⟨ccl, cdd, .fields vs, ccs⟩ ∧ vs[2]? = some (.str file tf) ∧ ((P.main.file : Str) == file) = true ∧
    K.lookup cc = some ⟨cl0, cld, .cell (some (.ref C)), csl⟩ ∧
    NScope ["self", part, "__class__"] ["self", part] ["__class__"] (initScope nms) ∧ nms.lookup ("super" : Str) = some .globalImplicit ∧
    (q2.endLine == q7.line) = true ∧ (∃ ar : Arg, (params.posonlyargs ++ params.args).head? = some ar ∧ ar.arg = ("self" : Str)) ∧ pre.length ≤ 1000
  sup : mg "super" = none
  top : (P.main.scope.names.lookup ("super" : Str)).isSome = false
  cls : OexC K C
  along : ∃ cd, PySem.W.clsIn K C = some cd ∧ PySem.W.alongIn K "__init__" ((cd.mro.dropWhile (· != .ref C)).drop 1) = some (some (.builtin "ValueError.__init__"))
  ve : PySem.W.subIn K (.ref C) (.type "ValueError") = some true
  third : PySem.W.nsIn K cStatics "thirdparty.any" = some none
  no : PySem.W.findIn K (.ref C) attr = some none
  self : PySem.W.mroIn K C (.ref C) = some true
  dbg : (part == ("__debug__" : Str)) = false
  cdc : (part == ("__classdict__" : Str)) = false
section
variable {P : Program} {w : World} {K : PySem.W.Frag} {mg : Str → Option Value} {base : Heap} {CX : CXT} {C fI : Addr} {part attr : Str} {fd : FuncData}
theorem init_run (IK : InitK P K mg C fI part attr fd) (A : Around) (outer : List Env) (s : Shared) (H : Hp) (args : Args) (us : List Value) (a : Addr) (y : V) (Q : VK) (E : XK) (hr : Room 1 A) (e0 : Env0 P w K mg base A outer s H)
    (hb : BindsTo s fd args ((["self", part] : List Str).zip us)) (hv : Vals [.ref a, y] us) (ha : H a = some (exo a C none)) (hf : ∀ env : Env, Fmt P w (A.deeper env) H y)
    (hq : ∀ d, H d = none → d ≠ a → Q .non (upd (upd H d (exd d [(attr, y)])) a (exo a C (some d)))) :
    codeAny (model P w) A (.call (.ref fI) args) (CR CX outer P w H s Q E) s := by
  obtain ⟨oc, ccl, cl0, dV, kV, doc, pm, ct, od, cdd, cld, an, osl, ccs, csl, cc, cda, qual, pre, file, tf, params, nms, vs, j, q0, q1, q2, q3, q4, q5, q6, q7, q8, q9, q10, q11, q12, rfl, lk, hcd, hcode, hvs, hfile, hcell, S, hks, hpos, ⟨ar, har, har2⟩, hpre⟩ := IK.ex
  obtain ⟨cd, hcls, hal⟩ := IK.along
  have KX : K.In s.heap := e0.mod.kin.keeps fun b o e => (e0.bs b o e).1
  have lim : s.heap.NoLimit := e0.mod.nolimit.keeps fun b o e => (e0.bs b o e).1
  have hkc : nms.lookup ("__class__" : Str) = some .free := S.frk _ (by simp)
  refine PySem.ks_codeAny_call_defAt (binds := (["self", part] : List Str).zip us) hr.depth (KX _ _ lk) rfl lim (PySem.W.codeRec_of KX hcd) rfl hb S.nocell (fun ⟨n, _⟩ hy => S.par n (List.of_mem_zip hy).1) (fun h₁ hns kp => ?_) S.co S.gen S.kind
  let F : NF := ⟨"__init__", qual, params, initBody pre part attr j q0 q1 q2 q3 q4 q5 q6 q7 q8 q9 q10 q11 q12, initScope nms, [("__class__", cc)], cda⟩
  let X : Cx := ncx CX P w K mg base ["self", part, "__class__"] F fI A outer s H E
  have C0 : CellsAt F.cl ["__class__"] [none] s.heap H := by
    have hn : ∀ y c, List.lookup y F.cl = some c → y = "__class__" ∧ c = cc := fun y c e => by
      have e : List.lookup y [(("__class__" : Str), cc)] = some c := e
      simp only [List.lookup] at e
      split at e
      · rename_i z
        cases e
        exact ⟨by simpa using z, rfl⟩
      · cases e
    have hbase : base.get? cc = some ⟨cl0, cld, .cell (some (.ref C)), csl⟩ := e0.mod.kin _ _ hcell
    refine ⟨rfl, fun y c e => ?_, fun x y c e1 e2 => ?_, fun i y e => ?_⟩
    · obtain ⟨rfl, rfl⟩ := hn y c e
      exact ⟨(e0.bs _ _ hbase).2, _, _, (e0.bs _ _ hbase).1, rfl⟩
    · rw [(hn x c e1).1, (hn y c e2).1]
    · refine ⟨cc, ?_, fun v hv => ?_⟩
      · cases i with
        | zero =>
          cases e
          simp [F, List.lookup]
        | succ i => simp at e
      · cases i <;> simp at hv
  have I : Inv X [] (startF ["self", part, "__class__"] [.ref a, y] [none]) H { s with heap := h₁, toks := s.toks + ((["self", part] : List Str).zip us).length } := inv_startN S hr.hd e0 rfl hv C0 hns kp
  obtain ⟨nm, qn, N0, bs, bm, sn, sub, ab, col, dd0, k0, k1, k2, k3, k5, hC, hbm⟩ := IK.cls.cls
  -- super().__init__(f'..')
  refine PySem.ks_wpAt_execs_cons (PySem.ks_wpAt_Expr_any (PySem.ks_wpAt_MethodCall ?_ (eval_mcall _ hpos)))
  refine PySem.ks_wpAt_super_base (ar := ar) hks hkc (by decide +kernel) rfl (I.kIn _ _ lk) rfl har rfl (I.kIn _ _ hcode) rfl hvs hfile IK.top ?_
  obtain ⟨mb, hb1, hb2⟩ := I.mod.blt
  refine PySem.W.ks_loadName_global S.kind hks (Calls.loadGlobal_builtin (I.mod.glob.keeps I.bk) IK.sup (hb1.keeps I.bk) ((hb2 _ (by decide)).trans (by decide +kernel : bootBuiltins "super" = some (.type "super"))) ⟨rfl, ?_⟩)
  refine wpAny_loadName_free S.kind hkc (show (List.lookup ("__class__" : Str) [(("__class__" : Str), cc)]) = some cc by simp [List.lookup]) ⟨_, I.kIn _ _ hcell, rfl⟩ ?_
  rw [har2]
  obtain ⟨m, hn, hl⟩ := id I.loc
  obtain ⟨u0, ru, lu⟩ := hl 0 ("self" : Str) (.ref a) rfl rfl (.inl (S.par _ (by simp)))
  obtain rfl : u0 = Value.ref a := ru
  have hsl : nms.lookup ("self" : Str) = some .local := S.par _ (by simp)
  have hself : m ("self" : Str) = some (.ref a) := by
    rcases lu with ⟨_, z⟩ | ⟨z, _⟩
    · exact z
    · have z : nms.lookup ("self" : Str) = some .cell ∨ nms.lookup ("self" : Str) = some .free := z
      rw [hsl] at z
      rcases z with z | z <;> cases z
  refine wpAny_loadName_local S.kind hsl hn hself ?_
  obtain ⟨oD, hD1, hD2⟩ : ∃ oD, h₁.get? C = some oD ∧ oD.data = .cls cd := by
    unfold PySem.W.clsIn at hcls
    split at hcls
    · rename_i c d cd' sl ho
      cases hcls
      exact ⟨_, I.kIn _ _ ho, rfl⟩
    · cases hcls
  obtain ⟨t1, hx⟩ := exo_at I.hok ha
  have naC : a ≠ C := fun z => by
    have hb0 : base.get? C = _ := e0.mod.kin _ _ hC
    have := (e0.bs _ _ hb0).2
    rw [← z, ha] at this
    cases this
  refine PySem.ks_wpAny_isType_cls hD1 hD2 ⟨rfl, ?_⟩
  refine PySem.ks_wpAny_call_super hD1 hD2 hx rfl (fun c => by intro z; cases z) (PySem.W.looks_mroIn I.kIn IK.self) (fun h' e k => ?_)
  have I2 : Inv X [] (startF ["self", part, "__class__"] [.ref a, y] [none]) H { s with heap := h', toks := s.toks + ((["self", part] : List Str).zip us).length } := I.kept k
  obtain ⟨t2, hx2⟩ := exo_at I2.hok ha
  have IA : PySem.W.InstAt h' a (PySem.W.excObj C t2 none .none) C none := ⟨hx2, rfl, rfl, trivial⟩
  refine PySem.W.kxs_getMethod PySem.W.kxs_ValueError e (PySem.W.looks_opaque I2.kIn IK.third) (fun A Q E s k q => wpAny_bind ((PySem.W.looks_clsIn I2.kIn hcls) A _ E s k (wpAny_pure q))) rfl I2.kIn hal (IA.type.andThen (PySem.W.looks_subIn I2.kIn IK.ve)) naC (by decide +kernel) ?_
  have kp3 : ∀ b o, h'.get? b = some o → (h'.push (PySem.W.kxs_mw "ValueError.__init__" a)).get? b = some o := fun b o e => Heap.get?_push_of_some _ e
  have I3 : Inv X [(h'.objs.size, PySem.W.kxs_mw "ValueError.__init__" a)] (startF ["self", part, "__class__"] [.ref a, y] [none]) H { s with heap := h'.push (PySem.W.kxs_mw "ValueError.__init__" a), toks := s.toks + ((["self", part] : List Str).zip us).length + 1 } :=
    (I2.kept (t' := s.toks + ((["self", part] : List Str).zip us).length + 1) kp3).pins_of fun p hp => by
      obtain rfl := List.mem_singleton.mp hp
      have hnew : h'.objs.size ≤ h'.objs.size := Nat.le_refl _
      refine ⟨Heap.get?_push_size _ rfl, I2.hok.fresh hnew, fun z => ?_, I2.nofs hnew, fun v z => by cases z⟩
      have := I2.lt
      rw [← z] at this
      exact absurd this (Nat.lt_irrefl _)
  refine PySem.W.kxs_callWith (i := "ValueError.__init__") (x := a) rfl ?_
  refine Calls.evalArgs_plain ?_
  have hpj : PA X [.JoinedStr [.Constant (.str pre) j q3, .FormattedValue (.Name part q4) (-1) none q5] q6] _ :=
    pa_cons (pe_joined (PJ.cons pe_str (PJ.cons (pe_fmtA (pe_var (i := 1) rfl (.inl (S.par _ (by simp))) IK.dbg IK.cdc)) PJ.nil))) pa_nil
  refine wpAny_mono (hpj.run q7 _ _ _ H (fun vs1 H1 => H1 = H ∧ vs1.length = 1) I3 ?_) (fun us1 s4 h4 => ?_) fun er s' h' => h'
  · -- the text
    refine ⟨_, rfl, by rw [strLen_append]; rw [sizeLine_eq]; show 0 + pre.length ≤ _; omega, _, rfl, hf _, fun z hz => ⟨z, rfl, ?_, rfl, rfl⟩⟩
    rw [strLen_append, strLen_append, sizeLine_eq]
    show 0 + pre.length + z.length ≤ _
    omega
  obtain ⟨vs1, H1, I4, r4, rfl, hl4⟩ := h4
  have hu4 := (I4.pin (h'.objs.size, PySem.W.kxs_mw "ValueError.__init__" a) (by simp)).1
  obtain ⟨t4, hx4⟩ := exo_at I4.hok ha
  have hC4 := I4.kIn _ _ hC
  have hlen : us1.length ≤ sizeLine := by
    rw [← Paired.length r4, hl4, sizeLine_eq]
    omega
  obtain ⟨h4, g4, d4, tk4, os4⟩ := s4
  refine ⟨hu4, call_mw PySem.F.excBase_ValueError hC4 hu4 hx4 hlen fun h5 k5 e5 => ?_⟩
  have J := I4.write (t' := tk4) (x := a) (e := a) (o := exo a C none) (by rw [ha]; exact True.intro) (.inl rfl) k5 ⟨_, e5⟩ (exo_ok e5)
  have eu : upd H1 a (exo a C none) = H1 := by
    funext b
    by_cases hb : b = a
    · rw [hb, upd_same, ha]
    · rw [upd_ne hb]
  rw [eu] at J
  have I5 : Inv X [] (startF ["self", part, "__class__"] [.ref a, y] [none]) H1 ⟨h5, g4, d4, tk4, os4⟩ := J.pins_of fun p hp => by cases hp
  -- self.part = part
  refine wpAt_of_wpAny ?_
  have hps : PSs X [.Assign [.Attribute (.Name "self" q9) attr q10] (.Name part q11) q12] _ :=
    pss_one (ps_ost (pe_var (i := 0) rfl (.inl hsl)) (pe_var (i := 1) rfl (.inl (S.par _ (by simp))) IK.dbg IK.cdc))
  refine wpAny_mono (hps.run [] _ _ H1 { nx := fun _ H' => Q .non H', rt := Q } I5 ⟨y, rfl, .ref a, rfl, a, C, rfl, IK.cls, IK.no, .inl ⟨ha, fun dx n ne => hq dx n ne⟩⟩) (fun fl s' hs => ?_) fun e s' hs => hs
  cases fl with
  | ret u =>
    obtain ⟨v, σ', H', J, rv, q⟩ := hs
    exact ⟨v, H', J.os, J.bare, J.base, J.hok, rv, q⟩
  | next =>
    obtain ⟨σ', H', J, q⟩ := hs
    exact ⟨.non, H', J.os, J.bare, J.base, J.hok, rfl, q⟩
  | brk =>
    obtain ⟨_, _, _, q⟩ := hs
    exact False.elim q
  | cont =>
    obtain ⟨_, _, _, q⟩ := hs
    exact False.elim q
end
end Ob
end
section
set_option linter.all false
set_option maxRecDepth 100000
set_option maxHeartbeats 4000000
namespace Ob
open PySem PySem.Spec PyProof.Rows L2 NdefX
/-- an exception of the program stands at a, its class C -/
def XcAt (H : Hp) (a C : Addr) : Prop := (∃ od, H a = some (exo a C od) ∧ (od = none ∨ ∃ d fs, od = some d ∧ H d = some (exd d fs))) ∨ H a = some (ExO (.ref C) a)
section
variable {X : Cx} {pins : List (Addr × Obj)} {σ : L2.St} {H : Hp} {s : Shared} {a C : Addr}
theorem inst_of (I : Inv X pins σ H s) (h : XcAt H a C) : ∃ ox od, PySem.W.InstAt s.heap a ox C od := by
  rcases h with ⟨od, ha, rfl | ⟨d, fs, rfl, hd⟩⟩ | ha
  · obtain ⟨t, ho⟩ := exo_at I.hok ha
    exact ⟨_, none, ho, rfl, rfl, trivial⟩
  · obtain ⟨t, ho⟩ := exo_at I.hok ha
    obtain ⟨mA, ⟨od, es, ep, hod, _⟩, _⟩ := exd_at I.hok hd
    exact ⟨_, some od, ho, rfl, rfl, hod⟩
  · obtain ⟨⟨oe, vs, ho, ⟨hc, hd⟩, hv, _⟩, _, _⟩ := I.hok a _ ha
    obtain ⟨oc, od, oda, osl⟩ := oe
    dsimp only at hc hd hv
    subst hc hd hv
    exact ⟨_, none, ho, rfl, rfl, trivial⟩
/-- isinstance(e, c), e such an exception -/
def rIsX (K : PySem.W.Frag) : List V → Hp → VK → Prop := fun xs H Q => ∃ (a C : Addr) (c : V) (cv : Value) (b : Bool), xs = [.ref a, c] ∧ XcAt H a C ∧ ExcC K C ∧ (∀ u, RelV c u → u = cv) ∧ PySem.W.kitOne K (.ref C) cv = some b ∧ Q (.bl b) H
theorem call_isX : CallR X (.builtin "isinstance") (rIsX X.K) := by
  intro pins s σ H xs us Q I r h
  obtain ⟨a, C, c, cv, b, rfl, hx, T, hcv, e, q⟩ := h
  cases r with
  | cons rx rr =>
    cases rr with
    | cons rt rr =>
      cases rr
      cases rx
      have ec := hcv _ rt
      subst ec
      obtain ⟨ox, od, J⟩ := inst_of I hx
      obtain ⟨cd, hcd, _⟩ := PySem.W.any_some T.hd
      exact PySem.W.kia_one (PySem.W.kitx_exc (by rw [hcd]; rfl) T.hg T.hk T.hs T.ha T.hn T.ht T.hm) I.kIn J e (fun z => nomatch z) fun tk => ⟨.bl b, H, I.kept (t' := tk) fun _ _ z => z, rfl, q⟩
/-- e.f, e an exception with its own dict -/
def tXfV (K : PySem.W.Frag) (f : Str) (te : TE) : TE := fun σ H Q => te σ H fun x H1 => ∃ (a C d : Addr) (fs : List (Str × V)) (v : V), x = .ref a ∧ H1 a = some (exo a C (some d)) ∧ H1 d = some (exd d fs) ∧ XfC K C ∧ PySem.W.findIn K (.ref C) f = some none ∧ fs.lookup f = some v ∧ Q v H1
theorem pe_xfV {e : Expr} {te : TE} {pos : Pos} {n : Str} (he : PE X e te) (hb : attributeBase e n X.env (eval e X.env) = eval e X.env := by rfl) : PE X (.Attribute e n pos) (tXfV X.K n te) := by
  refine ⟨fun pins s σ H Q I h => ?_⟩
  refine attr_of hb (thn (he.run pins s σ H _ I h) fun u s1 hh => ?_)
  obtain ⟨x, H1, I1, rx, a, C, d, fs, v, ex, ha, hd, T, hno, l, q⟩ := hh
  subst ex
  obtain rfl : u = Value.ref a := rx
  obtain ⟨t, ho⟩ := exo_at I1.hok ha
  obtain ⟨mA, hns, hr⟩ := exd_at I1.hok hd
  obtain ⟨od, hod, hl⟩ := lookIn_ns hns
  obtain ⟨u, hu, ru⟩ := RelO.some_of (v := v) (o := mA n) (by rw [← l]; exact hr n)
  have J : PySem.W.InstAt s1.heap a _ C (some od) := ⟨ho, rfl, rfl, hod⟩
  exact HandSPX.exc_get I1.kIn J T.ga T.gg T.exC (PySem.W.findObj_own T.hdC hno rfl (by rw [hl, hu])) (handed_of ru) ⟨v, H1, I1.tok _, ru, q⟩
/-- X(e) as a value, X with an __init__ of the form of InitK -/
def tExcV (X : Cx) (C : Addr) (attr : Str) (ta : TA) : TE := fun σ H Q => ta σ H fun vs H1 => ∃ y, vs = [y] ∧ vs.length ≤ 1000 ∧
  (∀ a env us, H1 a = none → Fmt X.prog X.w ((X.A.under (.builtin "type.__call__" ⟨.ref C :: us, []⟩)).deeper env) (upd H1 a (exo a C none)) y) ∧
  ∀ a d, H1 a = none → H1 d = none → d ≠ a → Q (.ref a) (upd (upd H1 d (exd d [(attr, y)])) a (exo a C (some d)))
theorem pe_excV {x part attr : Str} {C fI : Addr} {fd : FuncData} {e : Expr} {ta : TA} {p pos : Pos} (IK : InitK X.prog X.K X.mg C fI part attr fd) (iC : PySem.W.findIn X.K (.ref C) "__init__" = some (some (.ref fI))) (tI : PySem.W.typeIn X.K (.ref fI) = some (.type "function"))
    (hr : Room 2 X.A) (hb : Binds X.K fd ["self", part] []) (hx : Passes CX0 X (fun _ _ _ => False)) (hg : Gl X x) (hm : X.mg x = some (.ref C)) (ha : PA X [e] ta)
    (hdb : (x == ("__debug__" : Str)) = false := by decide) (he : starEach [e] X.env = (false, eval e X.env) :: starEach [] X.env := by rfl) (hpl : (backTo pos (starEach [] X.env)).any (·.1) = false := by rfl) :
    PE X (.Call (.Name x p) [e] [] pos) (tExcV X C attr ta) := by
  refine ⟨fun pins s σ H Q I h => ?_⟩
  obtain ⟨nm, q, N, bs, bm, sn, sub, ab, col, dd, k0, k1, k2, k3, k5, hC, hbm⟩ := IK.cls.cls
  refine wpAny_Call_Name_kw (ld_glob I hg hm ?_ hdb)
  refine PySem.W.callWith_K (h₀ := X.base) I.ok.mod.kin IK.cls.kC (thn (ha.run pos pins s σ H _ I h) fun us s1 ⟨vs, H1, I1, r1, y, ey, hz, hf, q1⟩ => ⟨I1.kIn, ?_⟩) he hpl
  show wpAny _ _ (call (.ref C) us) _ _ _
  subst ey
  obtain ⟨hp, g, dr, tk, os⟩ := s1
  have hsz : hp.objs.size ≤ hp.objs.size + 1 := Nat.le_succ _
  have hn : H1 (hp.objs.size + 1) = none := I1.hok.fresh hsz
  have kk : ∀ b o, hp.get? b = some o → ((hp.push (PySem.W.kdv_tup us)).push (PySem.HandSPX.excO C hp.objs.size)).get? b = some o := fun b o e => Heap.get?_push_of_some _ (Heap.get?_push_of_some _ e)
  have hget : ((hp.push (PySem.W.kdv_tup us)).push (PySem.HandSPX.excO C hp.objs.size)).get? (hp.objs.size + 1) = some (PySem.HandSPX.excO C hp.objs.size) := by heap_get
  have I2 : Inv X pins σ (upd H1 (hp.objs.size + 1) (exo (hp.objs.size + 1) C none)) ⟨(hp.push (PySem.W.kdv_tup us)).push (PySem.HandSPX.excO C hp.objs.size), g, dr, tk, os⟩ :=
    I1.laid (t' := tk) (a := hp.objs.size + 1) (o := exo (hp.objs.size + 1) C none) (h' := (hp.push (PySem.W.kdv_tup us)).push (PySem.HandSPX.excO C hp.objs.size)) kk hsz (exo_ok hget)
  have r2 : Vals [V.ref (hp.objs.size + 1), y] (Value.ref (hp.objs.size + 1) :: us) := .cons rfl r1
  have hus : us.length ≤ sizeLine := by
    rw [← Paired.length r1, sizeLine_eq]
    omega
  have hb2 : BindsTo ⟨(hp.push (PySem.W.kdv_tup us)).push (PySem.HandSPX.excO C hp.objs.size), g, dr, tk, os⟩ fd ⟨Value.ref (hp.objs.size + 1) :: us, []⟩ ((["self", part] : List Str).zip (Value.ref (hp.objs.size + 1) :: us)) := by
    have := hb ⟨(hp.push (PySem.W.kdv_tup us)).push (PySem.HandSPX.excO C hp.objs.size), g, dr, tk, os⟩ (Value.ref (hp.objs.size + 1) :: us) I2.kIn (by rw [List.append_nil]; exact r2.length.symm)
    rw [List.append_nil] at this
    exact this
  refine wpAny_call (PySem.HandSPX.call_own F.excBase_ValueError (fun Y => PySem.HandSPX.refsVE_contains Y bm hbm) (I1.kIn _ _ hC) (PySem.W.looks_findIn I1.kIn iC) (fun self => PySem.W.bind_fn I1.kIn self tI) hus
    (codeAny_mono (init_run (CX := CX0) (Q := fun v H2 => v = .non ∧ Q (.ref (hp.objs.size + 1)) H2) (E := fun _ _ _ => False) IK _ X.stack _ _ _ (Value.ref (hp.objs.size + 1) :: us) (hp.objs.size + 1) y (hr.make C us []) (I2.env0.make C us []) hb2 r2 upd_same (fun env => hf _ env us hn) ?_) fun r s' hq' => ?_))
  · intro d hd hne
    refine ⟨rfl, ?_⟩
    have hd1 : H1 d = none := by
      rw [upd_ne hne] at hd
      exact hd
    have e1 : upd (upd (upd H1 (hp.objs.size + 1) (exo (hp.objs.size + 1) C none)) d (exd d [(attr, y)])) (hp.objs.size + 1) (exo (hp.objs.size + 1) C (some d)) = upd (upd H1 d (exd d [(attr, y)])) (hp.objs.size + 1) (exo (hp.objs.size + 1) C (some d)) := by
      funext b
      by_cases h1 : b = hp.objs.size + 1
      · rw [h1, upd_same, upd_same]
      · rw [upd_ne h1, upd_ne h1]
        by_cases h2 : b = d
        · rw [h2, upd_same, upd_same]
        · rw [upd_ne h2, upd_ne h2, upd_ne h1]
    rw [e1]
    exact q1 _ d hn hd1 hne
  · cases r with
    | error er => exact hx pins σ _ _ er s' I2 hq'
    | ok fl =>
      cases fl with
      | ret u =>
        obtain ⟨v, H2, J, rv, ev, q2⟩ := I2.after hq'
        subst ev
        exact ⟨rv, .ref (hp.objs.size + 1), H2, J, rfl, q2⟩
      | next => exact False.elim hq'
      | brk => exact False.elim hq'
      | cont => exact False.elim hq'
end
end Ob
end
section
set_option linter.all false
set_option maxRecDepth 100000
set_option maxHeartbeats 4000000
namespace PySem
namespace ObX
open Builtin Builtin.ObjectAttr HandSPX
section
variable {M : Model} {A : Around} {E : Value → Shared → Prop} {h : Heap} {g : Array GenState} {d : Drawn} {t : Nat} {os : OsState}
variable {nm q : Str} {C N : Addr} {bs bm bmB : List Value} {hdct : Bool} {sn : List Str} {sub : List Value} {ab : Bool} {col : Option Bool} {dd : Option Addr} {k0 k1 k2 k3 k5 : Option Value} {B newId initId : String}
theorem check_new_kw (F : ExcBaseFacts B newId initId bmB) (hT : ∀ X : String, bm.contains (.type X) = bmB.contains (.type X)) {key : Str} {v : Value} {Q : Unit → Shared → Prop}
    (hC : h.get? C = some (excClassObj nm q C N bs bm hdct sn sub ab col dd k0 k1 k2 k3 k5 newId)) (hq : Q () ⟨h, g, d, t, os⟩) : wpAny M A (checkBuiltinCall newId ⟨[.ref C], [(key, v)]⟩) Q E ⟨h, g, d, t, os⟩ := by
  have hcont : (Value.ref C :: bm).contains (.type B) = true := by rw [List.contains_cons, hT, F.hasB, Bool.or_true]
  have hstar := F.noStar
  simp only [checkBuiltinCall, F.newKind, F.newSplit, F.newRow]
  repeat (first | refine wpAny_loadPart_at hC ?_ | (refine wpAny_isSubtype_exc hC ?_; rw [hcont]) | refine wpAny_staticBase_exc hC ?_ | refine wpAny_madeBy_exc hC ?_ | simp only [bne_self_eq_false, Bool.false_eq_true, if_false] | wp_step)
  exact hq
end
section
variable {prog : Program} {w : World} {A : Around} {E : Value → Shared → Prop} {R : Result → Shared → Prop} {h : Heap} {g : Array GenState} {d : Drawn} {t : Nat} {os : OsState}
variable {nm q : Str} {C N : Addr} {bs bm bmB : List Value} {hdct : Bool} {sn : List Str} {sub : List Value} {ab : Bool} {col : Option Bool} {dd : Option Addr} {k0 k1 k2 k3 k5 : Option Value} {B newId initId : String}
theorem new_kw (F : ExcBaseFacts B newId initId bmB) (hT : ∀ X : String, bm.contains (.type X) = bmB.contains (.type X)) {key : Str} {v : Value}
    (hC : h.get? C = some (excClassObj nm q C N bs bm hdct sn sub ab col dd k0 k1 k2 k3 k5 newId))
    (hq : R (.ok (.ret (.ref (h.objs.size + 1)))) ⟨(h.push { cls := .type "tuple", data := .seq #[] }).push
      { cls := .ref C, data := .fields #[.ref h.objs.size, .none, .none, .none, .bool false, .none] }, g, d, t, os⟩) :
    codeAny (model prog w) A (.builtin newId ⟨[.ref C], [(key, v)]⟩) R ⟨h, g, d, t, os⟩ := by
  have hends := F.ends
  have hcB : (Value.ref C :: bm).contains (.type B) = true := by rw [List.contains_cons, hT, F.hasB, Bool.or_true]
  have hcA : (Value.ref C :: bm).contains (.type "AttributeError") = false := by rw [List.contains_cons, hT, F.noAttr]; rfl
  have hcN : (Value.ref C :: bm).contains (.type "NameError") = false := by rw [List.contains_cons, hT, F.noName]; rfl
  refine codeAny_builtinAt F.entry ?_
  unfold Builtin.«BaseException.__new__»
  refine wpAt_bind ?_
  show wpAt _ _ _ (stack >>= _) _ _ _
  refine wpAt_bind (wpAt_stack fun p below => wpAt_of_wpAny ?_)
  wp_walk
  refine wpAt_of_wpAny ?_
  rw [F.owner]
  repeat (first | with_reducible refine wpAny_madeHere_exc F.canon hC ?_ | with_reducible refine wpAny_loadPart_at hC ?_ | (with_reducible refine wpAny_isSubtype_exc hC ?_; first | rw [hcB] | rw [hcA] | rw [hcN]) | wp_step)
  show R _ _
  rw [Heap.size_push]
  exact hq
theorem type_call_kw (F : ExcBaseFacts B newId initId bmB) (hT : ∀ X : String, bm.contains (.type X) = bmB.contains (.type X)) {key : Str} {v : Value} {fI : Addr} {Q : Fin → Shared → Prop}
    (hC : h.get? C = some (excClassObj nm q C N bs bm hdct sn sub ab col dd k0 k1 k2 k3 k5 newId))
    (hi : W.Looks (model prog w) h (typeLookup (.ref C) "__init__") (some (.ref fI))) (hb : ∀ self, W.Looks (model prog w) h (bindSpecial (.ref fI) self) (.ref fI, [self]))
    (hq : codeAny (model prog w) A (.call (.ref fI) ⟨[.ref (h.objs.size + 1)], [(key, v)]⟩)
      (fun r s' => match r with | .ok (.ret v) => v = .none ∧ Q (.done (.ret (.ref (h.objs.size + 1)))) s' | .ok _ => False | .error e => E e s')
      ⟨(h.push (W.kdv_tup [])).push (excO C h.objs.size), g, d, t, os⟩) :
    wpAny (model prog w) A (Builtin.«type.__call__» ⟨[.ref C], [(key, v)]⟩) Q E ⟨h, g, d, t, os⟩ := by
  repeat (first | with_reducible refine wpAny_loadPart_at hC ?_ | with_reducible refine wpAny_madeBy_exc hC ?_ | wp_step)
  refine codeAny_call_builtin_code (Code.quiet_builtin _ F.quiet) (check_new_kw F hT hC ?_)
  refine new_kw F hT hC ?_
  show wpAny _ _ _ _ _ _
  have k : ∀ b o, h.get? b = some o → ((h.push (W.kdv_tup [])).push (excO C h.objs.size)).get? b = some o := fun b o e => Heap.get?_push_of_some _ (Heap.get?_push_of_some _ e)
  have hC₁ := k _ _ hC
  have hget : ((h.push (W.kdv_tup [])).push (excO C h.objs.size)).get? (h.objs.size + 1) = some (excO C h.objs.size) := by heap_get
  have hcC : (Value.ref C :: bm).contains (.ref C) = true := by simp
  have i1 := hi.keeps k
  have b1 := (hb (.ref (h.objs.size + 1))).keeps k
  unfold isInstance
  repeat (first | with_reducible refine wpAny_loadPart_at hget ?_ | (with_reducible refine wpAny_isSubtype_exc hC₁ ?_; rw [hcC]) | wp_step)
  show wpAny _ _ (typeLookup (.ref C) _) _ _ _
  refine i1.at ?_
  refine wpAny_holding (wpAny_bind (b1.at ?_))
  refine wpAny_bind (wpAny_call (codeAny_mono hq fun r s' z => ?_))
  rcases r with e | (v | _ | _ | _) <;> first | exact z | exact z.elim | skip
  obtain ⟨rfl, z⟩ := z
  first
    | exact wpAny_pure (wpAny_pure z)
    | (wp_walk; exact z)
theorem call_kw (F : ExcBaseFacts B newId initId bmB) (hT : ∀ X : String, bm.contains (.type X) = bmB.contains (.type X)) {key : Str} {v : Value} {fI : Addr}
    (hC : h.get? C = some (excClassObj nm q C N bs bm hdct sn sub ab col dd k0 k1 k2 k3 k5 newId))
    (hi : W.Looks (model prog w) h (typeLookup (.ref C) "__init__") (some (.ref fI))) (hb : ∀ self, W.Looks (model prog w) h (bindSpecial (.ref fI) self) (.ref fI, [self]))
    (hq : codeAny (model prog w) (A.under (.builtin "type.__call__" ⟨[.ref C], [(key, v)]⟩)) (.call (.ref fI) ⟨[.ref (h.objs.size + 1)], [(key, v)]⟩) (W.InitBack (h.objs.size + 1) R)
      ⟨(h.push (W.kdv_tup [])).push (excO C h.objs.size), g, d, t, os⟩) :
    codeAny (model prog w) A (.call (.ref C) ⟨[], [(key, v)]⟩) R ⟨h, g, d, t, os⟩ := by
  have f1 := tc_lookup
  have f2 := tc_bind (.ref C)
  have hTy : (⟨h, g, d, t, os⟩ : Shared).TypeIs (.ref C) "type" := ⟨_, hC, rfl⟩
  refine codeAny_of_tree ?_
  show wpAny _ _ (callAny (.ref C) _) _ _ _
  repeat (any_goals (first | assumption | with_reducible refine wpAny_loadPart_at hC ?_ | wp_step))
  refine ⟨rfl, ?_⟩
  refine codeAny_call_builtin_at (Code.quiet_builtin _ (by decide +kernel)) entry_typeCall (wpAny_check_type_call_sub hC (type_call_kw F hT hC hi hb ?_))
  refine codeAny_mono hq fun r s' z => ?_
  rcases r with e | (v | _ | _ | _) <;> exact z
end
end ObX
end PySem
end
section
set_option linter.all false
set_option maxRecDepth 100000
set_option maxHeartbeats 4000000
namespace Ob
open PySem PySem.Spec PyProof.Rows L2 NdefX
section
variable {X : Cx}
/-- X(part = e) as a value -/
def tExcK (X : Cx) (C : Addr) (part attr : Str) (ta : TA) : TE := fun σ H Q => ta σ H fun vs H1 => ∃ y, vs = [y] ∧
  (∀ a env us, H1 a = none → Fmt X.prog X.w ((X.A.under (.builtin "type.__call__" ⟨[.ref C], [(part, us)]⟩)).deeper env) (upd H1 a (exo a C none)) y) ∧
  ∀ a d, H1 a = none → H1 d = none → d ≠ a → Q (.ref a) (upd (upd H1 d (exd d [(attr, y)])) a (exo a C (some d)))
theorem pe_excK {x part attr : Str} {C fI : Addr} {fd : FuncData} {kws : List Keyword} {tk : TA} {p pos : Pos} (IK : InitK X.prog X.K X.mg C fI part attr fd) (iC : PySem.W.findIn X.K (.ref C) "__init__" = some (some (.ref fI))) (tI : PySem.W.typeIn X.K (.ref fI) = some (.type "function"))
    (hr : Room 2 X.A) (hb : ∀ (s : Shared) (a v : Value), BindsTo s fd ⟨[a], [(part, v)]⟩ [("self", a), (part, v)]) (hx : Passes CX0 X (fun _ _ _ => False)) (hg : Gl X x) (hm : X.mg x = some (.ref C)) (hkw : PK X kws tk)
    (hall : (backToKw pos (keywordEach kws X.env)).all (·.1.isSome) = true := by rfl) (hks : (backToKw pos (keywordEach kws X.env)).filterMap (·.1) = [part] := by rfl) (hdb : (x == ("__debug__" : Str)) = false := by decide)
    (hpl : ((backTo pos (starEach [] X.env)).any (·.1) || (backToKw pos (keywordEach kws X.env)).any (·.1.isNone)) = false := by rfl) :
    PE X (.Call (.Name x p) [] kws pos) (tExcK X C part attr tk) := by
  refine ⟨fun pins s σ H Q I h => ?_⟩
  obtain ⟨nm, q, N, bs, bm, sn, sub, ab, col, dd, k0, k1, k2, k3, k5, hC, hbm⟩ := IK.cls.cls
  refine wpAny_Call_Name_kw (ld_glob I hg hm ?_ hdb)
  refine PySem.W.callWith_KW0 (h₀ := X.base) I.ok.mod.kin IK.cls.kC hall ?_ hpl
  refine thn (hkw.run pos pins s σ H _ I h) fun ws s1 ⟨zs, H1, I1, rz, y, ey, hf, q1⟩ => ⟨I1.kIn, ?_⟩
  rw [hks]
  subst ey
  obtain ⟨hp, g, dr, tk, os⟩ := s1
  cases rz with
  | @cons _ v _ _ r1 rr =>
  cases rr
  show wpAny _ _ (call (.ref C) [] [(part, v)]) _ _ _
  have hsz : hp.objs.size ≤ hp.objs.size + 1 := Nat.le_succ _
  have hn : H1 (hp.objs.size + 1) = none := I1.hok.fresh hsz
  have kk : ∀ b o, hp.get? b = some o → ((hp.push (PySem.W.kdv_tup [])).push (PySem.HandSPX.excO C hp.objs.size)).get? b = some o := fun b o e => Heap.get?_push_of_some _ (Heap.get?_push_of_some _ e)
  have hget : ((hp.push (PySem.W.kdv_tup [])).push (PySem.HandSPX.excO C hp.objs.size)).get? (hp.objs.size + 1) = some (PySem.HandSPX.excO C hp.objs.size) := by heap_get
  have I2 : Inv X pins σ (upd H1 (hp.objs.size + 1) (exo (hp.objs.size + 1) C none)) ⟨(hp.push (PySem.W.kdv_tup [])).push (PySem.HandSPX.excO C hp.objs.size), g, dr, tk, os⟩ :=
    I1.laid (t' := tk) (a := hp.objs.size + 1) (o := exo (hp.objs.size + 1) C none) (h' := (hp.push (PySem.W.kdv_tup [])).push (PySem.HandSPX.excO C hp.objs.size)) kk hsz (exo_ok hget)
  have r2 : Vals [V.ref (hp.objs.size + 1), y] [Value.ref (hp.objs.size + 1), v] := .cons rfl (.cons r1 .nil)
  refine wpAny_call (PySem.ObX.call_kw F.excBase_ValueError (fun Y => PySem.HandSPX.refsVE_contains Y bm hbm) (I1.kIn _ _ hC) (PySem.W.looks_findIn I1.kIn iC) (fun self => PySem.W.bind_fn I1.kIn self tI)
    (codeAny_mono (init_run (CX := CX0) (Q := fun v H2 => v = .non ∧ Q (.ref (hp.objs.size + 1)) H2) (E := fun _ _ _ => False) IK _ X.stack _ _ _ [Value.ref (hp.objs.size + 1), v] (hp.objs.size + 1) y (hr.make C [] [(part, v)]) (I2.env0.make C [] [(part, v)]) (hb _ _ _) r2 upd_same (fun env => hf _ env v hn) ?_) fun r s' hq' => ?_))
  · intro d hd hne
    refine ⟨rfl, ?_⟩
    have hd1 : H1 d = none := by
      rw [upd_ne hne] at hd
      exact hd
    have e1 : upd (upd (upd H1 (hp.objs.size + 1) (exo (hp.objs.size + 1) C none)) d (exd d [(attr, y)])) (hp.objs.size + 1) (exo (hp.objs.size + 1) C (some d)) = upd (upd H1 d (exd d [(attr, y)])) (hp.objs.size + 1) (exo (hp.objs.size + 1) C (some d)) := by
      funext b
      by_cases h1 : b = hp.objs.size + 1
      · rw [h1, upd_same, upd_same]
      · rw [upd_ne h1, upd_ne h1]
        by_cases h2 : b = d
        · rw [h2, upd_same, upd_same]
        · rw [upd_ne h2, upd_ne h2, upd_ne h1]
    rw [e1]
    exact q1 _ d hn hd1 hne
  · cases r with
    | error er => exact hx pins σ _ _ er s' I2 hq'
    | ok fl =>
      cases fl with
      | ret u =>
        obtain ⟨v, H2, J, rv, ev, q2⟩ := I2.after hq'
        subst ev
        exact ⟨rv, .ref (hp.objs.size + 1), H2, J, rfl, q2⟩
      | next => exact False.elim hq'
      | brk => exact False.elim hq'
      | cont => exact False.elim hq'
end
end Ob
end
section
set_option linter.all false
set_option maxRecDepth 100000
set_option maxHeartbeats 4000000
/-! plain data at tracked addresses: in an f-string, by repr -/
namespace Ob
open PySem PySem.Spec PyProof.Rows L2
mutual
/-- v is this data: a list of lists, tuples, numbers, texts; a dict of tuples, numbers, texts -/
def DataAt (H : Hp) : PyData → V → Prop
  | .none, v => v = .non
  | .bool b, v => v = .bl b
  | .int i, v => v = .int i
  | .str x, v => v = .str x
  | .list ds, v => ∃ a xs, v = .ref a ∧ H a = some (.lst xs) ∧ DataAll H ds xs
  | .tuple ds, v => ∃ a xs, v = .ref a ∧ H a = some (.tup xs) ∧ DataAll H ds xs
  | .dict kvs, v => ∃ a es, v = .ref a ∧ H a = some (.dK es) ∧ DataKvs H kvs es
def DataAll (H : Hp) : List PyData → List V → Prop
  | [], vs => vs = []
  | d :: ds, vs => ∃ x xs, vs = x :: xs ∧ DataAt H d x ∧ DataAll H ds xs
def DataKvs (H : Hp) : List (PyData × PyData) → List (Key × V) → Prop
  | [], es => es = []
  | (k, d) :: kvs, es => ∃ (x : Str) (v : V) (es' : List (Key × V)), es = (Sum.inr x, v) :: es' ∧ k = .str x ∧ DataAt H d v ∧ DataKvs H kvs es'
end
mutual
/-- no list within -/
def noList : PyData → Bool
  | .none | .bool _ | .int _ | .str _ => true
  | .list _ => false
  | .tuple ds => noListAll ds
  | .dict kvs => noListKv kvs
def noListAll : List PyData → Bool
  | [] => true
  | d :: ds => noList d && noListAll ds
def noListKv : List (PyData × PyData) → Bool
  | [] => true
  | (_, d) :: r => noList d && noListKv r
end
section
variable {P : Program} {w : World} {H : Hp} {h : Heap}
theorem kvs_reads {es : List DictEntry} {xs : List (Key × Value)} (p : Pairs (mixKind P w) es xs) : True := trivial
mutual
theorem reads_of (ok : HOk P w H h) : ∀ (d : PyData) (v : V) (u : Value), DataAt H d v → RelV v u → ∃ as, Reads h u d as ∧ (noList d = true ∨ H sysModules = none → sysModules ∉ as)
  | .none, _, u, e, r => by
    have e : _ = V.non := e
    subst e
    cases r
    exact ⟨_, .none, fun _ z => by cases z⟩
  | .bool b, _, u, e, r => by
    have e : _ = V.bl b := e
    subst e
    cases r
    exact ⟨_, .bool b, fun _ z => by cases z⟩
  | .int i, _, u, e, r => by
    have e : _ = V.int i := e
    subst e
    obtain ⟨t, rfl⟩ := r
    exact ⟨_, .int i t, fun _ z => by cases z⟩
  | .str x, _, u, e, r => by
    have e : _ = V.str x := e
    subst e
    obtain ⟨t, rfl⟩ := r
    exact ⟨_, .str x t, fun _ z => by cases z⟩
  | .list ds, v, u, e, r => by
    obtain ⟨a, xs, rfl, ha, hd⟩ : ∃ a xs, v = V.ref a ∧ H a = some (.lst xs) ∧ DataAll H ds xs := by simpa only [DataAt] using e
    cases r
    obtain ⟨_, its, n, rv, ho⟩ := ok a _ ha
    obtain ⟨as, hr, hn⟩ := readsAll_of ok ds xs its hd rv
    refine ⟨_, .list ho rfl rfl (by simpa using hr), fun z hm => ?_⟩
    rcases z with z | z
    · simp [noList] at z
    · rcases List.mem_cons.mp hm with e | hm
      · rw [e, ha] at z
        cases z
      · exact hn (.inr z) hm
  | .tuple ds, v, u, e, r => by
    obtain ⟨a, xs, rfl, ha, hd⟩ : ∃ a xs, v = V.ref a ∧ H a = some (.tup xs) ∧ DataAll H ds xs := by simpa only [DataAt] using e
    cases r
    obtain ⟨_, its, rv, o, ho, hc, n, hdt⟩ := ok a _ ha
    obtain ⟨as, hr, hn⟩ := readsAll_of ok ds xs its hd rv
    exact ⟨_, .tuple ho hc hdt (by simpa using hr), fun z => hn (z.imp (fun z => by simpa only [noList] using z) id)⟩
  | .dict kvs, v, u, e, r => by
    obtain ⟨a, es, rfl, ha, hd⟩ : ∃ a es, v = V.ref a ∧ H a = some (.dK es) ∧ DataKvs H kvs es := by simpa only [DataAt] using e
    cases r
    obtain ⟨_, hs, vs, rv, o, es', ep, ho, hx, hdt, hk, hp, _⟩ := ok a _ ha
    obtain ⟨as, bs, h1, h2, hn⟩ := readsKv_of ok kvs es vs es'.toList hd rv hp
    refine ⟨_, .dict (o := o) (es := es') (n := ep) ho hx.1 hdt h1 h2, fun z hm => ?_⟩
    rcases List.mem_append.mp hm with hm | hm
    · rcases List.mem_cons.mp hm with hm | hm
      · rw [← hm] at hs
        simp at hs
      · exact (hn (z.imp (fun z => by simpa only [noList] using z) id)).1 hm
    · exact (hn (z.imp (fun z => by simpa only [noList] using z) id)).2 hm
theorem readsAll_of (ok : HOk P w H h) : ∀ (ds : List PyData) (xs : List V) (us : List Value), DataAll H ds xs → Vals xs us → ∃ as, ReadsAll h us ds as ∧ (noListAll ds = true ∨ H sysModules = none → sysModules ∉ as)
  | [], xs, us, e, r => by
    have e : xs = [] := by simpa only [DataAll] using e
    subst e
    cases r
    exact ⟨_, .nil, fun _ z => by cases z⟩
  | d :: ds, xs, us, e, r => by
    obtain ⟨x, xs', rfl, hd, hds⟩ : ∃ x xs', xs = x :: xs' ∧ DataAt H d x ∧ DataAll H ds xs' := by simpa only [DataAll] using e
    cases r with
    | cons r1 r2 =>
      obtain ⟨as, h1, n1⟩ := reads_of ok d _ _ hd r1
      obtain ⟨bs, h2, n2⟩ := readsAll_of ok ds _ _ hds r2
      refine ⟨_, .cons h1 h2, fun z hm => ?_⟩
      have z : (noList d = true ∧ noListAll ds = true) ∨ H sysModules = none := z.imp (fun z => by simpa only [noListAll, Bool.and_eq_true] using z) id
      rcases List.mem_append.mp hm with hm | hm
      · exact n1 (z.imp And.left id) hm
      · exact n2 (z.imp And.right id) hm
theorem readsKv_of (ok : HOk P w H h) : ∀ (kvs : List (PyData × PyData)) (es : List (Key × V)) (vs : List (Key × Value)) (ds : List DictEntry), DataKvs H kvs es → KV es vs → Pairs (mixKind P w) ds vs →
    ∃ as bs, ReadsAll h (ds.map (·.key)) (kvs.map (·.1)) as ∧ ReadsAll h (ds.map (·.val)) (kvs.map (·.2)) bs ∧ (noListKv kvs = true ∨ H sysModules = none → sysModules ∉ as ∧ sysModules ∉ bs)
  | [], es, vs, ds, e, r, p => by
    have e : es = [] := by simpa only [DataKvs] using e
    subst e
    cases r
    cases p
    exact ⟨[], [], .nil, .nil, fun _ => ⟨fun z => (nomatch z), fun z => (nomatch z)⟩⟩
  | (k, d) :: kvs, es, vs, ds, e, r, p => by
    obtain ⟨x, v, es', rfl, rfl, hd, hds⟩ : ∃ (x : Str) (v : V) (es' : List (Key × V)), es = (Sum.inr x, v) :: es' ∧ k = .str x ∧ DataAt H d v ∧ DataKvs H kvs es' := by simpa only [DataKvs] using e
    cases r with
    | @cons _ q _ vs2 r1 r2 =>
      cases p with
      | @cons e _ es2 _ p1 p2 p3 =>
        obtain ⟨q1, q2⟩ := q
        obtain ⟨e1, e2⟩ := r1
        dsimp only at e1 e2 p1 p2
        subst e1
        obtain ⟨as, h1, n1⟩ := reads_of ok d _ _ hd e2
        obtain ⟨cs, bs, h2, h3, n2⟩ := readsKv_of ok kvs _ _ _ hds r2 p3
        obtain ⟨t, hk⟩ : ∃ t, e.key = Value.str x t := Value.isStrOf_shape p1
        refine ⟨_, _, .cons (by show Reads h e.key (PyData.str x) _; rw [hk]; exact .str x t) h2, .cons (by show Reads h e.val d _; rw [p2]; exact h1) h3, fun z => ?_⟩
        have z : (noList d = true ∧ noListKv kvs = true) ∨ H sysModules = none := z.imp (fun z => by simpa only [noListKv, Bool.and_eq_true] using z) id
        refine ⟨fun hm => (n2 (z.imp And.right id)).1 (by simpa using hm), fun hm => ?_⟩
        rcases List.mem_append.mp hm with hm | hm
        · exact n1 (z.imp And.left id) hm
        · exact (n2 (z.imp And.right id)).2 hm
end
/-- data that may stand in a message -/
structure Small (d : PyData) : Prop where
  show_ : d.showable = true
  dict : d.hasDict = true → noList d = true
  len : d.shown.length ≤ 100000
  depth : d.depth ≤ 50
  txt : ∀ x, d = .str x → x.length ≤ 100000
theorem fmt_data {A : Around} {d : PyData} {v : V} (hg : A.guards = some []) (hu : A.units + 60 < cLine) (S : Small d) (hd : DataAt H d v) : Fmt P w A H v := by
  intro E s u Q ok r q
  obtain ⟨as, hr, hn⟩ := reads_of ok d v u hd r
  have hz : d.shown.length ≤ sizeLine := by
    have := S.len
    rw [sizeLine_eq]
    omega
  have hdp := S.depth
  cases hr with
  | none => exact wpAny_formatField_none (q _ _ _ s.heap (by decide +kernel) fun _ _ z => z)
  | bool b => exact wpAny_formatField_bool (q _ _ _ s.heap (by cases b <;> decide +kernel) fun _ _ z => z)
  | int i t =>
    have hs := S.show_
    simp only [PyData.showable, decide_eq_true_eq] at hs
    have hl := S.len
    simp only [PyData.shown] at hl
    exact wpAny_formatField_int hs (q _ _ _ s.heap hl fun _ _ z => z)
  | str x t =>
    have e : v = V.str x := by simpa only [DataAt] using hd
    subst e
    exact fmt_str (S.txt x rfl) E s _ Q ok ⟨t, rfl⟩ q
  | list a1 a2 a3 a4 => exact formatField_of_reads (.list a1 a2 a3 a4) S.show_ (fun z => hn (.inl (S.dict z))) hg (by omega) (fun _ _ z => z) (fun h' u tk k => q _ _ _ h' S.len k) hz
  | tuple a1 a2 a3 a4 => exact formatField_of_reads (.tuple a1 a2 a3 a4) S.show_ (fun z => hn (.inl (S.dict z))) hg (by omega) (fun _ _ z => z) (fun h' u tk k => q _ _ _ h' S.len k) hz
  | dict a1 a2 a3 a4 a5 => exact formatField_of_reads (.dict a1 a2 a3 a4 a5) S.show_ (fun z => hn (.inl (S.dict z))) hg (by omega) (fun _ _ z => z) (fun h' u tk k => q _ _ _ h' S.len k) hz
end
/-- repr([..]) of tracked data -/
def rReprD : List V → Hp → VK → Prop := fun xs H Q => ∃ (a : Addr) (d : PyData), xs = [.ref a] ∧ DataAt H d (.ref a) ∧ d.showable = true ∧ d.shown.length ≤ 100000 ∧ d.depth ≤ 50 ∧ Q (.str d.shown) H
theorem call_reprD {X : Cx} (hg : X.A.guards = some []) (hu : X.A.units + 60 < cLine) {o1 : Obj} (h1 : X.K.lookup sysModules = some o1) : CallR X (.builtin "repr") rReprD := by
  intro pins s σ H xs us Q I r h
  obtain ⟨a, d, rfl, hd, hs, hl, hdp, q⟩ := h
  cases r with
  | cons rx rr =>
    cases rr
    cases rx
    obtain ⟨as, hr, hn⟩ := reads_of I.hok d _ _ hd rfl
    have z : H sysModules = none := (I.bs _ _ (I.mod.kin _ _ h1)).2
    have hz : d.shown.length ≤ sizeLine := by
      rw [sizeLine_eq]
      omega
    exact repr_of_reads' hr hs (fun _ => hn (.inr z)) hg (by omega) (fun _ _ z => z) (fun h' u tk k => ⟨.str d.shown, H, I.kept k, ⟨_, rfl⟩, q⟩) hz
end Ob
end
section
set_option linter.all false
set_option maxRecDepth 100000
set_option maxHeartbeats 4000000
/-! repr of a tracked list of data: only a dict within asks what stands where -/
namespace Ob
open PySem PySem.Spec PyProof.Rows L2
def rReprL : List V → Hp → VK → Prop := fun xs H Q => ∃ (a : Addr) (ys : List V) (ds : List PyData), xs = [.ref a] ∧ H a = some (.lst ys) ∧ DataAll H ds ys ∧ ds ≠ [] ∧ (PyData.list ds).showable = true ∧
  (PyData.list ds).shown.length ≤ 100000 ∧ (PyData.list ds).depth ≤ 50 ∧ ((PyData.list ds).hasDict = true → noListAll ds = true) ∧ Q (.str (PyData.list ds).shown) H
theorem call_reprL {X : Cx} (hg : X.A.guards = some []) (hu : X.A.units + 60 < cLine) : CallR X (.builtin "repr") rReprL := by
  intro pins s σ H xs us Q I r h
  obtain ⟨a, ys, ds, rfl, ha, hd, hne, hs, hl, hdp, hdict, q⟩ := h
  cases r with
  | cons rx rr =>
    cases rr
    cases rx
    obtain ⟨_, its, n, rv, ho⟩ := I.hok a _ ha
    obtain ⟨as, hr, hn⟩ := readsAll_of I.hok ds ys its hd rv
    have whole : Reads s.heap (.ref a) (.list ds) (a :: as) := .list ho rfl rfl (by simpa using hr)
    have fits : (listText (PyData.shownAll ds)).length ≤ sizeLine := by
      have e : (listText (PyData.shownAll ds)).length ≤ 100000 := by simpa only [PyData.shown] using hl
      rw [sizeLine_eq]
      omega
    have deep : PyData.depthAll ds < 50 := by
      simp only [PyData.depth] at hdp
      omega
    have shows : PyData.showableAll ds = true := by
      simp only [PyData.showable] at hs
      exact hs
    have quiet : PyData.hasDictAll ds = true → sysModules ∉ as := fun z => hn (.inl (hdict (by
      simp only [PyData.hasDict]
      exact z)))
    obtain ⟨bs, below, each⟩ := ReprAllK.of_readsAll (prog := X.prog) (w := X.w) hr shows quiet fun t m => Nat.le_trans (listText_mem_le m) fits
    have apart : a ∉ bs := by
      refine not_mem_of_deeper whole ?_ below
      simp only [PyData.depth]
      omega
    have end_ : ∀ (h' : Heap) (t tk : Tok), (∀ b o, s.heap.get? b = some o → h'.get? b = some o) → ∃ v H', Inv X pins σ H' { s with heap := h', toks := tk } ∧ RelV v (.str (listText (PyData.shownAll ds)) t) ∧ Q v H' := fun h' t tk k =>
      ⟨.str (listText (PyData.shownAll ds)), H, I.kept k, ⟨_, rfl⟩, by simpa only [PyData.shown] using q⟩
    refine call_repr_slot (by omega) ⟨_, ho, rfl⟩ F.slot_list_repr.toG ?_
    cases its with
    | nil =>
      cases hr
      exact absurd rfl hne
    | cons x l => exact call_list_reprK ho rfl rfl apart (by simpa using each.length_eq) (fun i y e => each.item i y (by simpa using e)) hg (fun b _ => Clear.nil b) (by show X.A.units + 1 + (PyData.depthAll ds + 1) < cLine; omega) (fun _ _ z => z) (fun h' t tk k => ⟨_, _, rfl, end_ h' t tk k⟩) fits
end Ob
end
section
set_option linter.all false
set_option maxRecDepth 100000
set_option maxHeartbeats 4000000
/-! promises of defs that run where no repr is under way -/
namespace Ob
open PySem PySem.Spec PyProof.Rows L2
/-- a def's promise, kept where no repr is under way -/
structure FnG (P : Program) (w : World) (K : PySem.W.Frag) (mg : Str → Option Value) (base : Heap) (k : Nat) (f : Addr) (fd : FuncData) (ps : List Str) (sp : Sp) : Prop where
  many : ∀ vs H Q E, sp vs H Q E → vs.length = ps.length
  go : ∀ (A : Around) (outer : List Env) (s : Shared) (H : Hp) (us : List Value) (vs : List V) (Q : VK) (E : XK), A.guards = some [] → Room k A → Env0 P w K mg base A outer s H → BindsTo s fd ⟨us, []⟩ (ps.zip us) → Vals vs us → sp vs H Q E →
    codeAny (model P w) A (.call (.ref f) ⟨us, []⟩) (CR CX0 outer P w H s Q E) s
section
variable {P : Program} {w : World} {K : PySem.W.Frag} {mg : Str → Option Value} {base : Heap}
/-- a def of the text, by its body -/
theorem fnG_of {x qual : Str} {st : Stmt} {f : Addr} {fd : FuncData} {N ps : List Str} {k : Nat} {sp : Sp} (F : Fun K x qual st f fd) (S : FnScope N ps (defScope st)) (len : ∀ vs H Q E, sp vs H Q E → vs.length = ps.length)
    (body : ∀ (cdv : Value) (A : Around) (outer : List Env) (s : Shared) (H : Hp) (vs : List V) (Q : VK) (E : XK), (A.deeper (envOfC qual (defScope st) s.heap.objs.size f cdv)).guards = some [] → Room k (A.deeper (envOfC qual (defScope st) s.heap.objs.size f cdv)) → sp vs H Q E →
      ∃ t, PSs (cxOf CX0 P w K mg base N qual (defScope st) f cdv A outer s H E) (defBody st) t ∧ t { nx := fun _ H' => Q .non H', rt := Q } (start N vs) H) : FnG P w K mg base (k + 1) f fd ps sp := by
  obtain ⟨oc, od, kV, doc, pm, an, cdv, ct, osl, rfl, lk, hcd⟩ := F.ex
  refine ⟨len, fun A outer s H us vs Q E hG hr e0 hb r hsp => ?_⟩
  have KX : K.In s.heap := e0.mod.kin.keeps fun b o e => (e0.bs b o e).1
  have lim : s.heap.NoLimit := e0.mod.nolimit.keeps fun b o e => (e0.bs b o e).1
  have kinds : ∀ y ∈ ps.zip us, (defScope st).names.lookup y.1 = some .local ∨ ((defScope st).names.lookup y.1 = some .cell ∧ ((cellsFrom (s.heap.objs.size + 1) (defScope st).names []).lookup y.1).isSome = true) := fun ⟨n, v⟩ hy =>
    (S.par n (List.of_mem_zip hy).1).elim .inl fun q => .inr ⟨q, PySem.W.cellsFrom_some _ _ _ (.inl q)⟩
  refine codeAny_call_function hr.depth (KX _ _ lk) rfl S.co S.gen rfl (PySem.W.codeRec_of KX hcd) (hb _ _ _ _ (wpAny_newFunctionEnv_cells S.kind kinds fun env he s1 x => ?_))
  subst he
  obtain ⟨t, ht, hq⟩ := body cdv A outer s H vs Q E hG (hr.deeper _) hsp
  have I := inv_start (CX := CX0) (w := w) (E := E) S hr.hd e0 (len _ _ _ _ hsp) r x
  refine ⟨lim.keeps x.toInCall.keep, codeAny_func (wpAny_mono (ht.run [] s1 _ H _ I hq) (fun fl s' hs => ?_) fun _ _ z => z)⟩
  match fl, hs with
  | .ret u, ⟨v, σ', H', J, rv, q⟩ => exact ⟨v, H', J.os, J.bare, J.base, J.hok, rv, q⟩
  | .next, ⟨σ', H', J, q⟩ => exact ⟨.non, H', J.os, J.bare, J.base, J.hok, rfl, q⟩
  | .brk, ⟨_, _, _, q⟩ => exact q.elim
  | .cont, ⟨_, _, _, q⟩ => exact q.elim
end
section
variable {X : Cx} {k : Nat} {f : Addr} {fd : FuncData} {ps : List Str} {sp : Sp} {x : Str} {p pos : Pos} {e : Expr} {es : List Expr} {t : TA}
/-- f(e, ..) -/
theorem pe_callG (hG : X.A.guards = some []) (F : FnG X.prog X.w X.K X.mg X.base k f fd ps sp) (hr : Room k X.A) (hg : Gl X x) (hm : X.mg x = some (.ref f)) (hk : PySem.W.keepIn X.K (.ref f) = true) (hb : Binds X.K fd ps []) (ha : PA X (e :: es) t)
    (hdb : (x == ("__debug__" : Str)) = false := by decide) (he : starEach (e :: es) X.env = (false, eval e X.env) :: starEach es X.env := by rfl) (hpl : (backTo pos (starEach es X.env)).any (·.1) = false := by rfl) :
    PE X (.Call (.Name x p) (e :: es) [] pos) (tCall sp [] E0 t) := by
  refine ⟨fun pins s σ H Q I h => wpAny_Call_Name_kw (ld_glob I hg hm ?_ hdb)⟩
  refine PySem.W.callWith_K (h₀ := X.base) I.ok.mod.kin hk (thn (ha.run pos pins s σ H _ I h) fun us s1 ⟨vs, H1, I1, r, q⟩ => ⟨I1.kIn, ?_⟩) he hpl
  have q : sp vs H1 Q E0 := by
    have q : sp (vs ++ []) H1 Q E0 := q
    rw [List.append_nil] at q
    exact q
  have hl : us.length = ps.length := by rw [← r.length, F.many _ _ _ _ q]
  have hbs := hb s1 us I1.kIn (by rw [List.append_nil]; exact hl)
  rw [List.append_nil] at hbs
  refine wpAny_call (codeAny_mono (F.go X.A X.stack s1 H1 us vs Q E0 hG hr I1.env0 hbs r q) fun r s' hq => ?_)
  match r, hq with
  | .ok (.ret u), hq => exact I1.after hq
  | .error er, hq => exact (show False from hq).elim
  | .ok .next, hq => exact (show False from hq).elim
  | .ok .brk, hq => exact (show False from hq).elim
  | .ok .cont, hq => exact (show False from hq).elim
end
/-- the law's call, behind the top -/
theorem callG {P : Program} {w : World} {K : PySem.W.Frag} {mg mb : Str → Option Value} {k : Nat} {fa a : Addr} {fd : FuncData} {x : Str} {sp : Sp} {s₁ : Shared} {vs : List Value} {ns : List Int}
    (KX : K.In s₁.heap) (hns : s₁.heap.Ns mainGlobals mg) (hb : s₁.heap.Ns builtinsNs mb) (hbb : ∀ x : Str, x ≠ "__name__" → mb x = bootBuiltins x) (hlim : s₁.heap.NoLimit) (hg : s₁.gens = #[])
    (ha : s₁.heap.get? a = some { cls := .type "list", data := .seq vs.toArray }) (hi : IntsAre vs ns) (hl : ns.length ≤ sizeLine) (hr : Room k callerA)
    (F : ∀ base : Heap, K.In base → base.Ns mainGlobals mg → FnG P w K mg base k fa fd [x] sp) (hbind : ∀ (s : Shared) (u : Value), BindsTo s fd ⟨[u], []⟩ [(x, u)])
    (hsp : ∀ H : Hp, SqL K H a (ns.map V.int) → sp [.ref a] H (fun v _ => v = .bl true) fun _ _ _ => False) :
    codeAny (model P w) callerA (.call (.ref fa) ⟨[.ref a], []⟩) (fun r s' => r = .ok (.ret (.bool true)) ∧ OldK s₁.heap s'.heap ∧ s'.os = s₁.os ∧ AllBare s'.gens) s₁ := by
  have rv := vals_ints hi
  let z : HO := .frz { cls := .type "list", data := .seq vs.toArray } (.lst (ns.map V.int))
  -- the script is tracked unless it is one of the module's own objects
  let H : Hp := fun b => if b = a ∧ K.lookup a = none then some z else none
  have at_ : ∀ b u, H b = some u → b = a ∧ K.lookup a = none ∧ u = z := fun b u e => by
    by_cases q : b = a ∧ K.lookup a = none
    · have e : (if b = a ∧ K.lookup a = none then some z else none) = some u := e
      rw [if_pos q] at e
      exact ⟨q.1, q.2, (Option.some.inj e).symm⟩
    · have e : (if b = a ∧ K.lookup a = none then some z else none) = some u := e
      rw [if_neg q] at e
      cases e
  have hok : HOk P w H s₁.heap := fun b u e => by
    obtain ⟨rfl, _, rfl⟩ := at_ b u e
    exact ⟨ha, by rw [List.length_map]; exact hl, vs, _, rv, ha⟩
  have hS : SqL K H a (ns.map V.int) := by
    cases hk : K.lookup a with
    | none => exact .inl (.inr ⟨_, if_pos ⟨rfl, hk⟩⟩)
    | some o =>
      have e := KX a o hk
      rw [ha] at e
      cases e
      exact .inr ⟨_, vs.toArray, _, hk, rfl, rfl, rfl, by rw [List.size_toArray, hi.length]; exact hl, by simpa using rv⟩
  have free : ∀ {b : Addr} {o : Obj}, s₁.heap.get? b = some o → (∀ vs n, o.data ≠ .seq vs n) → H b = none := fun {b o} e d => by
    cases q : H b with
    | none => rfl
    | some u =>
      obtain ⟨rfl, _, _⟩ := at_ b u q
      rw [ha] at e
      cases e
      exact absurd rfl (d _ _)
  have dicts : ∀ {b : Addr} {m : Str → Option Value}, s₁.heap.Ns b m → (hidT s₁.heap H).Ns b m := fun {b m} ⟨o, es, ep, e, d, r⟩ => ⟨o, es, ep, hidT_get e (free e fun vs n q => by rw [d] at q; cases q), d, r⟩
  have kin : K.In (hidT s₁.heap H) := fun b o e => hidT_get (KX b o e) (by
    cases q : H b with
    | none => rfl
    | some u =>
      obtain ⟨rfl, n, _⟩ := at_ b u q
      rw [n] at e
      cases e)
  have M : Mod K mg (hidT s₁.heap H) := ⟨kin, dicts hns, ⟨mb, dicts hb, hbb⟩, let ⟨mc, h1, h2⟩ := hlim; ⟨mc, dicts h1, h2⟩⟩
  have e0 : Env0 P w K mg (hidT s₁.heap H) callerA [] s₁ H := ⟨rfl, M, fun b o e => of_hidT e, Nat.le_of_eq (hidT_size _ _), trivial, fun b hb => absurd (show b ∈ ([] : List Addr) from hb) (by simp), hok, AllBare.of_eq hg⟩
  refine codeAny_mono ((F _ kin (dicts hns)).go callerA [] s₁ H [.ref a] [.ref a] _ _ rfl hr e0 (hbind s₁ (.ref a)) (.cons rfl .nil) (hsp H hS)) fun r s' h => ?_
  match r, h with
  | .error e, h => exact (show False from h).elim
  | .ok .next, h => exact (show False from h).elim
  | .ok .brk, h => exact (show False from h).elim
  | .ok .cont, h => exact (show False from h).elim
  | .ok (.ret u), ⟨v, H', os, bare, un, hok', r', q⟩ =>
    have q : v = .bl true := q
    subst q
    obtain rfl : u = Value.bool true := r'
    refine ⟨rfl, OldK.of_keep fun b o e => ?_, os, bare⟩
    cases q : H b with
    | none => exact un.keep b o e q (fun z => absurd (show b ∈ ([] : List Addr) from z) (by simp)) (by simp)
    | some u =>
      obtain ⟨rfl, _, rfl⟩ := at_ b u q
      obtain ⟨e2, _⟩ := hok' b _ (un.frzs b _ _ q)
      rw [ha] at e
      cases e
      exact e2
end Ob
end
section
set_option linter.all false
set_option maxRecDepth 100000
set_option maxHeartbeats 4000000
namespace K
open PySem PySem.Spec PyProof.Rows L2
def top (i : Nat) : Stmt := PySem.Challenge.pw_onebasis_k00_errors_of_all_parts.main.body.getD i (.Pass ⟨0, 0, 0, 0⟩)
abbrev sBegun : Stmt := top 40
abbrev sMixed : Stmt := top 41
abbrev sTake : Stmt := top 42
abbrev sPick : Stmt := top 43
/-- the draws: what is left of a large number, the great ones, all numbers -/
structure DrawAt (H : Hp) (d l c : Addr) : Prop where
  ex : ∃ (rest turn : Int), 0 ≤ rest ∧ H d = some (.dK [(Sum.inr "large", .ref l), (Sum.inr "rest", .int rest), (Sum.inr "cells", .ref c), (Sum.inr "turn", .int turn)])
  large : ∃ ns : List Int, (∀ n ∈ ns, 0 ≤ n) ∧ ns.length ≤ 63 ∧ H l = some (.lst (ns.map V.int))
  cells : ∃ ns : List Int, (∀ n ∈ ns, 0 ≤ n) ∧ ns.length ≤ 63 ∧ H c = some (.lst (ns.map V.int))
  ne : l ≠ c
def spBegun (K : PySem.W.Frag) : Sp := fun vs H Q _ => ∃ (a : Addr) (ns : List Int), vs = [.ref a] ∧ SqL K H a (ns.map V.int) ∧ ns.length ≤ 63 ∧
  ∀ (d l c : Addr) (H' : Hp), Same H H' → DrawAt H' d l c → Q (.ref d) H'
section
variable {P : Program} {w : World} {K : PySem.W.Frag} {mg : Str → Option Value} {base : Heap}
theorem scB : FnScope ["script", "large", "grain"] ["script"] (defScope sBegun) := ⟨rfl, rfl, rfl, by decide +kernel, rfl, by decide +kernel, by decide +kernel⟩
theorem int_at {ns : List Int} {i : Nat} {x : V} (h : (ns.map V.int)[i]? = some x) : ∃ z, x = V.int z ∧ z ∈ ns := by
  rw [List.getElem?_map] at h
  cases e : ns[i]? with
  | none =>
    rw [e] at h
    cases h
  | some z =>
    rw [e] at h
    exact ⟨z, (Option.some.inj h).symm, List.mem_of_getElem? e⟩
theorem ok_begun {f : Addr} {fd : FuncData} (F : Fun K "_law_begun" "_law_begun" sBegun f fd) (hab : mg "abs" = none) : FnOk P w K mg base CX0 1 f fd ["script"] (spBegun K) := by
  refine F.ok scB (fun vs H Q E h => ?_) (fun cdv A outer s H vs Q E hr h => ?_)
  · obtain ⟨a, ns, rfl, _⟩ := h
    rfl
  · obtain ⟨a, ns, rfl, hS, hlen, k⟩ := h
    refine ⟨_, pss_cons (ps_setLc (i := 1) (own := [("grain", 2)]) (g := gName 2) rfl scB.nd rfl rfl (sw_true rfl rfl rfl (by decide +kernel)) (pi_list (pv 0)) (blkOk_by (N := ["script", "large", "grain"]) (sc := defScope sBegun) (by decide +kernel)) (fun _ _ _ _ _ => pg_name (i := 2) scB.nd rfl (Or.inl rfl))
        (fun _ _ _ _ _ => pts_one (pt_cmpR op_ge (pe_callB call_abs (by rfl) hab (by decide +kernel) (pa_cons (pv 2) pa_nil)) (pe_op op_pow pe_int pe_int) (nomark _)))
        (fun _ _ _ _ _ => pe_op op_sub (pe_callB call_abs (by rfl) hab (by decide +kernel) (pa_cons (pv 2) pa_nil)) (pe_op op_pow pe_int pe_int)))
      (pss_one (ps_ret (pe_disp (pps_cons pe_str (pv 1) (pps_cons pe_str pe_int (pps_cons pe_str
        (pe_lc (own := [("grain", 2)]) (g := gName 2) (tt := tYes) rfl scB.nd (pi_list (pv 0)) (blkOk_by (N := ["script", "large", "grain"]) (sc := defScope sBegun) (by decide +kernel)) (fun _ _ _ _ _ => pg_name (i := 2) scB.nd rfl (Or.inl rfl)) (fun _ _ _ _ _ => pts_nil)
          (fun _ _ _ _ _ => pe_callB call_abs (by rfl) hab (by decide +kernel) (pa_cons (pv 2) pa_nil))) (pps_cons pe_str pe_int pps_nil)))) rfl rfl (by simp) (by decide)))), ?_⟩
    -- large
    refine ⟨_, rfl, a, rfl, ⟨_, hS⟩, fun D hD => lc_list (K := K) (a := a) (xs := ns.map V.int) (fun i H2 => ∃ ms : List Int, (∀ m ∈ ms, 0 ≤ m) ∧ ms.length ≤ i ∧ H2 = upd H D (.lst (ms.map V.int)))
      ⟨[], by simp, Nat.le_refl _, rfl⟩ ?_ ?_ ?_⟩
    · rintro i H2 hi ⟨ms, _, _, rfl⟩
      exact Same.seq (fun b o e => by rw [upd_ne (ne_of_none e hD)]; exact e) hS
    · rintro i x H2 hx ⟨ms, hm, hl, rfl⟩
      obtain ⟨z, rfl, hz⟩ := int_at hx
      have hi := (List.getElem?_eq_some_iff.mp hx).1
      rw [List.length_map] at hi
      refine ⟨rfl, ?_⟩
      refine ⟨_, rfl, z, rfl, _, _, rfl, rfl, ⟨by decide, by decide, by decide⟩, _, _, rfl, rfl, _, rfl, ?_⟩
      refine ite2 (fun hb => ?_) (fun hb => ?_)
      · refine ⟨_, rfl, z, rfl, _, _, rfl, rfl, ⟨by decide, by decide, by decide⟩, _, _, rfl, rfl, ms.map V.int, upd_same, ?_, ms ++ [(if z < 0 then -z else z) - 10 ^ 18], ?_, ?_, ?_⟩
        · rw [List.length_map, sizeLine_eq]
          omega
        · intro m hm2
          rcases List.mem_append.mp hm2 with q | q
          · exact hm m q
          · rw [List.mem_singleton.mp q]
            have hb : (10 : Int) ^ (18 : Int).toNat ≤ (if z < 0 then -z else z) := of_decide_eq_true hb
            have e : (10 : Int) ^ (18 : Int).toNat = 10 ^ 18 := rfl
            omega
        · rw [List.length_append]
          simp only [List.length_singleton]
          omega
        · rw [upd_upd, List.map_append]
          rfl
      · exact ⟨ms, hm, Nat.le_succ_of_le hl, rfl⟩
    · rintro H2 ⟨ms, hm, hl, rfl⟩
      rw [List.length_map] at hl
      -- the dict
      refine fun d hd => ?_
      have hdD : d ≠ D := fun z => by
        rw [z, upd_same] at hd
        cases hd
      have hd0 : H d = none := by
        rw [upd_ne hdD] at hd
        exact hd
      let H1 : Hp := upd (upd H D (.lst (ms.map V.int))) d (.dK [])
      have s1 : Same H H1 := fun b o e => by
        show upd _ _ _ _ = _
        rw [upd_ne (ne_of_none e hd0), upd_ne (ne_of_none e hD)]
        exact e
      refine ⟨_, rfl, _, rfl, a, rfl, ⟨_, s1.seq hS⟩, fun c hc => lc_list (K := K) (a := a) (xs := ns.map V.int) (fun i H2 => ∃ ms : List Int, (∀ m ∈ ms, 0 ≤ m) ∧ ms.length ≤ i ∧ H2 = upd H1 c (.lst (ms.map V.int)))
        ⟨[], by simp, Nat.le_refl _, rfl⟩ ?_ ?_ ?_⟩
      · rintro i H2 hi ⟨ms, _, _, rfl⟩
        exact Same.seq (fun b o e => by rw [upd_ne (ne_of_none (s1 b o e) hc)]; exact s1 b o e) hS
      · rintro i x H2 hx ⟨ms2, hm2, hl2, rfl⟩
        obtain ⟨z, rfl, hz⟩ := int_at hx
        have hi := (List.getElem?_eq_some_iff.mp hx).1
        rw [List.length_map] at hi
        refine ⟨rfl, ?_⟩
        unfold tYes
        dsimp only
        rw [if_pos rfl]
        refine ⟨_, rfl, z, rfl, ms2.map V.int, upd_same, ?_, ms2 ++ [if z < 0 then -z else z], ?_, ?_, ?_⟩
        · rw [List.length_map, sizeLine_eq]
          omega
        · intro m hq
          rcases List.mem_append.mp hq with q | q
          · exact hm2 m q
          · rw [List.mem_singleton.mp q]
            split <;> omega
        · rw [List.length_append]
          simp only [List.length_singleton]
          omega
        · rw [upd_upd, List.map_append]
          rfl
      · rintro H2 ⟨ms2, hm2, hl2, rfl⟩
        rw [List.length_map] at hl2
        have hcd : c ≠ d := fun z => by
          have hc : H1 c = none := hc
          rw [z] at hc
          have : H1 d = some (.dK []) := upd_same
          rw [this] at hc
          cases hc
        have hcD : c ≠ D := fun z => by
          have hc : H1 c = none := hc
          rw [z] at hc
          have : H1 D = some (.lst (ms.map V.int)) := by
            show upd _ _ _ _ = _
            rw [upd_ne (Ne.symm hdD), upd_same]
          rw [this] at hc
          cases hc
        have hd2 : upd H1 c (.lst (ms2.map V.int)) d = some (.dK []) := by
          rw [upd_ne (Ne.symm hcd)]
          exact upd_same
        refine ⟨hd2, [(Sum.inr "large", .ref D), (Sum.inr "rest", .int 0), (Sum.inr "cells", .ref c), (Sum.inr "turn", .int 0)], rfl, (by show 4 ≤ 15; decide), ?_⟩
        refine k d D c _ (fun b o e => ?_) ⟨⟨0, 0, by decide, ?_⟩, ⟨ms, hm, by omega, ?_⟩, ⟨ms2, hm2, by omega, ?_⟩, Ne.symm hcD⟩
        · rw [upd_ne (ne_of_none e hd0), upd_ne (ne_of_none (s1 b o e) hc)]
          exact s1 b o e
        · rw [upd_same]
          congr 1
        · rw [upd_ne (Ne.symm hdD), upd_ne (Ne.symm hcD)]
          show upd _ _ _ _ = _
          rw [upd_ne (Ne.symm hdD), upd_same]
        · rw [upd_ne hcd, upd_same]
end
end K
end
section
set_option linter.all false
set_option maxRecDepth 100000
set_option maxHeartbeats 4000000
namespace K
open PySem PySem.Spec PyProof.Rows L2
/-- the dict of the draws -/
def dkv (l c : Addr) (rest turn : Int) : List (Key × V) := [(Sum.inr "large", .ref l), (Sum.inr "rest", .int rest), (Sum.inr "cells", .ref c), (Sum.inr "turn", .int turn)]
theorem dk_large (l c : Addr) (r t : Int) : valV (dkv l c r t) (Sum.inr "large") = some (.ref l) := rfl
theorem dk_rest (l c : Addr) (r t : Int) : valV (dkv l c r t) (Sum.inr "rest") = some (.int r) := rfl
theorem dk_cells (l c : Addr) (r t : Int) : valV (dkv l c r t) (Sum.inr "cells") = some (.ref c) := rfl
theorem dk_turn (l c : Addr) (r t : Int) : valV (dkv l c r t) (Sum.inr "turn") = some (.int t) := rfl
theorem dk_put_turn (l c : Addr) (r t z : Int) : putK (dkv l c r t) (Sum.inr "turn") (.int z) = dkv l c r z := rfl
theorem dk_put_rest (l c : Addr) (r t z : Int) : putK (dkv l c r t) (Sum.inr "rest") (.int z) = dkv l c z t := rfl
def spMixed : Sp := fun vs H Q _ => ∃ (d l c : Addr), vs = [.ref d] ∧ DrawAt H d l c ∧
  ∀ (r : Int) (H' : Hp), 0 ≤ r → DrawAt H' d l c → (∀ b o, H b = some o → b ≠ d → H' b = some o) → Q (.int r) H'
section
variable {P : Program} {w : World} {K : PySem.W.Frag} {mg : Str → Option Value} {base : Heap}
theorem scM : FnScope ["draw", "turn", "found", "great", "blend", "grain"] ["draw"] (defScope sMixed) := ⟨rfl, rfl, rfl, by decide +kernel, rfl, by decide +kernel, by decide +kernel⟩
theorem ok_mixed {f : Addr} {fd : FuncData} (F : Fun K "_law_mixed" "_law_mixed" sMixed f fd) (hint : mg "int" = none) : FnOk P w K mg base CX0 1 f fd ["draw"] spMixed := by
  refine F.ok scM (fun vs H Q E h => ?_) (fun cdv A outer s H vs Q E hr h => ?_)
  · obtain ⟨d, l, c, rfl, _⟩ := h
    rfl
  · obtain ⟨d, l, c, rfl, D, k⟩ := h
    have hu := hu_of hr
    refine ⟨_, pss_cons (ps_dput hu (pv 0) pe_str (pe_op op_add (pe_dget hu (pv 0) pe_str (fun _ _ => rfl)) pe_int) rfl)
      (pss_cons (ps_par (i := 1) (j := 2) rfl scM.nd rfl rfl (by decide) rfl rfl (pa_cons (pe_callTy call_int1 (by rfl) hint (by decide +kernel) (pa_cons (pe_dget hu (pv 0) pe_str (fun _ _ => rfl)) pa_nil)) (pa_cons pe_int pa_nil)) (by rfl))
      (pss_cons (ps_for PassesOwn.never rfl (pi_list (pe_lst (pa_cons pe_int (pa_cons pe_int (pa_cons pe_int pa_nil))))) (pg_name (i := 3) scM.nd rfl (Or.inl rfl))
        (pss_cons (ps_set (i := 4) scM.nd rfl (Or.inl rfl) (pe_op op_mod (pe_op op_add (pe_op op_mul (pv 1) pe_int) (pe_op op_fdiv (pv 3) pe_int)) (pv 3)))
        (pss_cons (ps_for PassesOwn.never rfl (pi_list (pe_dget hu (pv 0) pe_str (fun _ _ => rfl))) (pg_name (i := 5) scM.nd rfl (Or.inl rfl))
          (pss_one (ps_set (i := 4) scM.nd rfl (Or.inl rfl) (pe_op op_mod (pe_op op_add (pe_op op_mul (pv 4) pe_int) (pe_callTy call_int1 (by rfl) hint (by decide +kernel) (pa_cons (pv 5) pa_nil))) (pv 3)))))
        (pss_one (ps_set (i := 2) scM.nd rfl (Or.inl rfl) (pe_op op_add (pe_op op_mul (pv 2) pe_int) (pe_op op_mod (pe_op op_pow (pv 4) pe_int) (pv 3))))))))
      (pss_one (ps_ret (pv 2))))), ?_⟩
    obtain ⟨⟨rest, turn, h0, hd⟩, hl, ⟨cs, hcs, hcl, hcc⟩, ne⟩ := id D
    have hd : H d = some (.dK (dkv l c rest turn)) := hd
    have hz : (dkv l c rest turn).length < sizeLine := by show 4 < sizeLine; decide
    have ncd : c ≠ d := ne_of hcc hd (by intro z; cases z)
    let H1 : Hp := upd H d (.dK (dkv l c rest (turn + 1)))
    have hd1 : H1 d = some (.dK (dkv l c rest (turn + 1))) := upd_same
    refine ⟨_, rfl, d, _, rfl, DGet.k (k := Sum.inr "turn") hd, _, _, rfl, rfl, _, rfl, d, H1, rfl, DPut.k (k := Sum.inr "turn") hd hz, ?_⟩
    refine ⟨_, rfl, d, _, rfl, DGet.k (k := Sum.inr "turn") hd1, .inl ⟨_, rfl, _, _, rfl, ?_⟩⟩
    refine ⟨by show 3 ≤ sizeLine; decide, fun p hp => ?_⟩
    let H3 : Hp := upd H1 p (.lst [.int 2147483629, .int 2147483587, .int 2147483579])
    have npd : d ≠ p := ne_of_none hd1 hp
    have hd3 : H3 d = some (.dK (dkv l c rest (turn + 1))) := (upd_ne npd).trans hd1
    have hc1 : H1 c = some (.lst (cs.map V.int)) := (upd_ne ncd).trans hcc
    have hc3 : H3 c = some (.lst (cs.map V.int)) := (upd_ne (ne_of_none hc1 hp)).trans hc1
    have hp3 : H3 p = some (.lst [.int 2147483629, .int 2147483587, .int 2147483579]) := upd_same
    refine ⟨p, rfl, ⟨_, SqL.of hp3⟩, for_list (K := K) (a := p) (xs := [.int 2147483629, .int 2147483587, .int 2147483579]) (fun i σ H2 => ∃ (fo : Int) (v3 v4 v5 : Option V), σ = [some (.ref d), some (.int (turn + 1)), some (.int fo), v3, v4, v5] ∧ 0 ≤ fo ∧ H2 = H3)
      ⟨0, none, none, none, rfl, by decide, rfl⟩ ?_ ?_ ?_⟩
    · rintro i σ H2 _ ⟨_, _, _, _, _, _, rfl⟩
      exact SqL.of hp3
    · rintro i x σ H2 hx ⟨fo, v3, v4, v5, rfl, hfo, rfl⟩
      obtain ⟨g, rfl, hg0, hg1⟩ : ∃ g : Int, x = V.int g ∧ 0 < g ∧ g < 2147483648 := by
        rcases i with _ | _ | _ | i
        · exact ⟨_, (Option.some.inj hx).symm, by decide, by decide⟩
        · exact ⟨_, (Option.some.inj hx).symm, by decide, by decide⟩
        · exact ⟨_, (Option.some.inj hx).symm, by decide, by decide⟩
        · cases hx
      refine ⟨_, rfl, _, _, rfl, rfl, .inr ⟨by decide, by decide⟩, _, rfl, _, _, rfl, rfl, ⟨by decide, by decide⟩, _, _, rfl, rfl, _, rfl, _, _, rfl, rfl, hg0, ?_⟩
      refine ⟨_, rfl, d, _, rfl, DGet.k (k := Sum.inr "cells") hd3, c, rfl, ⟨_, SqL.of hc3⟩, for_list (K := K) (a := c) (xs := cs.map V.int) (fun i σ H2 => ∃ (bl : Int) (v5 : Option V), σ = [some (.ref d), some (.int (turn + 1)), some (.int fo), some (.int g), some (.int bl), v5] ∧ 0 ≤ bl ∧ bl < g ∧ H2 = H3)
        ⟨_, v5, rfl, Int.emod_nonneg _ (by omega), Int.emod_lt_of_pos _ hg0, rfl⟩ ?_ ?_ ?_⟩
      · rintro i σ H2 _ ⟨_, _, _, _, _, rfl⟩
        exact SqL.of hc3
      · rintro j y σ H2 hy ⟨bl, v5, rfl, hb0, hb1, rfl⟩
        obtain ⟨z, rfl, hzc⟩ := int_at hy
        refine ⟨_, rfl, _, _, rfl, rfl, .inr ⟨by decide, by decide⟩, _, rfl, .inl ⟨_, rfl, _, _, rfl, rfl, _, rfl, _, _, rfl, rfl, hg0, ?_⟩⟩
        exact ⟨_, _, rfl, Int.emod_nonneg _ (by omega), Int.emod_lt_of_pos _ hg0, rfl⟩
      · rintro σ H2 ⟨bl, v5, rfl, hb0, hb1, rfl⟩
        refine ⟨_, rfl, _, _, rfl, rfl, .inr ⟨by decide, by decide⟩, _, rfl, _, _, rfl, rfl, ⟨by decide, by decide, by omega⟩, _, rfl, _, _, rfl, rfl, hg0, _, _, rfl, rfl, ?_⟩
        refine ⟨_, _, _, _, rfl, ?_, rfl⟩
        have h1 : 0 ≤ bl ^ (5 : Int).toNat % g := Int.emod_nonneg _ (by omega)
        omega
    · rintro σ H2 ⟨fo, v3, v4, v5, rfl, hfo, rfl⟩
      refine ⟨_, rfl, k fo H3 hfo ⟨⟨rest, turn + 1, h0, hd3⟩, ?_, ⟨cs, hcs, hcl, hc3⟩, ne⟩ fun b o e hb => ?_⟩
      · obtain ⟨ns, a1, a2, a3⟩ := hl
        have nld : l ≠ d := ne_of a3 hd (by intro z; cases z)
        have hl1 : H1 l = some (.lst (ns.map V.int)) := (upd_ne nld).trans a3
        exact ⟨ns, a1, a2, (upd_ne (ne_of_none hl1 hp)).trans hl1⟩
      · have e1 : H1 b = some o := (upd_ne hb).trans e
        exact (upd_ne (ne_of_none e1 hp)).trans e1
end
end K
end
section
set_option linter.all false
set_option maxRecDepth 100000
set_option maxHeartbeats 4000000
namespace K
open PySem PySem.Spec PyProof.Rows L2
def spTake : Sp := fun vs H Q _ => ∃ (d l c : Addr) (n : Int), vs = [.ref d, .int n] ∧ DrawAt H d l c ∧ 0 < n ∧ n < 1073741824 ∧
  ∀ (r : Int) (H' : Hp), 0 ≤ r → r < n → DrawAt H' d l c → (∀ b o, H b = some o → b ≠ d → b ≠ l → H' b = some o) → Q (.int r) H'
theorem dp_ints {K : PySem.W.Frag} {H : Hp} : ∀ ns : List Int, DpAll K H (ns.map V.int) (ns.map PyData.int)
  | [] => .nil
  | n :: ns => .cons (.int n) (dp_ints ns)
theorem ints_lay : ∀ ns : List Int, PyData.canLay0 (.list (ns.map PyData.int)) = true ∧ (PyData.list (ns.map PyData.int)).depth ≤ 1
  | [] => ⟨by simp [PyData.canLay0, PyData.canLayAll0], by simp [PyData.depth, PyData.depthAll]⟩
  | n :: ns => by
    obtain ⟨h1, h2⟩ := ints_lay ns
    simp only [List.map_cons, PyData.canLay0, PyData.canLayAll0, PyData.depth, PyData.depthAll] at h1 h2 ⊢
    refine ⟨by simp [h1], by omega⟩
theorem ints_shaped (ns : List Int) : SeqAt.shaped (.list (ns.map PyData.int)) = true := by
  unfold SeqAt.shaped
  rw [(ints_lay ns).1, Bool.true_and]
  exact decide_eq_true (Nat.le_trans (ints_lay ns).2 (by decide))
section
variable {P : Program} {w : World} {K : PySem.W.Frag} {mg : Str → Option Value} {base : Heap}
theorem scT : FnScope ["draw", "amount", "found"] ["draw", "amount"] (defScope sTake) := ⟨rfl, rfl, rfl, by decide +kernel, rfl, by decide +kernel, by decide +kernel⟩
theorem ok_take {f fM : Addr} {fd fdM : FuncData} (F : Fun K "_law_take" "_law_take" sTake f fd) (FM : Fun K "_law_mixed" "_law_mixed" sMixed fM fdM) (bM : Binds K fdM ["draw"] []) (gM : mg "_law_mixed" = some (.ref fM)) (hint : mg "int" = none) :
    FnOk P w K mg base CX0 2 f fd ["draw", "amount"] spTake := by
  have GM : FnOk P w K mg base CX0 1 fM fdM ["draw"] spMixed := ok_mixed FM hint
  refine F.ok scT (fun vs H Q E h => ?_) (fun cdv A outer s H vs Q E hr h => ?_)
  · obtain ⟨d, l, c, n, rfl, _⟩ := h
    rfl
  · obtain ⟨d, l, c, n, rfl, D, hn0, hn1, k⟩ := h
    have hu := hu_of hr
    have hu64 : (A.deeper (envOfC "_law_take" (defScope sTake) s.heap.objs.size f cdv)).units + 64 < cLine := hr.units
    refine ⟨_, pss_cons (ps_if (pt_cmpR op_eq (pe_dget hu (pv 0) pe_str (fun _ _ => rfl)) pe_int (nomark _))
        (pss_one (ps_dput hu (pv 0) pe_str (pe_ifExp (pt_cmpR (op_neD hu64) (pe_dget hu (pv 0) pe_str (fun _ _ => rfl)) (pe_lst pa_nil) (nomark _))
          (pe_bm PySem.F.plainAttrs_list PySem.F.slot_list_pop PySem.F.type_list_pop mt_popAt (pe_dget hu (pv 0) pe_str (fun _ _ => rfl)) (pa_cons pe_int pa_nil))
          (pe_call GM hr rfl gM FM.kp bM .nil pass0 (pa_cons (pv 0) pa_nil))) rfl)) pss_nil)
      (pss_cons (ps_set (i := 2) scT.nd rfl (Or.inl rfl) (pe_op op_mod (pe_callTy call_int1 (by rfl) hint (by decide +kernel) (pa_cons (pe_dget hu (pv 0) pe_str (fun _ _ => rfl)) pa_nil)) (pv 1)))
      (pss_cons (ps_dput hu (pv 0) pe_str (pe_op op_fdiv (pe_callTy call_int1 (by rfl) hint (by decide +kernel) (pa_cons (pe_dget hu (pv 0) pe_str (fun _ _ => rfl)) pa_nil)) (pv 1)) rfl)
      (pss_one (ps_ret (pv 2))))), ?_⟩
    -- the second half, from a state with a rest
    have half : ∀ (H2 : Hp), DrawAt H2 d l c → (∀ b o, H b = some o → b ≠ d → b ≠ l → H2 b = some o) →
        tSeq (tAsg (tOp (rI (fun x j => 0 < j) fun i j => V.int (i % j)) (tCB (fun xs H Q => (∃ i, xs = [V.int i] ∧ Q (V.int i) H) ∨ ∃ k, xs = [V.bl k] ∧ Q (V.int (if k = true then 1 else 0)) H) (tCons (tDGet (tVar 0) (tC (V.str "rest"))) tNil)) (tVar 1)) (gName 2))
          (tSeq (sDPut (tVar 0) (tC (V.str "rest")) (tOp (rI CDiv fun i j => V.int (i / j)) (tCB (fun xs H Q => (∃ i, xs = [V.int i] ∧ Q (V.int i) H) ∨ ∃ k, xs = [V.bl k] ∧ Q (V.int (if k = true then 1 else 0)) H) (tCons (tDGet (tVar 0) (tC (V.str "rest"))) tNil)) (tVar 1)))
            (tRet (tVar 2))) { nx := fun _ H' => Q .non H', rt := Q } [some (.ref d), some (.int n), none] H2 := by
      intro H2 D2 kp
      obtain ⟨⟨rest, turn, h0, hd⟩, hl, hc, ne⟩ := id D2
      have hd : H2 d = some (.dK (dkv l c rest turn)) := hd
      have hz : (dkv l c rest turn).length < sizeLine := by show 4 < sizeLine; decide
      refine ⟨_, rfl, d, _, rfl, DGet.k (k := Sum.inr "rest") hd, .inl ⟨_, rfl, _, rfl, _, _, rfl, rfl, hn0, ?_⟩⟩
      refine ⟨_, rfl, d, _, rfl, DGet.k (k := Sum.inr "rest") hd, .inl ⟨_, rfl, _, rfl, _, _, rfl, rfl, ⟨hn0, hn1⟩, _, rfl, d, upd H2 d (.dK (dkv l c (rest / n) turn)), rfl, DPut.k (k := Sum.inr "rest") hd hz, ?_⟩⟩
      refine ⟨_, rfl, k (rest % n) _ (Int.emod_nonneg _ (by omega)) (Int.emod_lt_of_pos _ hn0) ⟨⟨rest / n, turn, Int.ediv_nonneg h0 (by omega), upd_same⟩, ?_, ?_, ne⟩ fun b o e h1 h2 => ?_⟩
      · obtain ⟨ns, a1, a2, a3⟩ := hl
        exact ⟨ns, a1, a2, (upd_ne (ne_of a3 hd (by intro z; cases z))).trans a3⟩
      · obtain ⟨ns, a1, a2, a3⟩ := hc
        exact ⟨ns, a1, a2, (upd_ne (ne_of a3 hd (by intro z; cases z))).trans a3⟩
      · exact (upd_ne h1).trans (kp b o e h1 h2)
    obtain ⟨⟨rest, turn, h0, hd⟩, ⟨ns, n1, n2, hl⟩, hc, ne⟩ := id D
    have hd : H d = some (.dK (dkv l c rest turn)) := hd
    have hz : (dkv l c rest turn).length < sizeLine := by show 4 < sizeLine; decide
    refine ⟨_, rfl, d, _, rfl, DGet.k (k := Sum.inr "rest") hd, rfl, _, rfl, ?_⟩
    refine ite2 (fun hb => ?_) (fun hb => ?_)
    · refine ⟨_, rfl, d, _, rfl, DGet.k (k := Sum.inr "large") hd, by show 0 ≤ sizeLine; decide, fun p hp => ?_⟩
      have npl : l ≠ p := ne_of_none hl hp
      have npd : d ≠ p := ne_of_none hd hp
      obtain ⟨cs, c1, c2, hcc⟩ := id hc
      have npc : c ≠ p := ne_of_none hcc hp
      let H1 : Hp := upd H p (.lst [])
      have hl1 : H1 l = some (.lst (ns.map V.int)) := (upd_ne npl).trans hl
      have hd1 : H1 d = some (.dK (dkv l c rest turn)) := (upd_ne npd).trans hd
      have hc1 : H1 c = some (.lst (cs.map V.int)) := (upd_ne npc).trans hcc
      have k1 : ∀ b o, H b = some o → H1 b = some o := fun b o e => (upd_ne (ne_of_none e hp)).trans e
      have D1 : DrawAt H1 d l c := ⟨⟨rest, turn, h0, hd1⟩, ⟨ns, n1, n2, hl1⟩, ⟨cs, c1, c2, hc1⟩, ne⟩
      have nld : l ≠ d := ne_of hl hd (by intro z; cases z)
      have ncd : c ≠ d := ne_of hcc hd (by intro z; cases z)
      cases ns with
      | nil =>
        refine ⟨.list [], .list [], .lst (SqL.of hl1) .nil, .lst (SqL.of upd_same) .nil, by decide +kernel, by decide +kernel, _, rfl, ?_⟩
        show (if (false : Bool) = true then _ else _)
        refine iteF ?_
        refine ⟨_, rfl, d, l, c, rfl, D1, fun r H2 hr0 D2 kp => ?_⟩
        obtain ⟨⟨rest2, turn2, _, hd2⟩, ⟨ns2, m1, m2, hl2⟩, ⟨cs2, e1, e2, hc2⟩, _⟩ := id D2
        have hd2 : H2 d = some (.dK (dkv l c rest2 turn2)) := hd2
        refine ⟨_, rfl, d, _, rfl, DPut.k (k := Sum.inr "rest") hd2 hz, half _ ⟨⟨r, turn2, hr0, upd_same⟩, ⟨ns2, m1, m2, (upd_ne nld).trans hl2⟩, ⟨cs2, e1, e2, (upd_ne ncd).trans hc2⟩, ne⟩ fun b o e h1 h2 => ?_⟩
        exact (upd_ne h1).trans (kp b o (k1 b o e) h1)
      | cons m ns =>
        refine ⟨.list ((m :: ns).map PyData.int), .list [], .lst (SqL.of hl1) (dp_ints _), .lst (SqL.of upd_same) .nil, ints_shaped _, by decide +kernel, _, rfl, ?_⟩
        have e : (!PyData.eqv (.list ((m :: ns).map PyData.int)) (.list [])) = true := by simp [PyData.eqv, PyData.eqvAll]
        rw [e]
        refine iteT ?_
        refine ⟨_, rfl, d, _, rfl, DGet.k (k := Sum.inr "large") hd1, .inl ⟨rfl, _, .inl (.inl hl1)⟩, l, _, 0, 0, .int m, rfl, rfl, hl1, by decide, by decide, by simp [seqIndex?], rfl, ?_⟩
        have hd2 : upd H1 l (.lst (((m :: ns).map V.int).eraseIdx 0)) d = some (.dK (dkv l c rest turn)) := (upd_ne (Ne.symm nld)).trans hd1
        refine ⟨_, rfl, d, _, rfl, DPut.k (k := Sum.inr "rest") hd2 hz, half _ ⟨⟨m, turn, n1 m (by simp), upd_same⟩, ⟨ns, fun q hq => n1 q (by simp [hq]), by simp only [List.length_cons] at n2; omega, ?_⟩, ⟨cs, c1, c2, ?_⟩, ne⟩ fun b o e h1 h2 => ?_⟩
        · rw [upd_ne nld, upd_same]
          rfl
        · rw [upd_ne ncd, upd_ne (Ne.symm ne)]
          exact hc1
        · rw [upd_ne h1, upd_ne h2]
          exact k1 b o e
    · exact half H D fun b o e _ _ => e
end
end K
end
section
set_option linter.all false
set_option maxRecDepth 100000
set_option maxHeartbeats 4000000
namespace K
open PySem PySem.Spec PyProof.Rows L2
/-- the frame of a draw: all but the draws' own two objects stands -/
def Kept (H H' : Hp) (d l : Addr) : Prop := ∀ b o, H b = some o → b ≠ d → b ≠ l → H' b = some o
def spPick : Sp := fun vs H Q _ => ∃ (d l c q : Addr) (xs : List V), vs = [.ref d, .ref q] ∧ DrawAt H d l c ∧ H q = some (.lst xs) ∧ q ≠ l ∧ 0 < xs.length ∧ xs.length < 1000 ∧
  ∀ (i : Nat) (v : V) (H' : Hp), xs[i]? = some v → DrawAt H' d l c → Kept H H' d l → Q v H'
section
variable {P : Program} {w : World} {K : PySem.W.Frag} {mg : Str → Option Value} {base : Heap}
theorem scP : FnScope ["draw", "some"] ["draw", "some"] (defScope sPick) := ⟨rfl, rfl, rfl, by decide +kernel, rfl, by decide +kernel, by decide +kernel⟩
theorem ok_pick {f fT : Addr} {fd fdT : FuncData} (F : Fun K "_law_pick" "_law_pick" sPick f fd) (FT : Fun K "_law_take" "_law_take" sTake fT fdT) (GT : FnOk P w K mg base CX0 2 fT fdT ["draw", "amount"] spTake) (bT : Binds K fdT ["draw", "amount"] []) (gT : mg "_law_take" = some (.ref fT)) (hlen : mg "len" = none) :
    FnOk P w K mg base CX0 3 f fd ["draw", "some"] spPick := by
  refine F.ok scP (fun vs H Q E h => ?_) (fun cdv A outer s H vs Q E hr h => ?_)
  · obtain ⟨d, l, c, q, xs, rfl, _⟩ := h
    rfl
  · obtain ⟨d, l, c, q, xs, rfl, D, hq, nql, hx0, hx1, k⟩ := h
    refine ⟨_, pss_one (ps_ret (pe_ix ix_list (pv 1) (pe_call GT hr rfl gT FT.kp bT .nil pass0 (pa_cons (pv 0) (pa_cons (pe_callB call_len_seq (by rfl) hlen PySem.boot_len (pa_cons (pv 1) pa_nil)) pa_nil))) (fun _ _ => rfl))), ?_⟩
    obtain ⟨⟨rest, turn, h0, hd⟩, hl, hc, ne⟩ := id D
    have nqd : q ≠ d := ne_of hq hd (by intro z; cases z)
    refine ⟨_, rfl, _, rfl, _, rfl, q, _, rfl, .inl (SqL.of hq), d, l, c, _, rfl, D, by omega, by omega, fun r H' h1 h2 D' kp => ?_⟩
    obtain ⟨i, rfl⟩ : ∃ i : Nat, r = i := ⟨r.toNat, by omega⟩
    have hi : i < xs.length := by omega
    refine ⟨q, _, _, xs[i], rfl, rfl, SqL.of (kp q _ hq nqd nql), atI_nat (by simp [hi]), ?_⟩
    exact k i _ H' (by simp [hi]) D' kp
end
end K
end
section
set_option linter.all false
set_option maxRecDepth 100000
set_option maxHeartbeats 8000000
namespace K
open PySem PySem.Spec PyProof.Rows L2 Ob
abbrev sAny : Stmt := top 44
abbrev sKinds : Stmt := top 45
abbrev sPlain : Stmt := top 46
abbrev sOwn : Stmt := top 47
abbrev sLaw : Stmt := top 48
/-- the classes by number: the law's own sequence, then BasisError -/
def nmL : List String := ["BadBits", "NotFlat", "BadChords", "BadMove", "NoSquare", "BadSides", "BadEntries", "BadEdit", "BadQuestion", "BadDeed", "BadBench", "BadLine", "BadTies", "BadRoad", "NoEdge", "BadCourse", "BadNumber", "BadRule", "BadWeb", "TooMany", "BadAffine", "BadProduct", "NotAffine", "NotProduct", "NotShort", "NoClass", "BadForm", "BadGate", "BadBasis", "BadLot", "BadFormula", "BadText", "NotLet", "BadDeedLine", "NoForm", "BadLive", "BadLog", "BasisError"]
def nm (i : Nat) : Str := PySem.Str.ofString (nmL.getD i "")
/-- what the classes from 16 on are made of -/
def pnL : List String := ["part", "part", "part", "most", "part", "part", "place", "place", "place", "place", "part", "part", "part", "part", "part", "at", "why", "number", "place", "part", "at"]
def pn (i : Nat) : Str := PySem.Str.ofString (pnL.getD (i - 16) "")
/-- a class with an __init__ of its own -/
structure Own (P : Program) (K : PySem.W.Frag) (mg : Str → Option Value) (C : Addr) (part : Str) : Prop where
  ex : ∃ (fI : Addr) (fd : FuncData), InitK P K mg C fI part part fd ∧ PySem.W.findIn K (.ref C) "__init__" = some (some (.ref fI)) ∧ PySem.W.typeIn K (.ref fI) = some (.type "function") ∧
    L2.Binds K fd ["self", part] [] ∧ (∀ (s : Shared) (a v : Value), BindsTo s fd ⟨[a], [(part, v)]⟩ [("self", a), (part, v)]) ∧ XfC K C
structure Cl (P : Program) (K : PySem.W.Frag) (mg : Str → Option Value) (cs : Nat → Addr) : Prop where
  g : ∀ i, i < 38 → mg (nm i) = some (.ref (cs i))
  exc : ∀ i, i < 38 → ExcC K (cs i)
  kit : ∀ i j, i < 38 → j < 37 → PySem.W.kitOne K (.ref (cs i)) (.ref (cs j)) = some (decide (j = i))
  kitB : ∀ i, i < 38 → PySem.W.kitOne K (.ref (cs i)) (.ref (cs 37)) = some true
  kitV : ∀ i, i < 38 → PySem.W.kitOne K (.ref (cs i)) (.type "ValueError") = some true
  plain : ∀ i, i < 16 ∨ i = 37 → PySem.W.excIn K (cs i) HandSPX.veTail "ValueError.__new__" = true ∧ PySem.W.keepIn K (.ref (cs i)) = true
  own : ∀ i, 16 ≤ i → i < 37 → Own P K mg (cs i) (pn i)
  isi : mg "isinstance" = none
theorem xc_same {H H' : Hp} {a C : Addr} (h : XcAt H a C) (s : ∀ b o, H b = some o → H' b = some o) : XcAt H' a C := by
  rcases h with ⟨od, ha, h⟩ | ha
  · refine .inl ⟨od, s _ _ ha, h.imp id ?_⟩
    rintro ⟨d, fs, e, hd⟩
    exact ⟨d, fs, e, s _ _ hd⟩
  · exact .inr (s _ _ ha)
/-! ### the kinds of an error -/
abbrev t_isi (K : PySem.W.Frag) (cs : Nat → Addr) (is : List Nat) : TA := is.foldr (fun i t => tCons (tCB (rIsX K) (tCons (tVar 0) (tCons (tC (.ref (cs i))) tNil))) t) tNil
section
variable {P : Program} {w : World} {K : PySem.W.Frag} {mg : Str → Option Value} {base : Heap} {cs : Nat → Addr}
theorem isi_read (T : Cl P K mg cs) {e : Addr} {j : Nat} (hj : j < 38) {σ : L2.St} {H : Hp} (h0 : σ[0]? = some (some (.ref e))) (hx : XcAt H e (cs j)) : ∀ (is : List Nat) (Q : List V → Hp → Prop), (∀ i ∈ is, i < 37) → Q (is.map fun i => .bl (decide (i = j))) H → t_isi K cs is σ H Q
  | [], Q, _, q => q
  | i :: is, Q, hi, q => ⟨_, h0, e, cs j, .ref (cs i), .ref (cs i), decide (i = j), rfl, hx, T.exc j hj, fun _ r => r, T.kit j i hj (hi i (by simp)), isi_read T hj h0 hx is (fun vs H' => Q (.bl (decide (i = j)) :: vs) H') (fun k hk => hi k (by simp [hk])) q⟩
theorem kinds_step (T : Cl P K mg cs) {e l : Addr} {j : Nat} (hj : j < 38) {σ : L2.St} {H : Hp} {xs : List V} {D : Ends} (h0 : σ[0]? = some (some (.ref e))) (hx : XcAt H e (cs j)) (h1 : σ[1]? = some (some (.ref l))) (hl : H l = some (.lst xs)) (is : List Nat) (hi : ∀ i ∈ is, i < 37)
    (hz : xs.length + is.length ≤ 1000) (k : ∀ q H', Same H H' → H' q = some (.lst (xs ++ is.map fun i => .bl (decide (i = j)))) → D.nx (σ.set 1 (some (.ref q))) H') :
    tAsg (tOp rCat (tVar 1) (tLst (t_isi K cs is))) (gName 1) D σ H := by
  refine ⟨_, h1, isi_read T hj h0 hx is _ hi ⟨?_, fun p hp => ?_⟩⟩
  · rw [List.length_map, sizeLine_eq]
    omega
  · have npl : l ≠ p := ne_of_none hl hp
    refine ⟨l, p, _, _, rfl, rfl, (upd_ne npl).trans hl, upd_same, ?_, fun q hq => k q _ (fun b o ho => ?_) upd_same⟩
    · rw [List.length_map, sizeLine_eq]
      omega
    · rw [upd_ne (ne_of_none (show upd H p _ b = some o from (upd_ne (ne_of_none ho hp)).trans ho) hq), upd_ne (ne_of_none ho hp)]
      exact ho
def spKinds (cs : Nat → Addr) : Sp := fun vs H Q _ => ∃ (e : Addr) (j : Nat), vs = [.ref e] ∧ j < 38 ∧ XcAt H e (cs j) ∧ ∀ q H', Same H H' → H' q = some (.lst ((List.range 37).map fun i => .bl (decide (i = j)))) → Q (.ref q) H'
theorem scK : FnScope ["error", "found"] ["error"] (defScope sKinds) := ⟨rfl, rfl, rfl, by decide +kernel, rfl, by decide +kernel, by decide +kernel⟩
theorem ok_kinds {f : Addr} {fd : FuncData} (F : Fun K "_law_kinds" "_law_kinds" sKinds f fd) (T : Cl P K mg cs) : FnOk P w K mg base CX0 1 f fd ["error"] (spKinds cs) := by
  refine F.ok scK (fun vs H Q E h => ?_) (fun cdv A outer s H vs Q E hr h => ?_)
  · obtain ⟨e, j, rfl, _⟩ := h
    rfl
  · obtain ⟨e, j, rfl, hj, hx, k⟩ := h
    refine ⟨_, pss_cons (ps_set (i := 1) scK.nd rfl (Or.inl rfl) (pe_lst pa_nil))
      (pss_cons (ps_set (i := 1) scK.nd rfl (Or.inl rfl) (pe_op op_cat (pv 1) (pe_lst (pa_cons (pe_callB call_isX (by rfl) T.isi (by decide +kernel) (pa_cons (pv 0) (pa_cons (pe_glob (v := .ref (cs 0)) rfl (T.g 0 (by decide)) rfl) pa_nil))) (pa_cons (pe_callB call_isX (by rfl) T.isi (by decide +kernel) (pa_cons (pv 0) (pa_cons (pe_glob (v := .ref (cs 1)) rfl (T.g 1 (by decide)) rfl) pa_nil))) (pa_cons (pe_callB call_isX (by rfl) T.isi (by decide +kernel) (pa_cons (pv 0) (pa_cons (pe_glob (v := .ref (cs 2)) rfl (T.g 2 (by decide)) rfl) pa_nil))) pa_nil))))))
      (pss_cons (ps_set (i := 1) scK.nd rfl (Or.inl rfl) (pe_op op_cat (pv 1) (pe_lst (pa_cons (pe_callB call_isX (by rfl) T.isi (by decide +kernel) (pa_cons (pv 0) (pa_cons (pe_glob (v := .ref (cs 3)) rfl (T.g 3 (by decide)) rfl) pa_nil))) (pa_cons (pe_callB call_isX (by rfl) T.isi (by decide +kernel) (pa_cons (pv 0) (pa_cons (pe_glob (v := .ref (cs 4)) rfl (T.g 4 (by decide)) rfl) pa_nil))) (pa_cons (pe_callB call_isX (by rfl) T.isi (by decide +kernel) (pa_cons (pv 0) (pa_cons (pe_glob (v := .ref (cs 5)) rfl (T.g 5 (by decide)) rfl) pa_nil))) pa_nil))))))
      (pss_cons (ps_set (i := 1) scK.nd rfl (Or.inl rfl) (pe_op op_cat (pv 1) (pe_lst (pa_cons (pe_callB call_isX (by rfl) T.isi (by decide +kernel) (pa_cons (pv 0) (pa_cons (pe_glob (v := .ref (cs 6)) rfl (T.g 6 (by decide)) rfl) pa_nil))) (pa_cons (pe_callB call_isX (by rfl) T.isi (by decide +kernel) (pa_cons (pv 0) (pa_cons (pe_glob (v := .ref (cs 7)) rfl (T.g 7 (by decide)) rfl) pa_nil))) pa_nil)))))
      (pss_cons (ps_set (i := 1) scK.nd rfl (Or.inl rfl) (pe_op op_cat (pv 1) (pe_lst (pa_cons (pe_callB call_isX (by rfl) T.isi (by decide +kernel) (pa_cons (pv 0) (pa_cons (pe_glob (v := .ref (cs 8)) rfl (T.g 8 (by decide)) rfl) pa_nil))) (pa_cons (pe_callB call_isX (by rfl) T.isi (by decide +kernel) (pa_cons (pv 0) (pa_cons (pe_glob (v := .ref (cs 9)) rfl (T.g 9 (by decide)) rfl) pa_nil))) (pa_cons (pe_callB call_isX (by rfl) T.isi (by decide +kernel) (pa_cons (pv 0) (pa_cons (pe_glob (v := .ref (cs 10)) rfl (T.g 10 (by decide)) rfl) pa_nil))) pa_nil))))))
      (pss_cons (ps_set (i := 1) scK.nd rfl (Or.inl rfl) (pe_op op_cat (pv 1) (pe_lst (pa_cons (pe_callB call_isX (by rfl) T.isi (by decide +kernel) (pa_cons (pv 0) (pa_cons (pe_glob (v := .ref (cs 11)) rfl (T.g 11 (by decide)) rfl) pa_nil))) (pa_cons (pe_callB call_isX (by rfl) T.isi (by decide +kernel) (pa_cons (pv 0) (pa_cons (pe_glob (v := .ref (cs 12)) rfl (T.g 12 (by decide)) rfl) pa_nil))) (pa_cons (pe_callB call_isX (by rfl) T.isi (by decide +kernel) (pa_cons (pv 0) (pa_cons (pe_glob (v := .ref (cs 13)) rfl (T.g 13 (by decide)) rfl) pa_nil))) pa_nil))))))
      (pss_cons (ps_set (i := 1) scK.nd rfl (Or.inl rfl) (pe_op op_cat (pv 1) (pe_lst (pa_cons (pe_callB call_isX (by rfl) T.isi (by decide +kernel) (pa_cons (pv 0) (pa_cons (pe_glob (v := .ref (cs 14)) rfl (T.g 14 (by decide)) rfl) pa_nil))) (pa_cons (pe_callB call_isX (by rfl) T.isi (by decide +kernel) (pa_cons (pv 0) (pa_cons (pe_glob (v := .ref (cs 15)) rfl (T.g 15 (by decide)) rfl) pa_nil))) (pa_cons (pe_callB call_isX (by rfl) T.isi (by decide +kernel) (pa_cons (pv 0) (pa_cons (pe_glob (v := .ref (cs 16)) rfl (T.g 16 (by decide)) rfl) pa_nil))) pa_nil))))))
      (pss_cons (ps_set (i := 1) scK.nd rfl (Or.inl rfl) (pe_op op_cat (pv 1) (pe_lst (pa_cons (pe_callB call_isX (by rfl) T.isi (by decide +kernel) (pa_cons (pv 0) (pa_cons (pe_glob (v := .ref (cs 17)) rfl (T.g 17 (by decide)) rfl) pa_nil))) (pa_cons (pe_callB call_isX (by rfl) T.isi (by decide +kernel) (pa_cons (pv 0) (pa_cons (pe_glob (v := .ref (cs 18)) rfl (T.g 18 (by decide)) rfl) pa_nil))) (pa_cons (pe_callB call_isX (by rfl) T.isi (by decide +kernel) (pa_cons (pv 0) (pa_cons (pe_glob (v := .ref (cs 19)) rfl (T.g 19 (by decide)) rfl) pa_nil))) pa_nil))))))
      (pss_cons (ps_set (i := 1) scK.nd rfl (Or.inl rfl) (pe_op op_cat (pv 1) (pe_lst (pa_cons (pe_callB call_isX (by rfl) T.isi (by decide +kernel) (pa_cons (pv 0) (pa_cons (pe_glob (v := .ref (cs 20)) rfl (T.g 20 (by decide)) rfl) pa_nil))) (pa_cons (pe_callB call_isX (by rfl) T.isi (by decide +kernel) (pa_cons (pv 0) (pa_cons (pe_glob (v := .ref (cs 21)) rfl (T.g 21 (by decide)) rfl) pa_nil))) pa_nil)))))
      (pss_cons (ps_set (i := 1) scK.nd rfl (Or.inl rfl) (pe_op op_cat (pv 1) (pe_lst (pa_cons (pe_callB call_isX (by rfl) T.isi (by decide +kernel) (pa_cons (pv 0) (pa_cons (pe_glob (v := .ref (cs 22)) rfl (T.g 22 (by decide)) rfl) pa_nil))) (pa_cons (pe_callB call_isX (by rfl) T.isi (by decide +kernel) (pa_cons (pv 0) (pa_cons (pe_glob (v := .ref (cs 23)) rfl (T.g 23 (by decide)) rfl) pa_nil))) (pa_cons (pe_callB call_isX (by rfl) T.isi (by decide +kernel) (pa_cons (pv 0) (pa_cons (pe_glob (v := .ref (cs 24)) rfl (T.g 24 (by decide)) rfl) pa_nil))) pa_nil))))))
      (pss_cons (ps_set (i := 1) scK.nd rfl (Or.inl rfl) (pe_op op_cat (pv 1) (pe_lst (pa_cons (pe_callB call_isX (by rfl) T.isi (by decide +kernel) (pa_cons (pv 0) (pa_cons (pe_glob (v := .ref (cs 25)) rfl (T.g 25 (by decide)) rfl) pa_nil))) (pa_cons (pe_callB call_isX (by rfl) T.isi (by decide +kernel) (pa_cons (pv 0) (pa_cons (pe_glob (v := .ref (cs 26)) rfl (T.g 26 (by decide)) rfl) pa_nil))) (pa_cons (pe_callB call_isX (by rfl) T.isi (by decide +kernel) (pa_cons (pv 0) (pa_cons (pe_glob (v := .ref (cs 27)) rfl (T.g 27 (by decide)) rfl) pa_nil))) pa_nil))))))
      (pss_cons (ps_set (i := 1) scK.nd rfl (Or.inl rfl) (pe_op op_cat (pv 1) (pe_lst (pa_cons (pe_callB call_isX (by rfl) T.isi (by decide +kernel) (pa_cons (pv 0) (pa_cons (pe_glob (v := .ref (cs 28)) rfl (T.g 28 (by decide)) rfl) pa_nil))) (pa_cons (pe_callB call_isX (by rfl) T.isi (by decide +kernel) (pa_cons (pv 0) (pa_cons (pe_glob (v := .ref (cs 29)) rfl (T.g 29 (by decide)) rfl) pa_nil))) (pa_cons (pe_callB call_isX (by rfl) T.isi (by decide +kernel) (pa_cons (pv 0) (pa_cons (pe_glob (v := .ref (cs 30)) rfl (T.g 30 (by decide)) rfl) pa_nil))) pa_nil))))))
      (pss_cons (ps_set (i := 1) scK.nd rfl (Or.inl rfl) (pe_op op_cat (pv 1) (pe_lst (pa_cons (pe_callB call_isX (by rfl) T.isi (by decide +kernel) (pa_cons (pv 0) (pa_cons (pe_glob (v := .ref (cs 31)) rfl (T.g 31 (by decide)) rfl) pa_nil))) (pa_cons (pe_callB call_isX (by rfl) T.isi (by decide +kernel) (pa_cons (pv 0) (pa_cons (pe_glob (v := .ref (cs 32)) rfl (T.g 32 (by decide)) rfl) pa_nil))) (pa_cons (pe_callB call_isX (by rfl) T.isi (by decide +kernel) (pa_cons (pv 0) (pa_cons (pe_glob (v := .ref (cs 33)) rfl (T.g 33 (by decide)) rfl) pa_nil))) pa_nil))))))
      (pss_cons (ps_set (i := 1) scK.nd rfl (Or.inl rfl) (pe_op op_cat (pv 1) (pe_lst (pa_cons (pe_callB call_isX (by rfl) T.isi (by decide +kernel) (pa_cons (pv 0) (pa_cons (pe_glob (v := .ref (cs 34)) rfl (T.g 34 (by decide)) rfl) pa_nil))) (pa_cons (pe_callB call_isX (by rfl) T.isi (by decide +kernel) (pa_cons (pv 0) (pa_cons (pe_glob (v := .ref (cs 35)) rfl (T.g 35 (by decide)) rfl) pa_nil))) (pa_cons (pe_callB call_isX (by rfl) T.isi (by decide +kernel) (pa_cons (pv 0) (pa_cons (pe_glob (v := .ref (cs 36)) rfl (T.g 36 (by decide)) rfl) pa_nil))) pa_nil))))))
      (pss_one (ps_ret (pv 1)))))))))))))))), ?_⟩
    refine ⟨by show 0 ≤ sizeLine; decide, fun q0 hq0 => ?_⟩
    have s0 : Same H (upd H q0 (.lst [])) := fun b o e => (upd_ne (ne_of_none e hq0)).trans e
    have l0 : upd H q0 (.lst []) q0 = some (.lst []) := upd_same
    refine kinds_step T hj rfl (xc_same hx s0) rfl l0 [0, 1, 2] (by decide) (by simp) fun q1 H1 z1 l1 => ?_
    have s1 : Same H H1 := fun b o e => z1 b o (s0 b o e)
    refine kinds_step T hj rfl (xc_same hx s1) rfl l1 [3, 4, 5] (by decide) (by simp) fun q2 H2 z2 l2 => ?_
    have s2 : Same H H2 := fun b o e => z2 b o (s1 b o e)
    refine kinds_step T hj rfl (xc_same hx s2) rfl l2 [6, 7] (by decide) (by simp) fun q3 H3 z3 l3 => ?_
    have s3 : Same H H3 := fun b o e => z3 b o (s2 b o e)
    refine kinds_step T hj rfl (xc_same hx s3) rfl l3 [8, 9, 10] (by decide) (by simp) fun q4 H4 z4 l4 => ?_
    have s4 : Same H H4 := fun b o e => z4 b o (s3 b o e)
    refine kinds_step T hj rfl (xc_same hx s4) rfl l4 [11, 12, 13] (by decide) (by simp) fun q5 H5 z5 l5 => ?_
    have s5 : Same H H5 := fun b o e => z5 b o (s4 b o e)
    refine kinds_step T hj rfl (xc_same hx s5) rfl l5 [14, 15, 16] (by decide) (by simp) fun q6 H6 z6 l6 => ?_
    have s6 : Same H H6 := fun b o e => z6 b o (s5 b o e)
    refine kinds_step T hj rfl (xc_same hx s6) rfl l6 [17, 18, 19] (by decide) (by simp) fun q7 H7 z7 l7 => ?_
    have s7 : Same H H7 := fun b o e => z7 b o (s6 b o e)
    refine kinds_step T hj rfl (xc_same hx s7) rfl l7 [20, 21] (by decide) (by simp) fun q8 H8 z8 l8 => ?_
    have s8 : Same H H8 := fun b o e => z8 b o (s7 b o e)
    refine kinds_step T hj rfl (xc_same hx s8) rfl l8 [22, 23, 24] (by decide) (by simp) fun q9 H9 z9 l9 => ?_
    have s9 : Same H H9 := fun b o e => z9 b o (s8 b o e)
    refine kinds_step T hj rfl (xc_same hx s9) rfl l9 [25, 26, 27] (by decide) (by simp) fun q10 H10 z10 l10 => ?_
    have s10 : Same H H10 := fun b o e => z10 b o (s9 b o e)
    refine kinds_step T hj rfl (xc_same hx s10) rfl l10 [28, 29, 30] (by decide) (by simp) fun q11 H11 z11 l11 => ?_
    have s11 : Same H H11 := fun b o e => z11 b o (s10 b o e)
    refine kinds_step T hj rfl (xc_same hx s11) rfl l11 [31, 32, 33] (by decide) (by simp) fun q12 H12 z12 l12 => ?_
    have s12 : Same H H12 := fun b o e => z12 b o (s11 b o e)
    refine kinds_step T hj rfl (xc_same hx s12) rfl l12 [34, 35, 36] (by decide) (by simp) fun q13 H13 z13 l13 => ?_
    have s13 : Same H H13 := fun b o e => z13 b o (s12 b o e)
    exact ⟨_, rfl, k q13 H13 s13 l13⟩
end
end K
end
section
set_option linter.all false
set_option maxRecDepth 100000
set_option maxHeartbeats 8000000
namespace K
open PySem PySem.Spec PyProof.Rows L2 Ob
/-! ### the plain errors -/
abbrev t_pl (cs : Nat → Addr) (is : List Nat) : TA := is.foldr (fun i t => tCons (fun σ H Q => tVar 0 σ H fun _ H1 => ∀ a, H1 a = none → Q (.ref a) (upd H1 a (ExO (.ref (cs i)) a))) t) tNil
/-- errors by number, the first one of the kind n -/
def Errs (cs : Nat → Addr) (H : Hp) (n : Nat) (as : List Addr) : Prop := ∀ (i : Nat) (a : Addr), as[i]? = some a → XcAt H a (cs (n + i))
theorem errs_same {cs : Nat → Addr} {H H' : Hp} {n : Nat} {as : List Addr} (h : Errs cs H n as) (s : ∀ b o, H b = some o → H' b = some o) : Errs cs H' n as := fun i a e => xc_same (h i a e) s
theorem errs_app {cs : Nat → Addr} {H : Hp} {n : Nat} {as bs : List Addr} (h : Errs cs H n as) (g : Errs cs H (n + as.length) bs) : Errs cs H n (as ++ bs) := fun i a e => by
  by_cases hi : i < as.length
  · rw [List.getElem?_append_left hi] at e
    exact h i a e
  · rw [List.getElem?_append_right (by omega)] at e
    have := g _ a e
    rw [show n + as.length + (i - as.length) = n + i by omega] at this
    exact this
section
variable {P : Program} {w : World} {K : PySem.W.Frag} {mg : Str → Option Value} {base : Heap} {cs : Nat → Addr}
theorem pl_read {v : V} {σ : L2.St} (h0 : σ[0]? = some (some v)) : ∀ (m n : Nat) (H : Hp) (Q : List V → Hp → Prop), (∀ as H', as.length = m → Same H H' → Errs cs H' n as → Q (as.map V.ref) H') → t_pl cs (List.range' n m) σ H Q
  | 0, n, H, Q, q => q [] H rfl (fun _ _ e => e) fun i a e => by cases e
  | m + 1, n, H, Q, q => by
    show tCons (fun σ H Q => tVar 0 σ H fun _ H1 => ∀ a, H1 a = none → Q (.ref a) (upd H1 a (ExO (.ref (cs n)) a))) (t_pl cs (List.range' (n + 1) m)) σ H Q
    refine ⟨_, h0, fun a ha => ?_⟩
    refine pl_read h0 m (n + 1) _ _ fun as H' hl s er => ?_
    have hs : Same H H' := fun b o e => s b o ((upd_ne (ne_of_none e ha)).trans e)
    refine q (a :: as) H' (by rw [List.length_cons, hl]) hs fun i b e => ?_
    cases i with
    | zero =>
      cases e
      exact .inr (s _ _ upd_same)
    | succ i =>
      have := er i b e
      rw [show n + 1 + i = n + (i + 1) by omega] at this
      exact this
theorem plain_step {v : V} {l : Addr} {σ : L2.St} {H : Hp} {as : List Addr} {D : Ends} (h0 : σ[0]? = some (some v)) (h1 : σ[1]? = some (some (.ref l))) (hl : H l = some (.lst (as.map V.ref))) (er : Errs cs H 0 as) (n m : Nat) (hn : as.length = n) (hm : n + m ≤ 900)
    (k : ∀ q as2 H', Same H H' → as2.length = n + m → Errs cs H' 0 as2 → H' q = some (.lst (as2.map V.ref)) → D.nx (σ.set 1 (some (.ref q))) H') :
    tAsg (tOp rCat (tVar 1) (tLst (t_pl cs (List.range' n m)))) (gName 1) D σ H := by
  refine ⟨_, h1, pl_read h0 m n _ _ fun bs H1 hb s1 eb => ⟨?_, fun p hp => ?_⟩⟩
  · rw [List.length_map, sizeLine_eq]
    omega
  · have hl1 := s1 _ _ hl
    have npl : l ≠ p := ne_of_none hl1 hp
    refine ⟨l, p, _, _, rfl, rfl, (upd_ne npl).trans hl1, upd_same, ?_, fun q hq => ?_⟩
    · rw [List.length_map, List.length_map, sizeLine_eq]
      omega
    · have s2 : Same H1 (upd (upd H1 p (.lst (bs.map V.ref))) q (.lst (as.map V.ref ++ bs.map V.ref))) := fun b o ho => by
        rw [upd_ne (ne_of_none (show upd H1 p _ b = some o from (upd_ne (ne_of_none ho hp)).trans ho) hq), upd_ne (ne_of_none ho hp)]
        exact ho
      refine k q (as ++ bs) _ (fun b o e => s2 b o (s1 b o e)) (by rw [List.length_append, hn, hb]) (errs_same (errs_app (errs_same er s1) (by rw [Nat.zero_add, hn]; exact eb)) s2) ?_
      rw [upd_same, List.map_append]
def spPlain (cs : Nat → Addr) : Sp := fun vs H Q _ => ∃ (v : V), vs = [v] ∧ ∀ q as H', Same H H' → as.length = 16 → Errs cs H' 0 as → H' q = some (.lst (as.map V.ref)) → Q (.ref q) H'
theorem scPl : FnScope ["words_here", "found"] ["words_here"] (defScope sPlain) := ⟨rfl, rfl, rfl, by decide +kernel, rfl, by decide +kernel, by decide +kernel⟩
theorem ok_plain {f : Addr} {fd : FuncData} (F : Fun K "_law_plain_errors" "_law_plain_errors" sPlain f fd) (T : Cl P K mg cs) : FnOk P w K mg base CX0 1 f fd ["words_here"] (spPlain cs) := by
  refine F.ok scPl (fun vs H Q E h => ?_) (fun cdv A outer s H vs Q E hr h => ?_)
  · obtain ⟨v, rfl, _⟩ := h
    rfl
  · obtain ⟨v, rfl, k⟩ := h
    refine ⟨_, pss_cons (ps_set (i := 1) scPl.nd rfl (Or.inl rfl) (pe_lst pa_nil))
      (pss_cons (ps_set (i := 1) scPl.nd rfl (Or.inl rfl) (pe_op op_cat (pv 1) (pe_lst (pa_cons (pe_exc1 PySem.F.excBase_ValueError (T.plain 0 (by decide)).1 (T.g 0 (by decide)) (T.plain 0 (by decide)).2 rfl (pv 0)) (pa_cons (pe_exc1 PySem.F.excBase_ValueError (T.plain 1 (by decide)).1 (T.g 1 (by decide)) (T.plain 1 (by decide)).2 rfl (pv 0)) (pa_cons (pe_exc1 PySem.F.excBase_ValueError (T.plain 2 (by decide)).1 (T.g 2 (by decide)) (T.plain 2 (by decide)).2 rfl (pv 0)) (pa_cons (pe_exc1 PySem.F.excBase_ValueError (T.plain 3 (by decide)).1 (T.g 3 (by decide)) (T.plain 3 (by decide)).2 rfl (pv 0)) pa_nil)))))))
      (pss_cons (ps_set (i := 1) scPl.nd rfl (Or.inl rfl) (pe_op op_cat (pv 1) (pe_lst (pa_cons (pe_exc1 PySem.F.excBase_ValueError (T.plain 4 (by decide)).1 (T.g 4 (by decide)) (T.plain 4 (by decide)).2 rfl (pv 0)) (pa_cons (pe_exc1 PySem.F.excBase_ValueError (T.plain 5 (by decide)).1 (T.g 5 (by decide)) (T.plain 5 (by decide)).2 rfl (pv 0)) (pa_cons (pe_exc1 PySem.F.excBase_ValueError (T.plain 6 (by decide)).1 (T.g 6 (by decide)) (T.plain 6 (by decide)).2 rfl (pv 0)) (pa_cons (pe_exc1 PySem.F.excBase_ValueError (T.plain 7 (by decide)).1 (T.g 7 (by decide)) (T.plain 7 (by decide)).2 rfl (pv 0)) pa_nil)))))))
      (pss_cons (ps_set (i := 1) scPl.nd rfl (Or.inl rfl) (pe_op op_cat (pv 1) (pe_lst (pa_cons (pe_exc1 PySem.F.excBase_ValueError (T.plain 8 (by decide)).1 (T.g 8 (by decide)) (T.plain 8 (by decide)).2 rfl (pv 0)) (pa_cons (pe_exc1 PySem.F.excBase_ValueError (T.plain 9 (by decide)).1 (T.g 9 (by decide)) (T.plain 9 (by decide)).2 rfl (pv 0)) (pa_cons (pe_exc1 PySem.F.excBase_ValueError (T.plain 10 (by decide)).1 (T.g 10 (by decide)) (T.plain 10 (by decide)).2 rfl (pv 0)) (pa_cons (pe_exc1 PySem.F.excBase_ValueError (T.plain 11 (by decide)).1 (T.g 11 (by decide)) (T.plain 11 (by decide)).2 rfl (pv 0)) pa_nil)))))))
      (pss_cons (ps_set (i := 1) scPl.nd rfl (Or.inl rfl) (pe_op op_cat (pv 1) (pe_lst (pa_cons (pe_exc1 PySem.F.excBase_ValueError (T.plain 12 (by decide)).1 (T.g 12 (by decide)) (T.plain 12 (by decide)).2 rfl (pv 0)) (pa_cons (pe_exc1 PySem.F.excBase_ValueError (T.plain 13 (by decide)).1 (T.g 13 (by decide)) (T.plain 13 (by decide)).2 rfl (pv 0)) (pa_cons (pe_exc1 PySem.F.excBase_ValueError (T.plain 14 (by decide)).1 (T.g 14 (by decide)) (T.plain 14 (by decide)).2 rfl (pv 0)) (pa_cons (pe_exc1 PySem.F.excBase_ValueError (T.plain 15 (by decide)).1 (T.g 15 (by decide)) (T.plain 15 (by decide)).2 rfl (pv 0)) pa_nil)))))))
      (pss_one (ps_ret (pv 1))))))), ?_⟩
    refine ⟨by show 0 ≤ sizeLine; decide, fun q0 hq0 => ?_⟩
    have s0 : Same H (upd H q0 (.lst [])) := fun b o e => (upd_ne (ne_of_none e hq0)).trans e
    have l0 : upd H q0 (.lst []) q0 = some (.lst (([] : List Addr).map V.ref)) := upd_same
    have e0 : Errs cs (upd H q0 (.lst [])) 0 [] := fun i a e => by cases e
    have n0 : ([] : List Addr).length = 0 := rfl
    refine plain_step rfl rfl l0 e0 0 4 n0 (by decide) fun q1 as1 H1 z1 n1 e1 l1 => ?_
    have s1 : Same H H1 := fun b o e => z1 b o (s0 b o e)
    refine plain_step rfl rfl l1 e1 4 4 n1 (by decide) fun q2 as2 H2 z2 n2 e2 l2 => ?_
    have s2 : Same H H2 := fun b o e => z2 b o (s1 b o e)
    refine plain_step rfl rfl l2 e2 8 4 n2 (by decide) fun q3 as3 H3 z3 n3 e3 l3 => ?_
    have s3 : Same H H3 := fun b o e => z3 b o (s2 b o e)
    refine plain_step rfl rfl l3 e3 12 4 n3 (by decide) fun q4 as4 H4 z4 n4 e4 l4 => ?_
    have s4 : Same H H4 := fun b o e => z4 b o (s3 b o e)
    exact ⟨_, rfl, k q4 as4 H4 s4 n4 e4 l4⟩
/-! ### the errors that are made of a value -/
theorem guards_make {A : Around} {args : Args} {env : Env} (h : A.guards = some []) : ((A.under (.builtin "type.__call__" args)).deeper env).guards = some [] := by
  have e : (Code.builtin "type.__call__" args).isGuard = false := by
    show guardIds.contains "type.__call__" = false
    decide +kernel
  simp [Around.under, Around.deeper, Code.guards, e, h, pushGuards]
theorem units_make {A : Around} {C : Addr} {us : List Value} {kw : List (Str × Value)} {env : Env} {k : Nat} (r : Room (k + 2) A) : ((A.under (.builtin "type.__call__" ⟨.ref C :: us, kw⟩)).deeper env).units + 60 < cLine := by
  have := ((r.make C us kw).deeper env).units
  omega
end
end K
end
section
set_option linter.all false
set_option maxRecDepth 100000
set_option maxHeartbeats 8000000
namespace K
open PySem PySem.Spec PyProof.Rows L2 Ob
theorem dataAll_same {H H' : Hp} (s : ∀ b o, H b = some o → H' b = some o) : True := trivial
mutual
theorem data_same {H H' : Hp} (s : ∀ b o, H b = some o → H' b = some o) : ∀ (d : PyData) (v : V), DataAt H d v → DataAt H' d v
  | .none, v, h => by simpa only [DataAt] using h
  | .bool b, v, h => by simpa only [DataAt] using h
  | .int i, v, h => by simpa only [DataAt] using h
  | .str x, v, h => by simpa only [DataAt] using h
  | .list ds, v, h => by
    simp only [DataAt] at h ⊢
    obtain ⟨a, xs, e, ha, hd⟩ := h
    exact ⟨a, xs, e, s _ _ ha, data_all s ds xs hd⟩
  | .tuple ds, v, h => by
    simp only [DataAt] at h ⊢
    obtain ⟨a, xs, e, ha, hd⟩ := h
    exact ⟨a, xs, e, s _ _ ha, data_all s ds xs hd⟩
  | .dict kvs, v, h => by
    simp only [DataAt] at h ⊢
    obtain ⟨a, es, e, ha, hd⟩ := h
    exact ⟨a, es, e, s _ _ ha, data_kvs s kvs es hd⟩
theorem data_all {H H' : Hp} (s : ∀ b o, H b = some o → H' b = some o) : ∀ (ds : List PyData) (xs : List V), DataAll H ds xs → DataAll H' ds xs
  | [], xs, h => by simpa only [DataAll] using h
  | d :: ds, xs, h => by
    simp only [DataAll] at h ⊢
    obtain ⟨x, r, e, h1, h2⟩ := h
    exact ⟨x, r, e, data_same s d x h1, data_all s ds r h2⟩
theorem data_kvs {H H' : Hp} (s : ∀ b o, H b = some o → H' b = some o) : ∀ (ds : List (PyData × PyData)) (es : List (Key × V)), DataKvs H ds es → DataKvs H' ds es
  | [], es, h => by simpa only [DataKvs] using h
  | (k, d) :: ds, es, h => by
    simp only [DataKvs] at h ⊢
    obtain ⟨x, v, es', e, ek, h1, h2⟩ := h
    exact ⟨x, v, es', e, ek, data_same s d v h1, data_kvs s ds es' h2⟩
end
/-- the threes of a value: an error of the kind, and twice the value -/
def Threes (cs : Nat → Addr) (H : Hp) (y : V) (ts as : List Addr) : Prop := ts.length = as.length ∧ ∀ (i : Nat) (t a : Addr), ts[i]? = some t → as[i]? = some a → H t = some (.tup [.ref a, y, y]) ∧ XcAt H a (cs (16 + i))
section
variable {X : Cx} {cs : Nat → Addr}
abbrev t_three (X : Cx) (cs : Nat → Addr) (i : Nat) : TS := tDrop (tBM X.K "list" rAppend (tVar 1) (tCons (tTup (tCons (tExcV X (cs i) (pn i) (tCons (tVar 0) tNil)) (tCons (tXfV X.K (pn i) (tExcV X (cs i) (pn i) (tCons (tVar 0) tNil)))
  (tCons (tXfV X.K (pn i) (tExcK X (cs i) (pn i) (pn i) (tCons (tVar 0) tNil))) tNil)))) tNil))
theorem own_step {P : Program} (T : Cl P X.K X.mg cs) (hG : X.A.guards = some []) (hr : Room 2 X.A) {i : Nat} (h16 : 16 ≤ i) (h37 : i < 37) {y : V} {d : PyData} {l : Addr} {σ : L2.St} {H : Hp} {ts as : List Addr} {D : Ends}
    (h0 : σ[0]? = some (some y)) (h1 : σ[1]? = some (some (.ref l))) (hl : H l = some (.lst (ts.map V.ref))) (S : Small d) (hd : DataAt H d y) (hn : 16 + ts.length = i) (th : Threes cs H y ts as) (lt : ∀ t ∈ ts, t ≠ l)
    (k : ∀ ts2 as2 H', (∀ b o, H b = some o → b ≠ l → H' b = some o) → H' l = some (.lst (ts2.map V.ref)) → ts2.length = ts.length + 1 → Threes cs H' y ts2 as2 → (∀ t ∈ ts2, t ≠ l) → D.nx σ H') : t_three X cs i D σ H := by
  obtain ⟨fI, fd, IK, iC, tI, bI, kI, XF⟩ := (T.own i h16 h37).ex
  have fm : ∀ (H1 : Hp), Same H H1 → ∀ a env us kw, H1 a = none → Fmt X.prog X.w ((X.A.under (.builtin "type.__call__" ⟨.ref (cs i) :: us, kw⟩)).deeper env) (upd H1 a (exo a (cs i) none)) y := fun H1 s a env us kw ha =>
    fmt_data (guards_make hG) (units_make (k := 0) hr) S (data_same (fun b o e => (upd_ne (ne_of_none (s b o e) ha)).trans (s b o e)) d y hd)
  have made : ∀ {H1 : Hp} {a dx : Addr} {u : HO}, H1 a = none → H1 dx = none → dx ≠ a → Same H1 (upd (upd H1 dx (exd dx [(pn i, y)])) a u) := fun ha hdx ne b o e => by
    rw [upd_ne (ne_of_none e ha), upd_ne (ne_of_none e hdx)]
    exact e
  -- the error
  refine ⟨_, h1, .inl ⟨rfl, _, .inl (.inl hl)⟩, _, h0, y, rfl, (by show 1 ≤ 1000; decide), fun a env us ha => fm H (fun _ _ e => e) a env us [] ha, fun a d1 ha hd1 ne1 => ?_⟩
  let H1 : Hp := upd (upd H d1 (exd d1 [(pn i, y)])) a (exo a (cs i) (some d1))
  have s1 : Same H H1 := made ha hd1 ne1
  have a1 : H1 a = some (exo a (cs i) (some d1)) := upd_same
  have b1 : H1 d1 = some (exd d1 [(pn i, y)]) := (upd_ne ne1).trans upd_same
  -- its part, by place
  refine ⟨_, h0, y, rfl, (by show 1 ≤ 1000; decide), fun a env us ha => fm H1 s1 a env us [] ha, fun a2 d2 ha2 hd2 ne2 => ?_⟩
  let H2 : Hp := upd (upd H1 d2 (exd d2 [(pn i, y)])) a2 (exo a2 (cs i) (some d2))
  have s2 : Same H1 H2 := made ha2 hd2 ne2
  refine ⟨a2, cs i, d2, _, y, rfl, upd_same, (upd_ne ne2).trans upd_same, XF, IK.no, by simp [List.lookup], ?_⟩
  -- its part, by name
  refine ⟨_, h0, y, rfl, fun a env us ha => fm H2 (fun b o e => s2 b o (s1 b o e)) a env [] [(pn i, us)] ha, fun a3 d3 ha3 hd3 ne3 => ?_⟩
  let H3 : Hp := upd (upd H2 d3 (exd d3 [(pn i, y)])) a3 (exo a3 (cs i) (some d3))
  have s3 : Same H2 H3 := made ha3 hd3 ne3
  refine ⟨a3, cs i, d3, _, y, rfl, upd_same, (upd_ne ne3).trans upd_same, XF, IK.no, by simp [List.lookup], ?_⟩
  -- the tuple, put behind the others
  refine ⟨by show 3 ≤ sizeLine; decide, fun t ht => ?_⟩
  let H4 : Hp := upd H3 t (.tup [.ref a, y, y])
  have s4 : Same H H4 := fun b o e => (upd_ne (ne_of_none (s3 b o (s2 b o (s1 b o e))) ht)).trans (s3 b o (s2 b o (s1 b o e)))
  have l4 := s4 _ _ hl
  refine ⟨l, _, _, rfl, rfl, l4, ?_, ?_⟩
  · rw [List.length_map, sizeLine_eq]
    omega
  have ntl : t ≠ l := fun z => by
    have := s3 _ _ (s2 _ _ (s1 _ _ hl))
    rw [← z] at this
    have ht : H3 t = none := ht
    rw [ht] at this
    cases this
  have nal : a ≠ l := ne_of a1 (s1 _ _ hl) (by intro z; cases z)
  have ndl : d1 ≠ l := ne_of b1 (s1 _ _ hl) (by intro z; cases z)
  have t4 : H4 t = some (.tup [.ref a, y, y]) := upd_same
  have f4 : ∀ b o, H b = some o → b ≠ l → upd H4 l (.lst (ts.map V.ref ++ [.ref t])) b = some o := fun b o e ne => (upd_ne ne).trans (s4 b o e)
  have g4 : ∀ b o, H1 b = some o → b ≠ l → upd H4 l (.lst (ts.map V.ref ++ [.ref t])) b = some o := fun b o e ne => (upd_ne ne).trans ((upd_ne (ne_of_none (s3 b o (s2 b o e)) ht)).trans (s3 b o (s2 b o e)))
  refine k (ts ++ [t]) (as ++ [a]) _ f4 (by rw [upd_same, List.map_append]; rfl) (by rw [List.length_append]; rfl) ⟨by rw [List.length_append, List.length_append, th.1]; rfl, fun j t' a' e1 e2 => ?_⟩ fun t' h' => ?_
  · by_cases hj : j < ts.length
    · rw [List.getElem?_append_left hj] at e1
      rw [List.getElem?_append_left (by rw [← th.1]; exact hj)] at e2
      obtain ⟨q1, q2⟩ := th.2 j t' a' e1 e2
      refine ⟨f4 _ _ q1 (lt t' (List.mem_of_getElem? e1)), ?_⟩
      rcases q2 with ⟨od, z, zz⟩ | z
      · refine .inl ⟨od, f4 _ _ z (ne_of z hl (by intro q; cases q)), zz.imp id ?_⟩
        rintro ⟨dd, fs, e, hdd⟩
        exact ⟨dd, fs, e, f4 _ _ hdd (ne_of hdd hl (by intro q; cases q))⟩
      · exact .inr (f4 _ _ z (ne_of z hl (by intro q; cases q)))
    · rw [List.getElem?_append_right (by omega)] at e1
      rw [List.getElem?_append_right (by rw [← th.1]; omega)] at e2
      have hj0 : j - ts.length = 0 := by
        cases q : j - ts.length with
        | zero => rfl
        | succ m =>
          rw [q] at e1
          simp at e1
      rw [hj0] at e1
      rw [← th.1, hj0] at e2
      cases e1
      cases e2
      refine ⟨(upd_ne ntl).trans t4, ?_⟩
      have hi : 16 + j = i := by omega
      rw [hi]
      exact .inl ⟨some d1, g4 _ _ a1 nal, .inr ⟨d1, _, rfl, g4 _ _ b1 ndl⟩⟩
  · rcases List.mem_append.mp h' with q | q
    · exact lt t' q
    · rw [List.mem_singleton.mp q]
      exact ntl
end
section
variable {P : Program} {w : World} {K : PySem.W.Frag} {mg : Str → Option Value} {base : Heap} {cs : Nat → Addr}
def spOwn (cs : Nat → Addr) : Sp := fun vs H Q _ => ∃ (y : V) (d : PyData), vs = [y] ∧ DataAt H d y ∧ Small d ∧
  ∀ p ts as H', Same H H' → H' p = some (.lst (ts.map V.ref)) → ts.length = 21 → Threes cs H' y ts as → Q (.ref p) H'
theorem scO : FnScope ["each", "found"] ["each"] (defScope sOwn) := ⟨rfl, rfl, rfl, by decide +kernel, rfl, by decide +kernel, by decide +kernel⟩
theorem ok_own {f : Addr} {fd : FuncData} (F : Fun K "_law_errors_of" "_law_errors_of" sOwn f fd) (T : Cl P K mg cs) : FnG P w K mg base 3 f fd ["each"] (spOwn cs) := by
  refine fnG_of F scO (fun vs H Q E h => ?_) (fun cdv A outer s H vs Q E hG hr h => ?_)
  · obtain ⟨y, d, rfl, _⟩ := h
    rfl
  · obtain ⟨y, d, rfl, hd, S, k⟩ := h
    obtain ⟨f16, d16, K16, i16, t16, b16, k16, x16⟩ := (T.own 16 (by decide) (by decide)).ex
    obtain ⟨f17, d17, K17, i17, t17, b17, k17, x17⟩ := (T.own 17 (by decide) (by decide)).ex
    obtain ⟨f18, d18, K18, i18, t18, b18, k18, x18⟩ := (T.own 18 (by decide) (by decide)).ex
    obtain ⟨f19, d19, K19, i19, t19, b19, k19, x19⟩ := (T.own 19 (by decide) (by decide)).ex
    obtain ⟨f20, d20, K20, i20, t20, b20, k20, x20⟩ := (T.own 20 (by decide) (by decide)).ex
    obtain ⟨f21, d21, K21, i21, t21, b21, k21, x21⟩ := (T.own 21 (by decide) (by decide)).ex
    obtain ⟨f22, d22, K22, i22, t22, b22, k22, x22⟩ := (T.own 22 (by decide) (by decide)).ex
    obtain ⟨f23, d23, K23, i23, t23, b23, k23, x23⟩ := (T.own 23 (by decide) (by decide)).ex
    obtain ⟨f24, d24, K24, i24, t24, b24, k24, x24⟩ := (T.own 24 (by decide) (by decide)).ex
    obtain ⟨f25, d25, K25, i25, t25, b25, k25, x25⟩ := (T.own 25 (by decide) (by decide)).ex
    obtain ⟨f26, d26, K26, i26, t26, b26, k26, x26⟩ := (T.own 26 (by decide) (by decide)).ex
    obtain ⟨f27, d27, K27, i27, t27, b27, k27, x27⟩ := (T.own 27 (by decide) (by decide)).ex
    obtain ⟨f28, d28, K28, i28, t28, b28, k28, x28⟩ := (T.own 28 (by decide) (by decide)).ex
    obtain ⟨f29, d29, K29, i29, t29, b29, k29, x29⟩ := (T.own 29 (by decide) (by decide)).ex
    obtain ⟨f30, d30, K30, i30, t30, b30, k30, x30⟩ := (T.own 30 (by decide) (by decide)).ex
    obtain ⟨f31, d31, K31, i31, t31, b31, k31, x31⟩ := (T.own 31 (by decide) (by decide)).ex
    obtain ⟨f32, d32, K32, i32, t32, b32, k32, x32⟩ := (T.own 32 (by decide) (by decide)).ex
    obtain ⟨f33, d33, K33, i33, t33, b33, k33, x33⟩ := (T.own 33 (by decide) (by decide)).ex
    obtain ⟨f34, d34, K34, i34, t34, b34, k34, x34⟩ := (T.own 34 (by decide) (by decide)).ex
    obtain ⟨f35, d35, K35, i35, t35, b35, k35, x35⟩ := (T.own 35 (by decide) (by decide)).ex
    obtain ⟨f36, d36, K36, i36, t36, b36, k36, x36⟩ := (T.own 36 (by decide) (by decide)).ex
    refine ⟨_, pss_cons (ps_set (i := 1) scO.nd rfl (Or.inl rfl) (pe_lst pa_nil))
      (pss_cons (ps_expr (pe_bm PySem.F.plainAttrs_list PySem.F.slot_list_append PySem.F.type_list_append mt_append (pv 1) (pa_cons (pe_tup (pa_cons (pe_excV K16 i16 t16 hr b16 pass0 rfl (T.g 16 (by decide)) (pa_cons (pv 0) pa_nil)) (pa_cons (pe_xfV (pe_excV K16 i16 t16 hr b16 pass0 rfl (T.g 16 (by decide)) (pa_cons (pv 0) pa_nil))) (pa_cons (pe_xfV (pe_excK K16 i16 t16 hr k16 pass0 rfl (T.g 16 (by decide)) (pk_cons (pv 0) pk_nil))) pa_nil)))) pa_nil)))
      (pss_cons (ps_expr (pe_bm PySem.F.plainAttrs_list PySem.F.slot_list_append PySem.F.type_list_append mt_append (pv 1) (pa_cons (pe_tup (pa_cons (pe_excV K17 i17 t17 hr b17 pass0 rfl (T.g 17 (by decide)) (pa_cons (pv 0) pa_nil)) (pa_cons (pe_xfV (pe_excV K17 i17 t17 hr b17 pass0 rfl (T.g 17 (by decide)) (pa_cons (pv 0) pa_nil))) (pa_cons (pe_xfV (pe_excK K17 i17 t17 hr k17 pass0 rfl (T.g 17 (by decide)) (pk_cons (pv 0) pk_nil))) pa_nil)))) pa_nil)))
      (pss_cons (ps_expr (pe_bm PySem.F.plainAttrs_list PySem.F.slot_list_append PySem.F.type_list_append mt_append (pv 1) (pa_cons (pe_tup (pa_cons (pe_excV K18 i18 t18 hr b18 pass0 rfl (T.g 18 (by decide)) (pa_cons (pv 0) pa_nil)) (pa_cons (pe_xfV (pe_excV K18 i18 t18 hr b18 pass0 rfl (T.g 18 (by decide)) (pa_cons (pv 0) pa_nil))) (pa_cons (pe_xfV (pe_excK K18 i18 t18 hr k18 pass0 rfl (T.g 18 (by decide)) (pk_cons (pv 0) pk_nil))) pa_nil)))) pa_nil)))
      (pss_cons (ps_expr (pe_bm PySem.F.plainAttrs_list PySem.F.slot_list_append PySem.F.type_list_append mt_append (pv 1) (pa_cons (pe_tup (pa_cons (pe_excV K19 i19 t19 hr b19 pass0 rfl (T.g 19 (by decide)) (pa_cons (pv 0) pa_nil)) (pa_cons (pe_xfV (pe_excV K19 i19 t19 hr b19 pass0 rfl (T.g 19 (by decide)) (pa_cons (pv 0) pa_nil))) (pa_cons (pe_xfV (pe_excK K19 i19 t19 hr k19 pass0 rfl (T.g 19 (by decide)) (pk_cons (pv 0) pk_nil))) pa_nil)))) pa_nil)))
      (pss_cons (ps_expr (pe_bm PySem.F.plainAttrs_list PySem.F.slot_list_append PySem.F.type_list_append mt_append (pv 1) (pa_cons (pe_tup (pa_cons (pe_excV K20 i20 t20 hr b20 pass0 rfl (T.g 20 (by decide)) (pa_cons (pv 0) pa_nil)) (pa_cons (pe_xfV (pe_excV K20 i20 t20 hr b20 pass0 rfl (T.g 20 (by decide)) (pa_cons (pv 0) pa_nil))) (pa_cons (pe_xfV (pe_excK K20 i20 t20 hr k20 pass0 rfl (T.g 20 (by decide)) (pk_cons (pv 0) pk_nil))) pa_nil)))) pa_nil)))
      (pss_cons (ps_expr (pe_bm PySem.F.plainAttrs_list PySem.F.slot_list_append PySem.F.type_list_append mt_append (pv 1) (pa_cons (pe_tup (pa_cons (pe_excV K21 i21 t21 hr b21 pass0 rfl (T.g 21 (by decide)) (pa_cons (pv 0) pa_nil)) (pa_cons (pe_xfV (pe_excV K21 i21 t21 hr b21 pass0 rfl (T.g 21 (by decide)) (pa_cons (pv 0) pa_nil))) (pa_cons (pe_xfV (pe_excK K21 i21 t21 hr k21 pass0 rfl (T.g 21 (by decide)) (pk_cons (pv 0) pk_nil))) pa_nil)))) pa_nil)))
      (pss_cons (ps_expr (pe_bm PySem.F.plainAttrs_list PySem.F.slot_list_append PySem.F.type_list_append mt_append (pv 1) (pa_cons (pe_tup (pa_cons (pe_excV K22 i22 t22 hr b22 pass0 rfl (T.g 22 (by decide)) (pa_cons (pv 0) pa_nil)) (pa_cons (pe_xfV (pe_excV K22 i22 t22 hr b22 pass0 rfl (T.g 22 (by decide)) (pa_cons (pv 0) pa_nil))) (pa_cons (pe_xfV (pe_excK K22 i22 t22 hr k22 pass0 rfl (T.g 22 (by decide)) (pk_cons (pv 0) pk_nil))) pa_nil)))) pa_nil)))
      (pss_cons (ps_expr (pe_bm PySem.F.plainAttrs_list PySem.F.slot_list_append PySem.F.type_list_append mt_append (pv 1) (pa_cons (pe_tup (pa_cons (pe_excV K23 i23 t23 hr b23 pass0 rfl (T.g 23 (by decide)) (pa_cons (pv 0) pa_nil)) (pa_cons (pe_xfV (pe_excV K23 i23 t23 hr b23 pass0 rfl (T.g 23 (by decide)) (pa_cons (pv 0) pa_nil))) (pa_cons (pe_xfV (pe_excK K23 i23 t23 hr k23 pass0 rfl (T.g 23 (by decide)) (pk_cons (pv 0) pk_nil))) pa_nil)))) pa_nil)))
      (pss_cons (ps_expr (pe_bm PySem.F.plainAttrs_list PySem.F.slot_list_append PySem.F.type_list_append mt_append (pv 1) (pa_cons (pe_tup (pa_cons (pe_excV K24 i24 t24 hr b24 pass0 rfl (T.g 24 (by decide)) (pa_cons (pv 0) pa_nil)) (pa_cons (pe_xfV (pe_excV K24 i24 t24 hr b24 pass0 rfl (T.g 24 (by decide)) (pa_cons (pv 0) pa_nil))) (pa_cons (pe_xfV (pe_excK K24 i24 t24 hr k24 pass0 rfl (T.g 24 (by decide)) (pk_cons (pv 0) pk_nil))) pa_nil)))) pa_nil)))
      (pss_cons (ps_expr (pe_bm PySem.F.plainAttrs_list PySem.F.slot_list_append PySem.F.type_list_append mt_append (pv 1) (pa_cons (pe_tup (pa_cons (pe_excV K25 i25 t25 hr b25 pass0 rfl (T.g 25 (by decide)) (pa_cons (pv 0) pa_nil)) (pa_cons (pe_xfV (pe_excV K25 i25 t25 hr b25 pass0 rfl (T.g 25 (by decide)) (pa_cons (pv 0) pa_nil))) (pa_cons (pe_xfV (pe_excK K25 i25 t25 hr k25 pass0 rfl (T.g 25 (by decide)) (pk_cons (pv 0) pk_nil))) pa_nil)))) pa_nil)))
      (pss_cons (ps_expr (pe_bm PySem.F.plainAttrs_list PySem.F.slot_list_append PySem.F.type_list_append mt_append (pv 1) (pa_cons (pe_tup (pa_cons (pe_excV K26 i26 t26 hr b26 pass0 rfl (T.g 26 (by decide)) (pa_cons (pv 0) pa_nil)) (pa_cons (pe_xfV (pe_excV K26 i26 t26 hr b26 pass0 rfl (T.g 26 (by decide)) (pa_cons (pv 0) pa_nil))) (pa_cons (pe_xfV (pe_excK K26 i26 t26 hr k26 pass0 rfl (T.g 26 (by decide)) (pk_cons (pv 0) pk_nil))) pa_nil)))) pa_nil)))
      (pss_cons (ps_expr (pe_bm PySem.F.plainAttrs_list PySem.F.slot_list_append PySem.F.type_list_append mt_append (pv 1) (pa_cons (pe_tup (pa_cons (pe_excV K27 i27 t27 hr b27 pass0 rfl (T.g 27 (by decide)) (pa_cons (pv 0) pa_nil)) (pa_cons (pe_xfV (pe_excV K27 i27 t27 hr b27 pass0 rfl (T.g 27 (by decide)) (pa_cons (pv 0) pa_nil))) (pa_cons (pe_xfV (pe_excK K27 i27 t27 hr k27 pass0 rfl (T.g 27 (by decide)) (pk_cons (pv 0) pk_nil))) pa_nil)))) pa_nil)))
      (pss_cons (ps_expr (pe_bm PySem.F.plainAttrs_list PySem.F.slot_list_append PySem.F.type_list_append mt_append (pv 1) (pa_cons (pe_tup (pa_cons (pe_excV K28 i28 t28 hr b28 pass0 rfl (T.g 28 (by decide)) (pa_cons (pv 0) pa_nil)) (pa_cons (pe_xfV (pe_excV K28 i28 t28 hr b28 pass0 rfl (T.g 28 (by decide)) (pa_cons (pv 0) pa_nil))) (pa_cons (pe_xfV (pe_excK K28 i28 t28 hr k28 pass0 rfl (T.g 28 (by decide)) (pk_cons (pv 0) pk_nil))) pa_nil)))) pa_nil)))
      (pss_cons (ps_expr (pe_bm PySem.F.plainAttrs_list PySem.F.slot_list_append PySem.F.type_list_append mt_append (pv 1) (pa_cons (pe_tup (pa_cons (pe_excV K29 i29 t29 hr b29 pass0 rfl (T.g 29 (by decide)) (pa_cons (pv 0) pa_nil)) (pa_cons (pe_xfV (pe_excV K29 i29 t29 hr b29 pass0 rfl (T.g 29 (by decide)) (pa_cons (pv 0) pa_nil))) (pa_cons (pe_xfV (pe_excK K29 i29 t29 hr k29 pass0 rfl (T.g 29 (by decide)) (pk_cons (pv 0) pk_nil))) pa_nil)))) pa_nil)))
      (pss_cons (ps_expr (pe_bm PySem.F.plainAttrs_list PySem.F.slot_list_append PySem.F.type_list_append mt_append (pv 1) (pa_cons (pe_tup (pa_cons (pe_excV K30 i30 t30 hr b30 pass0 rfl (T.g 30 (by decide)) (pa_cons (pv 0) pa_nil)) (pa_cons (pe_xfV (pe_excV K30 i30 t30 hr b30 pass0 rfl (T.g 30 (by decide)) (pa_cons (pv 0) pa_nil))) (pa_cons (pe_xfV (pe_excK K30 i30 t30 hr k30 pass0 rfl (T.g 30 (by decide)) (pk_cons (pv 0) pk_nil))) pa_nil)))) pa_nil)))
      (pss_cons (ps_expr (pe_bm PySem.F.plainAttrs_list PySem.F.slot_list_append PySem.F.type_list_append mt_append (pv 1) (pa_cons (pe_tup (pa_cons (pe_excV K31 i31 t31 hr b31 pass0 rfl (T.g 31 (by decide)) (pa_cons (pv 0) pa_nil)) (pa_cons (pe_xfV (pe_excV K31 i31 t31 hr b31 pass0 rfl (T.g 31 (by decide)) (pa_cons (pv 0) pa_nil))) (pa_cons (pe_xfV (pe_excK K31 i31 t31 hr k31 pass0 rfl (T.g 31 (by decide)) (pk_cons (pv 0) pk_nil))) pa_nil)))) pa_nil)))
      (pss_cons (ps_expr (pe_bm PySem.F.plainAttrs_list PySem.F.slot_list_append PySem.F.type_list_append mt_append (pv 1) (pa_cons (pe_tup (pa_cons (pe_excV K32 i32 t32 hr b32 pass0 rfl (T.g 32 (by decide)) (pa_cons (pv 0) pa_nil)) (pa_cons (pe_xfV (pe_excV K32 i32 t32 hr b32 pass0 rfl (T.g 32 (by decide)) (pa_cons (pv 0) pa_nil))) (pa_cons (pe_xfV (pe_excK K32 i32 t32 hr k32 pass0 rfl (T.g 32 (by decide)) (pk_cons (pv 0) pk_nil))) pa_nil)))) pa_nil)))
      (pss_cons (ps_expr (pe_bm PySem.F.plainAttrs_list PySem.F.slot_list_append PySem.F.type_list_append mt_append (pv 1) (pa_cons (pe_tup (pa_cons (pe_excV K33 i33 t33 hr b33 pass0 rfl (T.g 33 (by decide)) (pa_cons (pv 0) pa_nil)) (pa_cons (pe_xfV (pe_excV K33 i33 t33 hr b33 pass0 rfl (T.g 33 (by decide)) (pa_cons (pv 0) pa_nil))) (pa_cons (pe_xfV (pe_excK K33 i33 t33 hr k33 pass0 rfl (T.g 33 (by decide)) (pk_cons (pv 0) pk_nil))) pa_nil)))) pa_nil)))
      (pss_cons (ps_expr (pe_bm PySem.F.plainAttrs_list PySem.F.slot_list_append PySem.F.type_list_append mt_append (pv 1) (pa_cons (pe_tup (pa_cons (pe_excV K34 i34 t34 hr b34 pass0 rfl (T.g 34 (by decide)) (pa_cons (pv 0) pa_nil)) (pa_cons (pe_xfV (pe_excV K34 i34 t34 hr b34 pass0 rfl (T.g 34 (by decide)) (pa_cons (pv 0) pa_nil))) (pa_cons (pe_xfV (pe_excK K34 i34 t34 hr k34 pass0 rfl (T.g 34 (by decide)) (pk_cons (pv 0) pk_nil))) pa_nil)))) pa_nil)))
      (pss_cons (ps_expr (pe_bm PySem.F.plainAttrs_list PySem.F.slot_list_append PySem.F.type_list_append mt_append (pv 1) (pa_cons (pe_tup (pa_cons (pe_excV K35 i35 t35 hr b35 pass0 rfl (T.g 35 (by decide)) (pa_cons (pv 0) pa_nil)) (pa_cons (pe_xfV (pe_excV K35 i35 t35 hr b35 pass0 rfl (T.g 35 (by decide)) (pa_cons (pv 0) pa_nil))) (pa_cons (pe_xfV (pe_excK K35 i35 t35 hr k35 pass0 rfl (T.g 35 (by decide)) (pk_cons (pv 0) pk_nil))) pa_nil)))) pa_nil)))
      (pss_cons (ps_expr (pe_bm PySem.F.plainAttrs_list PySem.F.slot_list_append PySem.F.type_list_append mt_append (pv 1) (pa_cons (pe_tup (pa_cons (pe_excV K36 i36 t36 hr b36 pass0 rfl (T.g 36 (by decide)) (pa_cons (pv 0) pa_nil)) (pa_cons (pe_xfV (pe_excV K36 i36 t36 hr b36 pass0 rfl (T.g 36 (by decide)) (pa_cons (pv 0) pa_nil))) (pa_cons (pe_xfV (pe_excK K36 i36 t36 hr k36 pass0 rfl (T.g 36 (by decide)) (pk_cons (pv 0) pk_nil))) pa_nil)))) pa_nil)))
      (pss_one (ps_ret (pv 1)))))))))))))))))))))))), ?_⟩
    refine ⟨by show 0 ≤ sizeLine; decide, fun q hq => ?_⟩
    let H0 : Hp := upd H q (.lst [])
    have s0 : Same H H0 := fun b o e => (upd_ne (ne_of_none e hq)).trans e
    have l0 : H0 q = some (.lst (([] : List Addr).map V.ref)) := upd_same
    have h0 : Threes cs H0 y [] [] := ⟨rfl, fun i t a e _ => by cases e⟩
    have z0 : ∀ t ∈ ([] : List Addr), t ≠ q := fun t h => by cases h
    have n0 : ([] : List Addr).length = 0 := rfl
    have r0 : ∀ b o, H b = some o → H0 b = some o := s0
    refine own_step T hG hr (i := 16) (by decide) (by decide) rfl rfl l0 S (data_same r0 d y hd) (by rw [n0]) h0 z0 fun ts1 as1 H1 f1 l1 m1 h1 z1 => ?_
    have n1 : ts1.length = 1 := by rw [m1, n0]
    have r1 : ∀ b o, H b = some o → H1 b = some o := fun b o e => f1 b o (r0 b o e) (ne_of_none e hq)
    refine own_step T hG hr (i := 17) (by decide) (by decide) rfl rfl l1 S (data_same r1 d y hd) (by rw [n1]) h1 z1 fun ts2 as2 H2 f2 l2 m2 h2 z2 => ?_
    have n2 : ts2.length = 2 := by rw [m2, n1]
    have r2 : ∀ b o, H b = some o → H2 b = some o := fun b o e => f2 b o (r1 b o e) (ne_of_none e hq)
    refine own_step T hG hr (i := 18) (by decide) (by decide) rfl rfl l2 S (data_same r2 d y hd) (by rw [n2]) h2 z2 fun ts3 as3 H3 f3 l3 m3 h3 z3 => ?_
    have n3 : ts3.length = 3 := by rw [m3, n2]
    have r3 : ∀ b o, H b = some o → H3 b = some o := fun b o e => f3 b o (r2 b o e) (ne_of_none e hq)
    refine own_step T hG hr (i := 19) (by decide) (by decide) rfl rfl l3 S (data_same r3 d y hd) (by rw [n3]) h3 z3 fun ts4 as4 H4 f4 l4 m4 h4 z4 => ?_
    have n4 : ts4.length = 4 := by rw [m4, n3]
    have r4 : ∀ b o, H b = some o → H4 b = some o := fun b o e => f4 b o (r3 b o e) (ne_of_none e hq)
    refine own_step T hG hr (i := 20) (by decide) (by decide) rfl rfl l4 S (data_same r4 d y hd) (by rw [n4]) h4 z4 fun ts5 as5 H5 f5 l5 m5 h5 z5 => ?_
    have n5 : ts5.length = 5 := by rw [m5, n4]
    have r5 : ∀ b o, H b = some o → H5 b = some o := fun b o e => f5 b o (r4 b o e) (ne_of_none e hq)
    refine own_step T hG hr (i := 21) (by decide) (by decide) rfl rfl l5 S (data_same r5 d y hd) (by rw [n5]) h5 z5 fun ts6 as6 H6 f6 l6 m6 h6 z6 => ?_
    have n6 : ts6.length = 6 := by rw [m6, n5]
    have r6 : ∀ b o, H b = some o → H6 b = some o := fun b o e => f6 b o (r5 b o e) (ne_of_none e hq)
    refine own_step T hG hr (i := 22) (by decide) (by decide) rfl rfl l6 S (data_same r6 d y hd) (by rw [n6]) h6 z6 fun ts7 as7 H7 f7 l7 m7 h7 z7 => ?_
    have n7 : ts7.length = 7 := by rw [m7, n6]
    have r7 : ∀ b o, H b = some o → H7 b = some o := fun b o e => f7 b o (r6 b o e) (ne_of_none e hq)
    refine own_step T hG hr (i := 23) (by decide) (by decide) rfl rfl l7 S (data_same r7 d y hd) (by rw [n7]) h7 z7 fun ts8 as8 H8 f8 l8 m8 h8 z8 => ?_
    have n8 : ts8.length = 8 := by rw [m8, n7]
    have r8 : ∀ b o, H b = some o → H8 b = some o := fun b o e => f8 b o (r7 b o e) (ne_of_none e hq)
    refine own_step T hG hr (i := 24) (by decide) (by decide) rfl rfl l8 S (data_same r8 d y hd) (by rw [n8]) h8 z8 fun ts9 as9 H9 f9 l9 m9 h9 z9 => ?_
    have n9 : ts9.length = 9 := by rw [m9, n8]
    have r9 : ∀ b o, H b = some o → H9 b = some o := fun b o e => f9 b o (r8 b o e) (ne_of_none e hq)
    refine own_step T hG hr (i := 25) (by decide) (by decide) rfl rfl l9 S (data_same r9 d y hd) (by rw [n9]) h9 z9 fun ts10 as10 H10 f10 l10 m10 h10 z10 => ?_
    have n10 : ts10.length = 10 := by rw [m10, n9]
    have r10 : ∀ b o, H b = some o → H10 b = some o := fun b o e => f10 b o (r9 b o e) (ne_of_none e hq)
    refine own_step T hG hr (i := 26) (by decide) (by decide) rfl rfl l10 S (data_same r10 d y hd) (by rw [n10]) h10 z10 fun ts11 as11 H11 f11 l11 m11 h11 z11 => ?_
    have n11 : ts11.length = 11 := by rw [m11, n10]
    have r11 : ∀ b o, H b = some o → H11 b = some o := fun b o e => f11 b o (r10 b o e) (ne_of_none e hq)
    refine own_step T hG hr (i := 27) (by decide) (by decide) rfl rfl l11 S (data_same r11 d y hd) (by rw [n11]) h11 z11 fun ts12 as12 H12 f12 l12 m12 h12 z12 => ?_
    have n12 : ts12.length = 12 := by rw [m12, n11]
    have r12 : ∀ b o, H b = some o → H12 b = some o := fun b o e => f12 b o (r11 b o e) (ne_of_none e hq)
    refine own_step T hG hr (i := 28) (by decide) (by decide) rfl rfl l12 S (data_same r12 d y hd) (by rw [n12]) h12 z12 fun ts13 as13 H13 f13 l13 m13 h13 z13 => ?_
    have n13 : ts13.length = 13 := by rw [m13, n12]
    have r13 : ∀ b o, H b = some o → H13 b = some o := fun b o e => f13 b o (r12 b o e) (ne_of_none e hq)
    refine own_step T hG hr (i := 29) (by decide) (by decide) rfl rfl l13 S (data_same r13 d y hd) (by rw [n13]) h13 z13 fun ts14 as14 H14 f14 l14 m14 h14 z14 => ?_
    have n14 : ts14.length = 14 := by rw [m14, n13]
    have r14 : ∀ b o, H b = some o → H14 b = some o := fun b o e => f14 b o (r13 b o e) (ne_of_none e hq)
    refine own_step T hG hr (i := 30) (by decide) (by decide) rfl rfl l14 S (data_same r14 d y hd) (by rw [n14]) h14 z14 fun ts15 as15 H15 f15 l15 m15 h15 z15 => ?_
    have n15 : ts15.length = 15 := by rw [m15, n14]
    have r15 : ∀ b o, H b = some o → H15 b = some o := fun b o e => f15 b o (r14 b o e) (ne_of_none e hq)
    refine own_step T hG hr (i := 31) (by decide) (by decide) rfl rfl l15 S (data_same r15 d y hd) (by rw [n15]) h15 z15 fun ts16 as16 H16 f16 l16 m16 h16 z16 => ?_
    have n16 : ts16.length = 16 := by rw [m16, n15]
    have r16 : ∀ b o, H b = some o → H16 b = some o := fun b o e => f16 b o (r15 b o e) (ne_of_none e hq)
    refine own_step T hG hr (i := 32) (by decide) (by decide) rfl rfl l16 S (data_same r16 d y hd) (by rw [n16]) h16 z16 fun ts17 as17 H17 f17 l17 m17 h17 z17 => ?_
    have n17 : ts17.length = 17 := by rw [m17, n16]
    have r17 : ∀ b o, H b = some o → H17 b = some o := fun b o e => f17 b o (r16 b o e) (ne_of_none e hq)
    refine own_step T hG hr (i := 33) (by decide) (by decide) rfl rfl l17 S (data_same r17 d y hd) (by rw [n17]) h17 z17 fun ts18 as18 H18 f18 l18 m18 h18 z18 => ?_
    have n18 : ts18.length = 18 := by rw [m18, n17]
    have r18 : ∀ b o, H b = some o → H18 b = some o := fun b o e => f18 b o (r17 b o e) (ne_of_none e hq)
    refine own_step T hG hr (i := 34) (by decide) (by decide) rfl rfl l18 S (data_same r18 d y hd) (by rw [n18]) h18 z18 fun ts19 as19 H19 f19 l19 m19 h19 z19 => ?_
    have n19 : ts19.length = 19 := by rw [m19, n18]
    have r19 : ∀ b o, H b = some o → H19 b = some o := fun b o e => f19 b o (r18 b o e) (ne_of_none e hq)
    refine own_step T hG hr (i := 35) (by decide) (by decide) rfl rfl l19 S (data_same r19 d y hd) (by rw [n19]) h19 z19 fun ts20 as20 H20 f20 l20 m20 h20 z20 => ?_
    have n20 : ts20.length = 20 := by rw [m20, n19]
    have r20 : ∀ b o, H b = some o → H20 b = some o := fun b o e => f20 b o (r19 b o e) (ne_of_none e hq)
    refine own_step T hG hr (i := 36) (by decide) (by decide) rfl rfl l20 S (data_same r20 d y hd) (by rw [n20]) h20 z20 fun ts21 as21 H21 f21 l21 m21 h21 z21 => ?_
    have n21 : ts21.length = 21 := by rw [m21, n20]
    have r21 : ∀ b o, H b = some o → H21 b = some o := fun b o e => f21 b o (r20 b o e) (ne_of_none e hq)
    exact ⟨_, rfl, k q ts21 as21 H21 r21 l21 n21 h21⟩
end
end K
end
section
set_option linter.all false
set_option maxRecDepth 100000
set_option maxHeartbeats 8000000
namespace K
open PySem PySem.Spec PyProof.Rows L2 Ob
/-- what may be drawn -/
def menu : List PyData := [.none, .bool false, .int (-5), .int (10 ^ 45), .str (PySem.Str.ofString ""), .str (PySem.Str.ofString "wide"), .str (PySem.Str.ofString "two words"), .list [], .list [.tuple [.int 0, .int 2]], .tuple [], .tuple [.int 4], .dict [],
  .dict [(.str (PySem.Str.ofString "a"), .tuple [.int 1])], .list [.list [.none]]]
theorem menu_small : ∀ (i : Nat) (m : PyData), menu[i]? = some m → Small m := by
  have all : ∀ m ∈ menu, m.showable = true ∧ (m.hasDict = true → noList m = true) ∧ m.shown.length ≤ 1000 ∧ m.depth ≤ 50 := by decide +kernel
  intro i m h
  obtain ⟨h1, h2, h3, h4⟩ := all m (List.mem_of_getElem? h)
  refine ⟨h1, h2, by omega, h4, fun x e => ?_⟩
  have tx : ∀ m ∈ menu, (match m with | .str x => x.length | _ => 0) ≤ 1000 := by decide +kernel
  have := tx m (List.mem_of_getElem? h)
  subst e
  have this : x.length ≤ 1000 := this
  omega
def spAny : Sp := fun vs H Q _ => ∃ (d l c : Addr), vs = [.ref d] ∧ DrawAt H d l c ∧
  ∀ (i : Nat) (m : PyData) (v : V) (H' : Hp), menu[i]? = some m → DataAt H' m v → DrawAt H' d l c → Kept H H' d l → Q v H'
section
variable {P : Program} {w : World} {K : PySem.W.Frag} {mg : Str → Option Value} {base : Heap}
theorem new_same {H : Hp} {p : Addr} {o : HO} (h : H p = none) : ∀ b u, H b = some u → upd H p o b = some u := fun b u e => (upd_ne (ne_of_none e h)).trans e
theorem scA : FnScope ["draw", "some"] ["draw"] (defScope sAny) := ⟨rfl, rfl, rfl, by decide +kernel, rfl, by decide +kernel, by decide +kernel⟩
theorem ok_any {f fP : Addr} {fd fdP : FuncData} (F : Fun K "_law_any" "_law_any" sAny f fd) (FP : Fun K "_law_pick" "_law_pick" sPick fP fdP) (GP : FnOk P w K mg base CX0 3 fP fdP ["draw", "some"] spPick) (bP : L2.Binds K fdP ["draw", "some"] []) (gP : mg "_law_pick" = some (.ref fP)) :
    FnOk P w K mg base CX0 4 f fd ["draw"] spAny := by
  refine F.ok scA (fun vs H Q E h => ?_) (fun cdv A outer s H vs Q E hr h => ?_)
  · obtain ⟨d, l, c, rfl, _⟩ := h
    rfl
  · obtain ⟨d, l, c, rfl, D, k⟩ := h
    refine ⟨_, pss_cons (ps_set (i := 1) scA.nd rfl (Or.inl rfl) (pe_lst (pa_cons pe_non (pa_cons pe_bl (pa_cons (pe_un un_neg pe_int) (pa_cons (pe_op op_pow pe_int pe_int) (pa_cons pe_str (pa_cons pe_str (pa_cons pe_str
        (pa_cons (pe_lst pa_nil) (pa_cons (pe_lst (pa_cons (pe_tup (pa_cons pe_int (pa_cons pe_int pa_nil))) pa_nil)) (pa_cons (pe_tup pa_nil) (pa_cons (pe_tup (pa_cons pe_int pa_nil)) (pa_cons pe_dnewK
        (pa_cons (pe_disp (pps_cons pe_str (pe_tup (pa_cons pe_int pa_nil)) pps_nil) rfl rfl (by simp) (by decide)) (pa_cons (pe_lst (pa_cons (pe_lst (pa_cons pe_non pa_nil)) pa_nil)) pa_nil))))))))))))))))
      (pss_one (ps_ret (pe_call GP hr rfl gP FP.kp bP .nil pass0 (pa_cons (pv 0) (pa_cons (pv 1) pa_nil))))), ?_⟩
    obtain ⟨⟨rest, turn, h0, hd⟩, ⟨ns, n1, n2, hl⟩, ⟨cns, c1, c2, hc⟩, ne⟩ := id D
    have fits : ∀ n : Nat, n ≤ 100 → n ≤ sizeLine := fun n h => by
      rw [sizeLine_eq]
      omega
    refine ⟨_, rfl, 10, 45, rfl, rfl, ⟨by decide, by decide, by decide⟩, ?_⟩
    refine ⟨fits 0 (by decide), fun p1 q1 => ?_⟩
    have s1 := new_same (o := .lst []) q1
    have a1 : upd H p1 (.lst []) p1 = some (.lst []) := upd_same
    generalize upd H p1 (.lst []) = G1 at s1 a1 ⊢
    refine ⟨fits 2 (by decide), fun p2 q2 => ?_⟩
    have s2 := new_same (o := .tup [.int 0, .int 2]) q2
    have a2 : upd G1 p2 (.tup [.int 0, .int 2]) p2 = some (.tup [.int 0, .int 2]) := upd_same
    generalize upd G1 p2 (.tup [.int 0, .int 2]) = G2 at s2 a2 ⊢
    refine ⟨fits 1 (by decide), fun p3 q3 => ?_⟩
    have s3 := new_same (o := .lst [.ref p2]) q3
    have a3 : upd G2 p3 (.lst [.ref p2]) p3 = some (.lst [.ref p2]) := upd_same
    generalize upd G2 p3 (.lst [.ref p2]) = G3 at s3 a3 ⊢
    refine ⟨fits 0 (by decide), fun p4 q4 => ?_⟩
    have s4 := new_same (o := .tup []) q4
    have a4 : upd G3 p4 (.tup []) p4 = some (.tup []) := upd_same
    generalize upd G3 p4 (.tup []) = G4 at s4 a4 ⊢
    refine ⟨fits 1 (by decide), fun p5 q5 => ?_⟩
    have s5 := new_same (o := .tup [.int 4]) q5
    have a5 : upd G4 p5 (.tup [.int 4]) p5 = some (.tup [.int 4]) := upd_same
    generalize upd G4 p5 (.tup [.int 4]) = G5 at s5 a5 ⊢
    refine fun p6 q6 => ?_
    have s6 := new_same (o := .dK []) q6
    have a6 : upd G5 p6 (.dK []) p6 = some (.dK []) := upd_same
    generalize upd G5 p6 (.dK []) = G6 at s6 a6 ⊢
    refine fun p7 q7 => ?_
    have s7 := new_same (o := .dK []) q7
    have a7 : upd G6 p7 (.dK []) p7 = some (.dK []) := upd_same
    have n67 : ∀ b o, G6 b = some o → b ≠ p7 := fun b o e => ne_of_none e q7
    generalize upd G6 p7 (.dK []) = G7 at s7 a7 ⊢
    refine ⟨fits 1 (by decide), fun p8 q8 => ?_⟩
    have s8 := new_same (o := .tup [.int 1]) q8
    have a8 : upd G7 p8 (.tup [.int 1]) p8 = some (.tup [.int 1]) := upd_same
    have n87 : p8 ≠ p7 := fun z => by
      rw [z, a7] at q8
      cases q8
    generalize upd G7 p8 (.tup [.int 1]) = G8 at s8 a8 ⊢
    refine ⟨s8 _ _ a7, [(Sum.inr "a", .ref p8)], rfl, (by show 1 ≤ 15; decide), ?_⟩
    have s9 : ∀ b o, G8 b = some o → b ≠ p7 → upd G8 p7 (.dK (mergeK [] [(Sum.inr "a", .ref p8)])) b = some o := fun b o e ne => (upd_ne ne).trans e
    have a9 : upd G8 p7 (.dK (mergeK [] [(Sum.inr "a", .ref p8)])) p7 = some (.dK [(Sum.inr "a", .ref p8)]) := by
      rw [upd_same]
      rfl
    generalize upd G8 p7 (.dK (mergeK [] [(Sum.inr "a", .ref p8)])) = G9 at s9 a9 ⊢
    refine ⟨fits 1 (by decide), fun p10 q10 => ?_⟩
    have s10 := new_same (o := .lst [.non]) q10
    have a10 : upd G9 p10 (.lst [.non]) p10 = some (.lst [.non]) := upd_same
    generalize upd G9 p10 (.lst [.non]) = G10 at s10 a10 ⊢
    refine ⟨fits 1 (by decide), fun p11 q11 => ?_⟩
    have s11 := new_same (o := .lst [.ref p10]) q11
    have a11 : upd G10 p11 (.lst [.ref p10]) p11 = some (.lst [.ref p10]) := upd_same
    generalize upd G10 p11 (.lst [.ref p10]) = G11 at s11 a11 ⊢
    refine ⟨fits 14 (by decide), fun p12 q12 => ?_⟩
    have s12 := new_same (o := .lst [.non, .bl false, .int (-5), .int (10 ^ 45), .str (PySem.Str.ofString ""), .str (PySem.Str.ofString "wide"), .str (PySem.Str.ofString "two words"), .ref p1, .ref p3, .ref p4, .ref p5, .ref p6, .ref p7, .ref p11]) q12
    have a12 : upd G11 p12 (.lst [.non, .bl false, .int (-5), .int (10 ^ 45), .str (PySem.Str.ofString ""), .str (PySem.Str.ofString "wide"), .str (PySem.Str.ofString "two words"), .ref p1, .ref p3, .ref p4, .ref p5, .ref p6, .ref p7, .ref p11]) p12 = some _ := upd_same
    show tRet (tCall spPick [] E0 (tCons (tVar 0) (tCons (tVar 1) tNil))) { nx := fun x H' => Q .non H', rt := Q } [some (.ref d), some (.ref p12)] (upd G11 p12 (.lst [.non, .bl false, .int (-5), .int (10 ^ 45), .str (PySem.Str.ofString ""), .str (PySem.Str.ofString "wide"), .str (PySem.Str.ofString "two words"), .ref p1, .ref p3, .ref p4, .ref p5, .ref p6, .ref p7, .ref p11]))
    generalize upd G11 p12 (.lst [.non, .bl false, .int (-5), .int (10 ^ 45), .str (PySem.Str.ofString ""), .str (PySem.Str.ofString "wide"), .str (PySem.Str.ofString "two words"), .ref p1, .ref p3, .ref p4, .ref p5, .ref p6, .ref p7, .ref p11]) = G12 at s12 a12 ⊢
    -- what stood, and what is new
    have t12 : ∀ b u, G9 b = some u → G12 b = some u := fun b u e => s12 b u (s11 b u (s10 b u e))
    have t6 : ∀ b u, G6 b = some u → G12 b = some u := fun b u e => t12 b u (s9 b u (s8 b u (s7 b u e)) (n67 b u e))
    have t0 : ∀ b u, H b = some u → G6 b = some u := fun b u e => s6 b u (s5 b u (s4 b u (s3 b u (s2 b u (s1 b u e)))))
    have tH : ∀ b u, H b = some u → G12 b = some u := fun b u e => t6 b u (t0 b u e)
    have hd12 := tH _ _ hd
    have hl12 := tH _ _ hl
    have D12 : DrawAt G12 d l c := ⟨⟨rest, turn, h0, hd12⟩, ⟨ns, n1, n2, hl12⟩, ⟨cns, c1, c2, tH _ _ hc⟩, ne⟩
    have old1 : ∀ b u, H b = some u → G1 b = some u := s1
    have old2 : ∀ b u, H b = some u → G2 b = some u := fun b u e => s2 b u (old1 b u e)
    have old3 : ∀ b u, H b = some u → G3 b = some u := fun b u e => s3 b u (old2 b u e)
    have old4 : ∀ b u, H b = some u → G4 b = some u := fun b u e => s4 b u (old3 b u e)
    have old5 : ∀ b u, H b = some u → G5 b = some u := fun b u e => s5 b u (old4 b u e)
    have old7 : ∀ b u, H b = some u → G7 b = some u := fun b u e => s7 b u (t0 b u e)
    have old9 : ∀ b u, H b = some u → G9 b = some u := fun b u e => s9 b u (s8 b u (old7 b u e)) (n67 b u (t0 b u e))
    have old11 : ∀ b u, H b = some u → G11 b = some u := fun b u e => s11 b u (s10 b u (old9 b u e))
    have away : ∀ {G : Hp} {p : Addr}, G p = none → (∀ b u, H b = some u → G b = some u) → p ≠ d ∧ p ≠ l := fun q o => ⟨Ne.symm (ne_of_none (o _ _ hd) q), Ne.symm (ne_of_none (o _ _ hl) q)⟩
    let R : Hp := fun b => if b = d ∨ b = l then none else G12 b
    have rd : ∀ {p : Addr} {u : HO}, G12 p = some u → p ≠ d ∧ p ≠ l → R p = some u := fun {p u} e n => by
      show (if p = d ∨ p = l then none else G12 p) = some u
      rw [if_neg (fun z => z.elim n.1 n.2)]
      exact e
    have e6 : ∀ b u, G1 b = some u → G6 b = some u := fun b u e => s6 b u (s5 b u (s4 b u (s3 b u (s2 b u e))))
    have r1 := rd (t6 _ _ (e6 _ _ a1)) (away q1 fun _ _ e => e)
    have r2 := rd (t6 _ _ (s6 _ _ (s5 _ _ (s4 _ _ (s3 _ _ a2))))) (away q2 old1)
    have r3 := rd (t6 _ _ (s6 _ _ (s5 _ _ (s4 _ _ a3)))) (away q3 old2)
    have r4 := rd (t6 _ _ (s6 _ _ (s5 _ _ a4))) (away q4 old3)
    have r5 := rd (t6 _ _ (s6 _ _ a5)) (away q5 old4)
    have r6 := rd (t6 _ _ a6) (away q6 old5)
    have r7 := rd (t12 _ _ a9) (away q7 t0)
    have r8 := rd (t12 _ _ (s9 _ _ a8 n87)) (away q8 old7)
    have r10 := rd (s12 _ _ (s11 _ _ a10)) (away q10 old9)
    have r11 := rd (s12 _ _ a11) (away q11 fun b u e => s10 b u (old9 b u e))
    have n12 := away q12 old11
    refine ⟨_, rfl, _, rfl, d, l, c, p12, _, rfl, D12, a12, n12.2, (by show 0 < 14; decide), (by show 14 < 1000; decide), fun i v H' hi D' kp => ?_⟩
    have sR : ∀ b u, R b = some u → H' b = some u := fun b u e => by
      have e : (if b = d ∨ b = l then none else G12 b) = some u := e
      by_cases q : b = d ∨ b = l
      · rw [if_pos q] at e
        cases e
      · rw [if_neg q] at e
        exact kp b u e (fun z => q (.inl z)) fun z => q (.inr z)
    have fin : ∀ m, menu[i]? = some m → DataAt R m v → Q v H' := fun m hm hdat => k i m v H' hm (data_same sR m v hdat) D' fun b u e h1 h2 => kp b u (tH b u e) h1 h2
    match i, hi with
    | 0, hi => cases hi; exact fin _ rfl (by simp only [DataAt])
    | 1, hi => cases hi; exact fin _ rfl (by simp only [DataAt])
    | 2, hi => cases hi; exact fin _ rfl (by simp only [DataAt])
    | 3, hi => cases hi; exact fin _ rfl (by simp only [DataAt])
    | 4, hi => cases hi; exact fin _ rfl (by simp only [DataAt])
    | 5, hi => cases hi; exact fin _ rfl (by simp only [DataAt])
    | 6, hi => cases hi; exact fin _ rfl (by simp only [DataAt])
    | 7, hi => cases hi; exact fin _ rfl (by simp only [DataAt, DataAll]; exact ⟨_, _, rfl, r1, rfl⟩)
    | 8, hi => cases hi; exact fin _ rfl (by simp only [DataAt, DataAll]; exact ⟨_, _, rfl, r3, _, _, rfl, ⟨_, _, rfl, r2, _, _, rfl, rfl, _, _, rfl, rfl, rfl⟩, rfl⟩)
    | 9, hi => cases hi; exact fin _ rfl (by simp only [DataAt, DataAll]; exact ⟨_, _, rfl, r4, rfl⟩)
    | 10, hi => cases hi; exact fin _ rfl (by simp only [DataAt, DataAll]; exact ⟨_, _, rfl, r5, _, _, rfl, rfl, rfl⟩)
    | 11, hi => cases hi; exact fin _ rfl (by simp only [DataAt, DataKvs]; exact ⟨_, _, rfl, r6, rfl⟩)
    | 12, hi => cases hi; exact fin _ rfl (by simp only [DataAt, DataKvs, DataAll]; exact ⟨_, _, rfl, r7, _, _, _, rfl, rfl, ⟨_, _, rfl, r8, _, _, rfl, rfl, rfl⟩, rfl⟩)
    | 13, hi => cases hi; exact fin _ rfl (by simp only [DataAt, DataAll]; exact ⟨_, _, rfl, r11, _, _, rfl, ⟨_, _, rfl, r10, _, _, rfl, rfl, rfl⟩, rfl⟩)
    | i + 14, hi => cases hi
end
end K
end
section
set_option linter.all false
set_option maxRecDepth 100000
set_option maxHeartbeats 8000000
namespace K
open PySem PySem.Spec PyProof.Rows L2 Ob
abbrev NL : List Str := ["script", "draw", "words_here", "each", "threes_here", "errors_here", "spot", "error", "base_here", "item", "k"]
def spLaw (K : PySem.W.Frag) : Sp := fun vs H Q _ => ∃ (a : Addr) (ns : List Int), vs = [.ref a] ∧ SqL K H a (ns.map V.int) ∧ ns.length ≤ 63 ∧ ∀ H', Q (.bl true) H'
/-- the defs that the law calls -/
structure Defs (P : Program) (w : World) (K : PySem.W.Frag) (mg : Str → Option Value) (base : Heap) (cs : Nat → Addr) : Prop where
  begun : ∃ f fd, FnOk P w K mg base CX0 1 f fd ["script"] (spBegun K) ∧ L2.Binds K fd ["script"] [] ∧ mg "_law_begun" = some (.ref f) ∧ PySem.W.keepIn K (.ref f) = true
  pick : ∃ f fd, FnOk P w K mg base CX0 3 f fd ["draw", "some"] spPick ∧ L2.Binds K fd ["draw", "some"] [] ∧ mg "_law_pick" = some (.ref f) ∧ PySem.W.keepIn K (.ref f) = true
  any : ∃ f fd, FnOk P w K mg base CX0 4 f fd ["draw"] spAny ∧ L2.Binds K fd ["draw"] [] ∧ mg "_law_any" = some (.ref f) ∧ PySem.W.keepIn K (.ref f) = true
  kinds : ∃ f fd, FnOk P w K mg base CX0 1 f fd ["error"] (spKinds cs) ∧ L2.Binds K fd ["error"] [] ∧ mg "_law_kinds" = some (.ref f) ∧ PySem.W.keepIn K (.ref f) = true
  plain : ∃ f fd, FnOk P w K mg base CX0 1 f fd ["words_here"] (spPlain cs) ∧ L2.Binds K fd ["words_here"] [] ∧ mg "_law_plain_errors" = some (.ref f) ∧ PySem.W.keepIn K (.ref f) = true
  own : ∃ f fd, FnG P w K mg base 3 f fd ["each"] (spOwn cs) ∧ L2.Binds K fd ["each"] [] ∧ mg "_law_errors_of" = some (.ref f) ∧ PySem.W.keepIn K (.ref f) = true
  enu : mg "enumerate" = none
  rng : mg "range" = none
  rpr : mg "repr" = none
  val : mg "ValueError" = none
theorem bools_lay : ∀ bs : List Bool, PyData.canLay0 (.list (bs.map PyData.bool)) = true ∧ (PyData.list (bs.map PyData.bool)).depth ≤ 1 ∧ PyData.eqv (.list (bs.map PyData.bool)) (.list (bs.map PyData.bool)) = true
  | [] => ⟨by simp [PyData.canLay0, PyData.canLayAll0], by simp [PyData.depth, PyData.depthAll], by simp [PyData.eqv, PyData.eqvAll]⟩
  | n :: ns => by
    obtain ⟨h1, h2, h3⟩ := bools_lay ns
    simp only [List.map_cons, PyData.canLay0, PyData.canLayAll0, PyData.depth, PyData.depthAll, PyData.eqv, PyData.eqvAll] at h1 h2 h3 ⊢
    refine ⟨by simp [h1], by omega, by simp [h3]⟩
theorem bools_shaped (bs : List Bool) : SeqAt.shaped (.list (bs.map PyData.bool)) = true := by
  unfold SeqAt.shaped
  rw [(bools_lay bs).1, Bool.true_and]
  exact decide_eq_true (Nat.le_trans (bools_lay bs).2.1 (by decide))
theorem dp_bools {K : PySem.W.Frag} {H : Hp} : ∀ bs : List Bool, DpAll K H (bs.map V.bl) (bs.map PyData.bool)
  | [] => .nil
  | n :: ns => .cons (.bl n) (dp_bools ns)
theorem twice_small : ∀ (i : Nat) (m : PyData), menu[i]? = some m → (PyData.list [m, m]).showable = true ∧ (PyData.list [m, m]).shown.length ≤ 100000 ∧ (PyData.list [m, m]).depth ≤ 50 ∧ ((PyData.list [m, m]).hasDict = true → noListAll [m, m] = true) := by
  have all : ∀ m ∈ menu, (PyData.list [m, m]).showable = true ∧ (PyData.list [m, m]).shown.length ≤ 2000 ∧ (PyData.list [m, m]).depth ≤ 50 ∧ ((PyData.list [m, m]).hasDict = true → noListAll [m, m] = true) := by decide +kernel
  intro i m h
  obtain ⟨h1, h2, h3, h4⟩ := all m (List.mem_of_getElem? h)
  exact ⟨h1, by omega, h3, h4⟩
theorem draw_same {H H' : Hp} {d l c : Addr} (D : DrawAt H d l c) (s : ∀ b o, H b = some o → H' b = some o) : DrawAt H' d l c := by
  obtain ⟨⟨r, t, h0, h1⟩, ⟨ns, n1, n2, n3⟩, ⟨cn, c1, c2, c3⟩, ne⟩ := D
  exact ⟨⟨r, t, h0, s _ _ h1⟩, ⟨ns, n1, n2, s _ _ n3⟩, ⟨cn, c1, c2, s _ _ c3⟩, ne⟩
section
variable {P : Program} {w : World} {K : PySem.W.Frag} {mg : Str → Option Value} {base : Heap} {cs : Nat → Addr}
theorem scL : FnScope NL ["script"] (defScope sLaw) := ⟨rfl, rfl, rfl, by decide +kernel, rfl, by decide +kernel, by decide +kernel⟩
theorem ok_law {f : Addr} {fd : FuncData} (F : Fun K "law" "law" sLaw f fd) (T : Cl P K mg cs) (Df : Defs P w K mg base cs) : FnG P w K mg base 6 f fd ["script"] (spLaw K) := by
  obtain ⟨fB, dB, GB, bB, gB, kB⟩ := Df.begun
  obtain ⟨fP, dP, GP, bP, gP, kP⟩ := Df.pick
  obtain ⟨fA, dA, GA, bA, gA, kA⟩ := Df.any
  obtain ⟨fK, dK, GK, bK, gK, kK⟩ := Df.kinds
  obtain ⟨fS, dS, GS, bS, gS, kS⟩ := Df.plain
  obtain ⟨fO, dO, GO, bO, gO, kO⟩ := Df.own
  refine fnG_of F scL (fun vs H Q E h => ?_) (fun cdv A outer s H vs Q E hG hr h => ?_)
  · obtain ⟨a, ns, rfl, _⟩ := h
    rfl
  · obtain ⟨a, ns, rfl, hS, hlen, k⟩ := h
    have hu64 := hr.units
    have hu60 : (A.deeper (envOfC "law" (defScope sLaw) s.heap.objs.size f cdv)).units + 60 < cLine := by omega
    have r1 := hr.mono (show 1 ≤ 5 by decide)
    have r3 := hr.mono (show 3 ≤ 5 by decide)
    have r4 := hr.mono (show 4 ≤ 5 by decide)
    refine ⟨_, PSs.nox (pss_cons (ps_set (i := 1) scL.nd rfl (Or.inl rfl) (pe_call GB r1 rfl gB kB bB .nil pass0 (pa_cons (pv 0) pa_nil)))
      (pss_cons (ps_asg (pe_tup (pa_cons (pe_call GP r3 rfl gP kP bP .nil pass0 (pa_cons (pv 1) (pa_cons (pe_lst (pa_cons pe_str (pa_cons pe_str (pa_cons pe_str pa_nil)))) pa_nil))) (pa_cons (pe_call GA r4 rfl gA kA bA .nil pass0 (pa_cons (pv 1) pa_nil)) pa_nil)))
          (pg_tup rfl (pgs_cons (pg_name (i := 2) scL.nd rfl (Or.inl rfl)) (pgs_cons (pg_name (i := 3) scL.nd rfl (Or.inr rfl)) pgs_nil))))
      (pss_cons (ps_set (i := 4) scL.nd rfl (Or.inl rfl) (pe_callG hG GO r3 rfl gO kO bO (pa_cons (pv 3) pa_nil)))
      (pss_cons (ps_set (i := 5) scL.nd rfl (Or.inl rfl) (pe_op op_cat (pe_call GS r1 rfl gS kS bS .nil pass0 (pa_cons (pv 2) pa_nil))
          (pe_lc (own := [("item", 9)]) (g := gName 9) (tt := tYes) rfl scL.nd (pi_list (pv 4)) (blkOk_by (N := NL) (sc := defScope sLaw) (by decide +kernel)) (fun _ _ _ _ _ => pg_name (i := 9) scL.nd rfl (Or.inl rfl)) (fun _ _ _ _ _ => pts_nil)
            (fun _ _ _ _ _ => pe_ix (ix_tup : IxR _ (rIxT K)) (pv 9) pe_int (fun _ _ => rfl)))))
      (pss_cons (ps_for PassesOwn.never rfl (pi_enum (by rfl) Df.enu (pa_cons (pv 5) pa_nil)) (pg_tup rfl (pgs_cons (pg_name (i := 6) scL.nd rfl (Or.inr rfl)) (pgs_cons (pg_name (i := 7) scL.nd rfl (Or.inl rfl)) pgs_nil)))
          (pss_cons (ps_if (pt_cmpR (op_neD hu64) (pe_call GK r1 rfl gK kK bK .nil pass0 (pa_cons (pv 7) pa_nil))
              (pe_lc (own := [("k", 10)]) (g := gName 10) (tt := tYes) rfl scL.nd (pi_range1 (by rfl) Df.rng (pa_cons pe_int pa_nil)) (blkOk_by (N := NL) (sc := defScope sLaw) (by decide +kernel)) (fun _ _ _ _ _ => pg_name (i := 10) scL.nd rfl (Or.inl rfl)) (fun _ _ _ _ _ => pts_nil)
                (fun _ _ _ _ _ => pe_cmpR op_eq (pv 10) (pv 6) (nomark _))) (nomark _)) (pss_one (ps_ret pe_bl)) pss_nil)
          (pss_one (ps_if (pw_or (pt_not (pt_val (pe_callB call_isX (by rfl) T.isi (by decide +kernel) (pa_cons (pv 7) (pa_cons (pe_glob (v := .ref (cs 37)) (by rfl) (T.g 37 (by decide)) rfl) pa_nil)))))
              (pw_or1 (pt_not (pt_val (pe_callB call_isX (by rfl) T.isi (by decide +kernel) (pa_cons (pv 7) (pa_cons (pe_bltn (v := .ty "ValueError") (by rfl) Df.val (by decide +kernel) rfl) pa_nil))))))).pt (pss_one (ps_ret pe_bl)) pss_nil))))
      (pss_cons (ps_if (pt_cmpR (op_neD hu64) (pe_lc (own := [("item", 9)]) (g := gName 9) rfl scL.nd (pi_list (pv 4)) (blkOk_by (N := NL) (sc := defScope sLaw) (by decide +kernel)) (fun _ _ _ _ _ => pg_name (i := 9) scL.nd rfl (Or.inl rfl))
            (fun _ _ _ _ _ => pts_one (pt_cmpR op_ne (pe_callB (call_reprL hG hu60) (by rfl) Df.rpr (by decide +kernel) (pa_cons (pe_lst (pa_cons (pe_ix (ix_tup : IxR _ (rIxT K)) (pv 9) pe_int (fun _ _ => rfl)) (pa_cons (pe_ix (ix_tup : IxR _ (rIxT K)) (pv 9) pe_int (fun _ _ => rfl)) pa_nil))) pa_nil))
              (pe_callB (call_reprL hG hu60) (by rfl) Df.rpr (by decide +kernel) (pa_cons (pe_lst (pa_cons (pv 3) (pa_cons (pv 3) pa_nil))) pa_nil)) (nomark _)))
            (fun _ _ _ _ _ => pe_int)) (pe_lst pa_nil) (nomark _)) (pss_one (ps_ret pe_bl)) pss_nil)
      (pss_cons (ps_set (i := 8) scL.nd rfl (Or.inl rfl) (pe_exc1 PySem.F.excBase_ValueError (T.plain 37 (by decide)).1 (T.g 37 (by decide)) (T.plain 37 (by decide)).2 rfl pe_str))
      (pss_one (ps_ret (pe_and (pe_cmpR op_notIn_seq pe_bl (pe_call GK r1 rfl gK kK bK .nil pass0 (pa_cons (pv 8) pa_nil)) (by rfl))
        (pe_one (pe_callB call_isX (by rfl) T.isi (by decide +kernel) (pa_cons (pv 8) (pa_cons (pe_bltn (v := .ty "ValueError") (by rfl) Df.val (by decide +kernel) rfl) pa_nil)))))))))))))), ?_⟩
    have fits : ∀ n : Nat, n ≤ 1000 → n ≤ sizeLine := fun n h => by
      rw [sizeLine_eq]
      omega
    -- draw
    refine ⟨_, rfl, a, ns, rfl, hS, hlen, fun d l c H1 s1 D1 => ?_⟩
    -- words_here, each
    refine ⟨_, rfl, fits 3 (by decide), fun p hp => ?_⟩
    have s2 := new_same (o := .lst [.str (PySem.Str.ofString ""), .str (PySem.Str.ofString "w"), .str (PySem.Str.ofString "nothing of the kind")]) hp
    have a2 : upd H1 p (.lst [.str (PySem.Str.ofString ""), .str (PySem.Str.ofString "w"), .str (PySem.Str.ofString "nothing of the kind")]) p = some _ := upd_same
    have npl : p ≠ l := by
      obtain ⟨_, ⟨_, _, _, h⟩, _, _⟩ := D1
      exact Ne.symm (ne_of_none h hp)
    refine ⟨d, l, c, p, _, rfl, draw_same D1 s2, a2, npl, (by show 0 < 3; decide), (by show 3 < 1000; decide), fun i v H2 _ D2 _ => ?_⟩
    refine ⟨_, rfl, d, l, c, rfl, D2, fun j m y H3 hm hy D3 _ => ?_⟩
    refine ⟨fits 2 (by decide), fun t ht => ?_⟩
    have s4 := new_same (o := .tup [v, y]) ht
    have a4 : upd H3 t (.tup [v, y]) t = some (.tup [v, y]) := upd_same
    refine ⟨t, _, rfl, SqT.of a4, rfl, _, _, rfl, _, _, rfl, rfl, ?_⟩
    have hy4 := data_same s4 m y hy
    generalize upd H3 t (.tup [v, y]) = H4 at s4 a4 hy4 ⊢
    -- threes_here
    refine ⟨_, rfl, y, m, rfl, hy4, menu_small j m hm, fun p3 ts as H5 s5 hp3 ht3 th => ?_⟩
    have hy5 := data_same s5 m y hy4
    -- errors_here
    refine ⟨_, rfl, v, rfl, fun q as1 H6 s6 n6 er6 hq6 => ?_⟩
    have hp6 := s6 _ _ hp3
    refine ⟨_, rfl, p3, rfl, ⟨_, SqL.of hp6⟩, fun D hD => lc_list (K := K) (a := p3) (xs := ts.map V.ref) (fun i H' => H' = upd H6 D (.lst ((as.take i).map V.ref))) rfl ?_ ?_ ?_⟩
    · rintro i H' _ rfl
      exact SqL.of ((upd_ne (ne_of_none hp6 hD)).trans hp6)
    · rintro i x H' hx rfl
      have hil := (List.getElem?_eq_some_iff.mp hx).1
      rw [List.length_map] at hil
      have hia : i < as.length := by rw [← th.1]; exact hil
      have hx2 : x = .ref ts[i] := by
        rw [List.getElem?_map, List.getElem?_eq_getElem hil] at hx
        exact (Option.some.inj hx).symm
      subst hx2
      obtain ⟨q1, q2⟩ := th.2 i ts[i] as[i] (List.getElem?_eq_getElem hil) (List.getElem?_eq_getElem hia)
      have q3 := s6 _ _ q1
      refine ⟨rfl, ?_⟩
      unfold tYes
      dsimp only
      rw [if_pos rfl]
      refine ⟨_, rfl, ts[i], _, 0, .ref as[i], rfl, rfl, SqT.of ((upd_ne (ne_of_none q3 hD)).trans q3), rfl, _, upd_same, ?_, ?_⟩
      · rw [List.length_map, List.length_take, sizeLine_eq]
        omega
      · rw [upd_upd, List.take_succ, List.getElem?_eq_getElem hia, List.map_append]
        rfl
    · rintro H' rfl
      have hlen : (ts.map V.ref).length = as.length := by rw [List.length_map, th.1]
      rw [hlen, List.take_length]
      have s7 := new_same (o := .lst (as.map V.ref)) hD
      have a7 : upd H6 D (.lst (as.map V.ref)) D = some (.lst (as.map V.ref)) := upd_same
      generalize upd H6 D (.lst (as.map V.ref)) = H7 at s7 a7 ⊢
      refine ⟨q, D, _, _, rfl, rfl, s7 _ _ hq6, a7, ?_, fun e he => ?_⟩
      · rw [List.length_map, List.length_map, n6, ← th.1, ht3, sizeLine_eq]
        decide
      have s8 := new_same (o := .lst (as1.map V.ref ++ as.map V.ref)) he
      have a8 : upd H7 e (.lst (as1.map V.ref ++ as.map V.ref)) e = some (.lst (as1.map V.ref ++ as.map V.ref)) := upd_same
      generalize upd H7 e (.lst (as1.map V.ref ++ as.map V.ref)) = H8 at s8 a8 ⊢
      have s58 : ∀ b o, H5 b = some o → H8 b = some o := fun b o z => s8 b o (s7 b o (s6 b o z))
      have er8 : Errs cs H8 0 (as1 ++ as) := errs_app (errs_same er6 fun b o z => s8 b o (s7 b o z)) fun i a z => by
        have hi := (List.getElem?_eq_some_iff.mp z).1
        rw [n6]
        exact xc_same (th.2 i _ a (List.getElem?_eq_getElem (by rw [th.1]; exact hi)) z).2 s58
      have n8 : (as1 ++ as).length = 37 := by rw [List.length_append, n6, ← th.1, ht3]
      rw [← List.map_append] at a8
      have hp8 := s58 _ _ hp3
      have hy8 := data_same s58 m y hy5
      have th8 : ∀ (i : Nat) (t a : Addr), ts[i]? = some t → as[i]? = some a → H8 t = some (.tup [.ref a, y, y]) := fun i t a z1 z2 => s58 _ _ (th.2 i t a z1 z2).1
      -- for spot, error in enumerate(errors_here)
      refine ⟨_, rfl, e, _, rfl, SqL.of a8, for_it (walk_enum (K := K) (a := e) (xs := (as1 ++ as).map V.ref)) (fun i σ H' => ∃ v6 v7 : Option V, σ = [some (.ref a), some (.ref d), some v, some y, some (.ref p3), some (.ref e), v6, v7, none, none, none] ∧ ∀ b o, H8 b = some o → H' b = some o)
        ⟨none, none, rfl, fun _ _ z => z⟩ ?_ ?_ ?_⟩
      · rintro i σ H' _ ⟨_, _, _, s⟩
        exact SqL.of (s _ _ a8)
      · rintro i x σ H' H'' hi ⟨v6, v7, rfl, s⟩ ⟨T2, x1, x2, rfl, hT, rfl, hx1, hx2⟩
        rw [List.length_map, n8] at hi
        cases hx1
        obtain ⟨err, rfl, herr⟩ : ∃ b, x2 = V.ref b ∧ (as1 ++ as)[i]? = some b := by
          have hx2 : ((as1 ++ as).map V.ref)[i]? = some x2 := hx2
          rw [List.getElem?_map] at hx2
          cases z : (as1 ++ as)[i]? with
          | none =>
            rw [z] at hx2
            cases hx2
          | some b =>
            rw [z] at hx2
            exact ⟨b, (Option.some.inj hx2).symm, rfl⟩
        have s' := new_same (o := .tup [.int (i : Nat), .ref err]) hT
        have aT : upd H' T2 (.tup [.int (i : Nat), .ref err]) T2 = some (.tup [.int (i : Nat), .ref err]) := upd_same
        refine ⟨T2, _, rfl, SqT.of aT, rfl, _, _, rfl, _, _, rfl, rfl, ?_⟩
        generalize upd H' T2 (.tup [.int (i : Nat), .ref err]) = G1 at s' aT ⊢
        have g1 : ∀ b o, H8 b = some o → G1 b = some o := fun b o z => s' b o (s b o z)
        have xe : XcAt G1 err (cs i) := by
          have := er8 i err herr
          rw [Nat.zero_add] at this
          exact xc_same this g1
        -- _law_kinds(error) != [..]
        refine ⟨_, rfl, err, i, rfl, by omega, xe, fun q2 G2 z2 hq2 => ?_⟩
        refine ⟨37, rfl, by decide, by decide, fun D2 hD2 => lc_it walk_range (fun k H' => H' = upd G2 D2 (.lst ((List.range k).map fun m => V.bl (decide (m = i))))) rfl (fun _ _ _ _ => trivial) ?_ ?_⟩
        · rintro k x H' H'' hk rfl ⟨rfl, rfl⟩
          refine ⟨rfl, ?_⟩
          unfold tYes
          dsimp only
          rw [if_pos rfl]
          refine ⟨_, rfl, _, rfl, rfl, _, upd_same, ?_, ?_⟩
          · rw [List.length_map, List.length_range, sizeLine_eq]
            have : k < 37 := hk
            omega
          · rw [upd_upd, List.range_succ, List.map_append]
            have eb : decide (V.int (0 + (k : Int)) = V.int (i : Int)) = decide (k = i) := by
              by_cases hki : k = i
              · subst hki
                simp
              · rw [decide_eq_false hki]
                refine decide_eq_false fun z => hki ?_
                injection z with z
                omega
            rw [eb]
            rfl
        · rintro H'' rfl
          have z3 := new_same (o := .lst ((List.range 37).map fun m => V.bl (decide (m = i)))) hD2
          have aD : upd G2 D2 (.lst ((List.range 37).map fun m => V.bl (decide (m = i)))) D2 = some _ := upd_same
          show (rNeD K) (.ref q2) (.ref D2) (upd G2 D2 (.lst ((List.range 37).map fun m => V.bl (decide (m = i))))) _
          generalize upd G2 D2 (.lst ((List.range 37).map fun m => V.bl (decide (m = i)))) = G3 at z3 aD ⊢
          have bs : ((List.range 37).map fun m => V.bl (decide (m = i))) = ((List.range 37).map fun m => decide (m = i)).map V.bl := by rw [List.map_map]; rfl
          rw [bs] at hq2 aD
          refine ⟨_, _, .lst (SqL.of (z3 _ _ hq2)) (dp_bools _), .lst (SqL.of aD) (dp_bools _), bools_shaped _, bools_shaped _, ?_⟩
          rw [(bools_lay _).2.2]
          refine ⟨_, rfl, iteF ?_⟩
          have g3 : ∀ b o, H8 b = some o → G3 b = some o := fun b o z => z3 b o (z2 b o (g1 b o z))
          have xe3 : XcAt G3 err (cs i) := xc_same xe fun b o z => z3 b o (z2 b o z)
          -- not isinstance(..) or not isinstance(..)
          refine ⟨_, rfl, err, cs i, .ref (cs 37), .ref (cs 37), true, rfl, xe3, T.exc i (by omega), fun _ r => r, T.kitB i (by omega), true, rfl, iteF ?_⟩
          refine ⟨_, rfl, err, cs i, .ty "ValueError", .type "ValueError", true, rfl, xe3, T.exc i (by omega), fun _ r => r, T.kitV i (by omega), true, rfl, iteF ?_⟩
          exact ⟨_, _, rfl, g3⟩
      · rintro σ H9 ⟨v6, v7, rfl, s9⟩
        have hp9 := s9 _ _ hp8
        have hy9 := data_same s9 m y hy8
        obtain ⟨w1, w2, w3, w4⟩ := twice_small j m hm
        have two : ∀ {G : Hp}, DataAt G m y → DataAll G [m, m] [y, y] := fun {G} h => by
          simp only [DataAll]
          exact ⟨_, _, rfl, h, _, _, rfl, h, rfl⟩
        -- if [1 for item in threes_here if repr(..) != repr(..)] != []
        refine ⟨_, rfl, p3, rfl, ⟨_, SqL.of hp9⟩, fun D2 hD2 => lc_list (K := K) (a := p3) (xs := ts.map V.ref) (fun i H' => H' D2 = some (.lst []) ∧ ∀ b o, H9 b = some o → H' b = some o) ⟨upd_same, new_same hD2⟩ ?_ ?_ ?_⟩
        · rintro i H' _ ⟨_, s⟩
          exact SqL.of (s _ _ hp9)
        · rintro i x H' hx ⟨hDe, s⟩
          have hil := (List.getElem?_eq_some_iff.mp hx).1
          rw [List.length_map] at hil
          have hia : i < as.length := by rw [← th.1]; exact hil
          have hx2 : x = .ref ts[i] := by
            rw [List.getElem?_map, List.getElem?_eq_getElem hil] at hx
            exact (Option.some.inj hx).symm
          subst hx2
          have q3 := s _ _ (s9 _ _ (th8 i ts[i] as[i] (List.getElem?_eq_getElem hil) (List.getElem?_eq_getElem hia)))
          refine ⟨rfl, ?_⟩
          refine ⟨_, rfl, ts[i], _, 1, y, rfl, rfl, SqT.of q3, rfl, _, rfl, ts[i], _, 2, y, rfl, rfl, SqT.of q3, rfl, fits 2 (by decide), fun u1 hu1 => ?_⟩
          have e1 := new_same (o := .lst [y, y]) hu1
          have b1 : upd H' u1 (.lst [y, y]) u1 = some (.lst [y, y]) := upd_same
          have y1 := data_same (fun b o z => e1 b o (s b o z)) m y hy9
          generalize upd H' u1 (.lst [y, y]) = G1 at e1 b1 y1 ⊢
          refine ⟨u1, [y, y], [m, m], rfl, b1, two y1, (by simp), w1, w2, w3, w4, _, rfl, _, rfl, fits 2 (by decide), fun u2 hu2 => ?_⟩
          have e2 := new_same (o := .lst [y, y]) hu2
          have b2 : upd G1 u2 (.lst [y, y]) u2 = some (.lst [y, y]) := upd_same
          have y2 := data_same e2 m y y1
          generalize upd G1 u2 (.lst [y, y]) = G2 at e2 b2 y2 ⊢
          refine ⟨u2, [y, y], [m, m], rfl, b2, two y2, (by simp), w1, w2, w3, w4, rfl, _, rfl, ?_⟩
          rw [decide_eq_true (rfl : V.str (PyData.list [m, m]).shown = V.str (PyData.list [m, m]).shown)]
          refine iteF ?_
          exact ⟨e2 _ _ (e1 _ _ hDe), fun b o z => e2 b o (e1 b o (s b o z))⟩
        · rintro H' ⟨hDe, s⟩
          refine ⟨fits 0 (by decide), fun u1 hu1 => ?_⟩
          have e1 := new_same (o := .lst []) hu1
          have b1 : upd H' u1 (.lst []) u1 = some (.lst []) := upd_same
          show (rNeD K) (.ref D2) (.ref u1) (upd H' u1 (.lst [])) _
          generalize upd H' u1 (.lst []) = G1 at e1 b1 ⊢
          refine ⟨.list [], .list [], .lst (SqL.of (e1 _ _ hDe)) .nil, .lst (SqL.of b1) .nil, by decide +kernel, by decide +kernel, _, rfl, ?_⟩
          show (if (false : Bool) = true then _ else _)
          refine iteF ?_
          -- base_here
          refine fun bh hbh => ?_
          have a10 : XcAt (upd G1 bh (ExO (.ref (cs 37)) bh)) bh (cs 37) := .inr upd_same
          generalize upd G1 bh (ExO (.ref (cs 37)) bh) = G2 at a10 ⊢
          refine ⟨_, rfl, bh, 37, rfl, by decide, a10, fun q2 G3 s3 hq2 => ?_⟩
          refine ⟨q2, _, rfl, .inl (SqL.of hq2), rfl, by decide +kernel, _, rfl, ?_⟩
          have e : (if true = true then !inV (V.bl true) ((List.range 37).map fun i => V.bl (decide (i = 37))) else inV (V.bl true) ((List.range 37).map fun i => V.bl (decide (i = 37)))) = true := by decide +kernel
          rw [e]
          refine iteT ?_
          exact ⟨_, rfl, bh, cs 37, .ty "ValueError", .type "ValueError", true, rfl, xc_same a10 s3, T.exc 37 (by decide), fun _ r => r, T.kitV 37 (by decide), k _⟩
end
end K
end
section
set_option linter.all false
set_option maxRecDepth 100000
set_option maxHeartbeats 8000000
namespace K
open PySem PySem.Spec PyProof.Rows L2 Ob NdefX
/-! ### what the classes are, by looks that the kernel runs -/
def vT : List Value := [.type "ValueError", .type "Exception", .type "BaseException", .type "object"]
def tyB (K : PySem.W.Frag) (D : Addr) : Bool := (PySem.W.clsIn K D).isSome && PySem.W.typeIn K (.ref D) == some (.type "type")
def mroB (K : PySem.W.Frag) (C : Addr) (m : List Value) : Bool := decide ((PySem.W.clsIn K C).map (fun c => c.mro) = some m)
def excB (K : PySem.W.Frag) (C : Addr) : Bool :=
  decide (PySem.W.findIn K (.ref C) "__getattribute__" = some (some (.builtin "BaseException.__getattribute__"))) && (decide (PySem.W.findIn K (.ref C) "__getattr__" = some none) && (decide (PySem.W.subIn K (.ref C) (.type "BaseException") = some true) && (PySem.W.hasDictIn K C &&
    (decide (PySem.W.findIn K (.ref C) "__class__" = some (some (.builtin "object.__class__"))) && (decide (PySem.W.specialIn K (.builtin "object.__class__") "__get__" = some (some (.builtin "getset_descriptor.__get__"))) && (decide (PySem.W.takesIn K (.builtin "object.__class__") = some true) && decide (PySem.W.mroIn K C (.type "object") = some true)))))))
theorem excB_ok {K : PySem.W.Frag} {C : Addr} (h : excB K C = true) : ExcC K C := by
  unfold excB at h
  simp only [Bool.and_eq_true, decide_eq_true_eq] at h
  obtain ⟨h1, h2, h3, h4, h5, h6, h7, h8⟩ := h
  exact ⟨h1, h2, h3, h4, h5, h6, h7, h8⟩
def madeB (K : PySem.W.Frag) (C : Addr) : Bool := match K.lookup C with
  | some ⟨.type "type", _, .cls cd, sl⟩ => (match cd.mro, sl.toList with
    | .ref C' :: bm, [_, _, _, _, some (.builtin n), _] => C' == C && (n == "ValueError.__new__" && (!cd.hasDel && (cd.hasDict && HandSPX.refsVE bm)))
    | _, _ => false)
  | _ => false
theorem madeB_ok {K : PySem.W.Frag} {C : Addr} (h : madeB K C = true) : ∃ nm q N bs bm sn sub ab col dd k0 k1 k2 k3 k5, K.lookup C = some (excClassObj nm q C N bs bm true sn sub ab col dd k0 k1 k2 k3 k5 "ValueError.__new__") ∧ HandSPX.refsVE bm = true := by
  unfold madeB at h
  split at h
  · rename_i dd cd sl ho
    split at h
    · rename_i C' bm k0 k1 k2 k3 n k5 hm hs
      simp only [Bool.and_eq_true, beq_iff_eq, Bool.not_eq_true'] at h
      obtain ⟨rfl, rfl, hdel, hdict, hv⟩ := h
      obtain ⟨nm, bs, mro, ns, qn, hd, sn, sub, ab, col, del⟩ := cd
      dsimp only at hm hdel hdict
      subst hm hdel hdict
      have hsl : sl = #[k0, k1, k2, k3, some (.builtin "ValueError.__new__"), k5] := by
        obtain ⟨l⟩ := sl
        simp only at hs
        rw [hs]
      subst hsl
      exact ⟨nm, qn, ns, bs, bm, sn, sub, ab, col, dd, k0, k1, k2, k3, k5, ho, hv⟩
    · cases h
  · cases h
/-- a class below the base B, as all are -/
def lowB (K : PySem.W.Frag) (B C : Addr) : Bool := tyB K C && (mroB K C (.ref C :: .ref B :: vT) && excB K C)
/-- without an __init__ of its own -/
def plainB (K : PySem.W.Frag) (C : Addr) : Bool := PySem.W.excIn K C HandSPX.veTail "ValueError.__new__" && PySem.W.keepIn K (.ref C)
/-- with one -/
def ownB (K : PySem.W.Frag) (C : Addr) (part : Str) : Bool :=
  madeB K C && (decide (PySem.W.findIn K (.ref C) "__setattr__" = some (some (.builtin "object.__setattr__"))) && (decide (PySem.W.typeIn K (.ref C) = some (.type "type")) && (PySem.W.keepIn K (.ref C) &&
    ((match PySem.W.clsIn K C with | some cd => decide (PySem.W.alongIn K "__init__" ((cd.mro.dropWhile (· != .ref C)).drop 1) = some (some (.builtin "ValueError.__init__"))) | none => false) &&
      (decide (PySem.W.subIn K (.ref C) (.type "ValueError") = some true) && (decide (PySem.W.findIn K (.ref C) part = some none) && (decide (PySem.W.mroIn K C (.ref C) = some true) && (xfB K C && decide (PySem.W.nsIn K cStatics "thirdparty.any" = some none)))))))))
def initB (part pre : Str) (nms : List (Str × NameKind)) (q2 q7 : Pos) : Bool :=
  nscB ["self", part, "__class__"] ["self", part] ["__class__"] (initScope nms) && (decide (nms.lookup ("super" : Str) = some .globalImplicit) && ((q2.endLine == q7.line) && (decide (pre.length ≤ 1000) && (!(part == ("__debug__" : Str)) && !(part == ("__classdict__" : Str))))))
abbrev twoArgs (part : Str) (qa qb : Pos) : Arguments := { posonlyargs := [], args := [{ arg := "self", annotation := none, pos := qa }, { arg := part, annotation := none, pos := qb }], vararg := none, kwonlyargs := [], kw_defaults := [], kwarg := none, defaults := [] }
section
variable {P : Program} {w : World} {K : PySem.W.Frag} {mg : Str → Option Value} {base : Heap} {C fI cda cc : Addr} {part : Str}
theorem K00own {h0 : Heap} (KX : K.In h0) {oc ccl cl0 dV kV doc pm ct : Value} {od cdd cld : Option Addr} {an : Option Addr} {osl ccs csl : Array (Option Value)} {qual pre file : Str} {tf : Tok} {qa qb : Pos} {nms : List (Str × NameKind)} {vs : Array Value} {j : Nat} {q0 q1 q2 q3 q4 q5 q6 q7 q8 q9 q10 q11 q12 : Pos}
    (iC : PySem.W.findIn K (.ref C) "__init__" = some (some (.ref fI)))
    (l : K.lookup fI = some ⟨oc, od, .func (PySem.W.ksFn "__init__" qual (twoArgs part qa qb) (initBody pre part part j q0 q1 q2 q3 q4 q5 q6 q7 q8 q9 q10 q11 q12) (initScope nms) dV kV doc pm an (.ref cda) ct cc), osl⟩)
    (tI : PySem.W.typeIn K (.ref fI) = some (.type "function")) (hc : PySem.W.codeIn K (.ref cda) qual = true)
    (lc : K.lookup cda = some ⟨ccl, cdd, .fields vs, ccs⟩) (lcc : K.lookup cc = some ⟨cl0, cld, .cell (some (.ref C)), csl⟩)
    (hv : vs[2]? = some (.str file tf)) (hf : ((P.main.file : Str) == file) = true) (st : initB part pre nms q2 q7 = true)
    (pb : ∀ u v : Value, bindArgs (PySem.W.ksFn "__init__" qual (twoArgs part qa qb) (initBody pre part part j q0 q1 q2 q3 q4 q5 q6 q7 q8 q9 q10 q11 q12) (initScope nms) dV kV doc pm an (.ref cda) ct cc) ⟨[u, v], []⟩ = pure ((["self", part] : List Str).zip [u, v]))
    (kb : ∀ (s : Shared) (a v : Value), BindsTo s (PySem.W.ksFn "__init__" qual (twoArgs part qa qb) (initBody pre part part j q0 q1 q2 q3 q4 q5 q6 q7 q8 q9 q10 q11 q12) (initScope nms) dV kV doc pm an (.ref cda) ct cc) ⟨[a], [(part, v)]⟩ [("self", a), (part, v)])
    (ob : ownB K C part = true) (sup : mg "super" = none) (top : (P.main.scope.names.lookup ("super" : Str)).isSome = false) : Own P K mg C part := by
  unfold ownB at ob
  simp only [Bool.and_eq_true, decide_eq_true_eq] at ob
  obtain ⟨o1, o2, o3, o4, o5, o6, o7, o8, o9, o10⟩ := ob
  unfold initB at st
  simp only [Bool.and_eq_true, decide_eq_true_eq, Bool.not_eq_true'] at st
  obtain ⟨s1, s2, s3, s4, s5, s6⟩ := st
  have XF := xfB_ok o9
  have hal : ∃ cd, PySem.W.clsIn K C = some cd ∧ PySem.W.alongIn K "__init__" ((cd.mro.dropWhile (· != .ref C)).drop 1) = some (some (.builtin "ValueError.__init__")) := by
    split at o5
    · rename_i cd hcd
      exact ⟨cd, hcd, of_decide_eq_true o5⟩
    · cases o5
  exact ⟨fI, _, ⟨⟨oc, ccl, cl0, dV, kV, doc, pm, ct, od, cdd, cld, an, osl, ccs, csl, cc, cda, qual, pre, file, tf, twoArgs part qa qb, nms, vs, j, q0, q1, q2, q3, q4, q5, q6, q7, q8, q9, q10, q11, q12, rfl, l, hc, lc, hv, hf, lcc, nscope_by s1, s2, s3, ⟨_, rfl, rfl⟩, s4⟩,
    sup, top, ⟨madeB_ok o1, o2, XF.exC, o3, o4⟩, hal, o6, o10, o7, o8, s5, s6⟩, iC, tI, .all (fun us hu => match us, hu with | [u, v], _ => pb u v), kb, XF⟩
theorem kit_at {M : List Value} {D : Addr} (hC : mroB K C M = true) (hne : M.isEmpty = false) (hD : tyB K D = true) : PySem.W.kitOne K (.ref C) (.ref D) = some (decide (C = D) || M.contains (.ref D)) := by
  unfold mroB at hC
  have hC := of_decide_eq_true hC
  obtain ⟨cd, h1, h2⟩ := Option.map_eq_some_iff.mp hC
  unfold PySem.W.kitOne
  by_cases e : C = D
  · subst e
    simp
  · have e2 : (Value.ref C == Value.ref D) = false := by
      refine beq_eq_false_iff_ne.mpr fun z => e ?_
      injection z
    rw [e2, if_neg Bool.false_ne_true, decide_eq_false e, Bool.false_or]
    show (if ((PySem.W.clsIn K D).isSome && PySem.W.typeIn K (.ref D) == some (.type "type")) = true then PySem.W.subIn K (.ref C) (.ref D) else none) = _
    unfold tyB at hD
    rw [if_pos hD]
    show ((PySem.W.clsIn K C).bind fun cd => if cd.mro.isEmpty then none else some (cd.mro.contains (.ref D))) = _
    rw [h1, Option.bind_some, h2, hne]
    rfl
theorem kit_ve {M : List Value} (hC : mroB K C M = true) (hne : M.isEmpty = false) (hv : M.contains (.type "ValueError") = true) : PySem.W.kitOne K (.ref C) (.type "ValueError") = some true := by
  unfold mroB at hC
  have hC := of_decide_eq_true hC
  obtain ⟨cd, h1, h2⟩ := Option.map_eq_some_iff.mp hC
  unfold PySem.W.kitOne
  have e2 : (Value.ref C == Value.type "ValueError") = false := rfl
  rw [e2, if_neg Bool.false_ne_true]
  show (if PySem.W.kitMeta "ValueError" = true then PySem.W.subIn K (.ref C) (.type "ValueError") else none) = _
  rw [if_pos (by decide +kernel)]
  show ((PySem.W.clsIn K C).bind fun cd => if cd.mro.isEmpty then none else some (cd.mro.contains (.type "ValueError"))) = _
  rw [h1, Option.bind_some, h2, hne, hv]
  rfl
end
/-! ### the classes of the program -/
def csL : List Addr := [91, 574, 103, 322, 541, 421, 172, 160, 376, 127, 79, 247, 454, 388, 508, 115, 343, 409, 475, 658, 46, 364, 562, 616, 637, 496, 193, 235, 67, 310, 214, 442, 595, 148, 529, 268, 289, 24]
def csOf (i : Nat) : Addr := csL.getD i 0
abbrev bs : Addr := csOf 37
theorem cs_inj : ∀ i, i < 38 → ∀ j, j < 38 → csOf i = csOf j → i = j := by decide +kernel
section
variable {P : Program} {w : World} {K : PySem.W.Frag} {mg : Str → Option Value} {base : Heap}
theorem has_ref {C B D : Addr} : (Value.ref C :: .ref B :: vT).contains (.ref D) = (decide (D = C) || decide (D = B)) := by
  have hv : vT.contains (.ref D) = false := rfl
  rw [List.contains_cons, List.contains_cons, hv, Bool.or_false]
  have e : ∀ A : Addr, (Value.ref D == Value.ref A) = decide (D = A) := fun A => by
    by_cases h : D = A
    · subst h
      simp
    · rw [decide_eq_false h]
      refine beq_eq_false_iff_ne.mpr fun z => h ?_
      injection z
  rw [e, e]
theorem has_ref1 {B D : Addr} : (Value.ref B :: vT).contains (.ref D) = decide (D = B) := by
  have hv : vT.contains (.ref D) = false := rfl
  rw [List.contains_cons, hv, Bool.or_false]
  by_cases h : D = B
  · subst h
    simp
  · rw [decide_eq_false h]
    refine beq_eq_false_iff_ne.mpr fun z => h ?_
    injection z
theorem cl_mk (g : ∀ i, i < 38 → mg (nm i) = some (.ref (csOf i))) (lo : ∀ i, i < 37 → lowB K bs (csOf i) = true) (bt : tyB K bs = true) (bm : mroB K bs (.ref bs :: vT) = true) (be : excB K bs = true)
    (pl : ∀ i, i < 16 ∨ i = 37 → plainB K (csOf i) = true) (ow : ∀ i, 16 ≤ i → i < 37 → Own P K mg (csOf i) (pn i)) (hi : mg "isinstance" = none) : Cl P K mg csOf := by
  have lo3 : ∀ i, i < 37 → tyB K (csOf i) = true ∧ mroB K (csOf i) (.ref (csOf i) :: .ref bs :: vT) = true ∧ excB K (csOf i) = true := fun i h => by
    have := lo i h
    unfold lowB at this
    simp only [Bool.and_eq_true] at this
    exact this
  have split : ∀ i, i < 38 → i < 37 ∨ i = 37 := fun i h => by omega
  refine ⟨g, fun i h => ?_, fun i j h hj => ?_, fun i h => ?_, fun i h => ?_, fun i h => ?_, ow, hi⟩
  · rcases split i h with h | rfl
    · exact excB_ok (lo3 i h).2.2
    · exact excB_ok be
  · have ne37 : csOf j ≠ bs := fun z => by
      have := cs_inj j (by omega) 37 (by omega) z
      omega
    rcases split i h with h | rfl
    · rw [kit_at (lo3 i h).2.1 rfl (lo3 j hj).1, has_ref, decide_eq_false ne37, Bool.or_false]
      by_cases e : j = i
      · subst e
        simp
      · rw [decide_eq_false e, decide_eq_false fun z => e (cs_inj j (by omega) i (by omega) z.symm), decide_eq_false fun z => e (cs_inj j (by omega) i (by omega) z)]
        rfl
    · rw [kit_at bm rfl (lo3 j hj).1, has_ref1, decide_eq_false ne37, Bool.or_false, decide_eq_false (Ne.symm ne37), decide_eq_false (show ¬j = 37 by omega)]
  · rcases split i h with h | rfl
    · rw [kit_at (lo3 i h).2.1 rfl bt, has_ref, decide_eq_true (rfl : bs = bs), Bool.or_true, Bool.or_true]
    · rw [kit_at bm rfl bt, decide_eq_true rfl, Bool.true_or]
  · rcases split i h with h | rfl
    · exact kit_ve (lo3 i h).2.1 rfl rfl
    · exact kit_ve bm rfl rfl
  · have := pl i h
    unfold plainB at this
    simp only [Bool.and_eq_true] at this
    exact this
end
/-! ### the end -/
theorem all_below {p : Nat → Bool} {n : Nat} (h : (List.range n).all p = true) : ∀ i, i < n → p i = true := fun i hi => List.all_eq_true.mp h i (List.mem_range.mpr hi)
theorem K00def {K : PySem.W.Frag} {h0 : Heap} (KX : K.In h0) {x : Str} {st : Stmt} {f : Addr} {ps : List Str} {oc : Value} {od an : Option Addr} {osl : Array (Option Value)} {kV doc pm cdv ct : Value}
    (l : K.lookup f = some ⟨oc, od, .func (PySem.W.fnOf x x (defArgs st) (defBody st) (defScope st) .none kV doc pm an cdv ct), osl⟩) (c : PySem.W.codeIn K cdv x = true) (k : PySem.W.keepIn K (.ref f) = true)
    (b : ∀ us : List Value, us.length = ps.length → bindArgs (PySem.W.fnOf x x (defArgs st) (defBody st) (defScope st) .none kV doc pm an cdv ct) ⟨us, []⟩ = pure (ps.zip us)) : ∃ fd, Fun K x x st f fd ∧ L2.Binds K fd ps [] :=
  ⟨_, fun_mk l c k, .all b⟩
theorem K00law {K : PySem.W.Frag} {h0 : Heap} (KX : K.In h0) {x : Str} {st : Stmt} {f : Addr} {oc : Value} {od an : Option Addr} {osl : Array (Option Value)} {kV doc pm cdv ct : Value}
    (l : K.lookup f = some ⟨oc, od, .func (PySem.W.fnOf x x (defArgs st) (defBody st) (defScope st) .none kV doc pm an cdv ct), osl⟩) (c : PySem.W.codeIn K cdv x = true) (k : PySem.W.keepIn K (.ref f) = true)
    (b : ∀ u : Value, bindArgs (PySem.W.fnOf x x (defArgs st) (defBody st) (defScope st) .none kV doc pm an cdv ct) ⟨[u], []⟩ = pure [((PySem.Str.ofString "script" : Str), u)]) : ∃ fd, Fun K x x st f fd ∧ ∀ (s : Shared) (u : Value), BindsTo s fd ⟨[u], []⟩ [("script", u)] :=
  ⟨_, fun_mk l c k, fun s u => .of_eq (b u)⟩
theorem K00end {P : Program} {w : World} {K : PySem.W.Frag} {s₁ : Shared} {mg mb : Str → Option Value} {a : Addr} {vs : List Value} {ns : List Int} {fa f1 f2 f3 f4 f5 f6 f7 f8 f9 : Addr} (KX : K.In s₁.heap) (G : s₁.heap.Ns mainGlobals mg) (hb : s₁.heap.Ns builtinsNs mb) (hbb : ∀ x : Str, x ≠ "__name__" → mb x = bootBuiltins x) (hlim : s₁.heap.NoLimit) (hg : s₁.gens = #[])
    (ha : s₁.heap.get? a = some { cls := .type "list", data := .seq vs.toArray }) (hi : IntsAre vs ns) (hl : ns.length ≤ 63) (hfa : mg "law" = some (.ref fa))
    (n1 : PySem.W.nsIn K mainGlobals "_law_begun" = some (some (.ref f1))) (n2 : PySem.W.nsIn K mainGlobals "_law_mixed" = some (some (.ref f2))) (n3 : PySem.W.nsIn K mainGlobals "_law_take" = some (some (.ref f3))) (n4 : PySem.W.nsIn K mainGlobals "_law_pick" = some (some (.ref f4)))
    (n5 : PySem.W.nsIn K mainGlobals "_law_any" = some (some (.ref f5))) (n6 : PySem.W.nsIn K mainGlobals "_law_kinds" = some (some (.ref f6))) (n7 : PySem.W.nsIn K mainGlobals "_law_plain_errors" = some (some (.ref f7))) (n8 : PySem.W.nsIn K mainGlobals "_law_errors_of" = some (some (.ref f8)))
    (n9 : PySem.W.nsIn K mainGlobals "law" = some (some (.ref f9)))
    (e1 : ∃ fd, Fun K "_law_begun" "_law_begun" sBegun f1 fd ∧ L2.Binds K fd ["script"] []) (e2 : ∃ fd, Fun K "_law_mixed" "_law_mixed" sMixed f2 fd ∧ L2.Binds K fd ["draw"] []) (e3 : ∃ fd, Fun K "_law_take" "_law_take" sTake f3 fd ∧ L2.Binds K fd ["draw", "amount"] [])
    (e4 : ∃ fd, Fun K "_law_pick" "_law_pick" sPick f4 fd ∧ L2.Binds K fd ["draw", "some"] []) (e5 : ∃ fd, Fun K "_law_any" "_law_any" sAny f5 fd ∧ L2.Binds K fd ["draw"] []) (e6 : ∃ fd, Fun K "_law_kinds" "_law_kinds" sKinds f6 fd ∧ L2.Binds K fd ["error"] [])
    (e7 : ∃ fd, Fun K "_law_plain_errors" "_law_plain_errors" sPlain f7 fd ∧ L2.Binds K fd ["words_here"] []) (e8 : ∃ fd, Fun K "_law_errors_of" "_law_errors_of" sOwn f8 fd ∧ L2.Binds K fd ["each"] []) (e9 : ∃ fd, Fun K "law" "law" sLaw f9 fd ∧ ∀ (s : Shared) (u : Value), BindsTo s fd ⟨[u], []⟩ [("script", u)])
    (z1 : PySem.W.nsIn K mainGlobals "abs" = some none) (z2 : PySem.W.nsIn K mainGlobals "int" = some none) (z3 : PySem.W.nsIn K mainGlobals "len" = some none) (z4 : PySem.W.nsIn K mainGlobals "enumerate" = some none)
    (z5 : PySem.W.nsIn K mainGlobals "range" = some none) (z6 : PySem.W.nsIn K mainGlobals "repr" = some none) (z7 : PySem.W.nsIn K mainGlobals "ValueError" = some none) (z8 : PySem.W.nsIn K mainGlobals "isinstance" = some none)
    (gB : (List.range 38).all (fun i => decide (PySem.W.nsIn K mainGlobals (nm i) = some (some (.ref (csOf i))))) = true) (lB : (List.range 37).all (fun i => lowB K bs (csOf i)) = true)
    (bt : tyB K bs = true) (bm : mroB K bs (.ref bs :: vT) = true) (be : excB K bs = true) (pB : (List.range 16).all (fun i => plainB K (csOf i)) = true) (pb : plainB K bs = true) (ow : ∀ i, 16 ≤ i → i < 37 → Own P K mg (csOf i) (pn i)) :
    codeAny (model P w) callerA (.call (.ref fa) ⟨[.ref a], []⟩) (fun r s' => r = .ok (.ret (.bool true)) ∧ OldK s₁.heap s'.heap ∧ s'.os = s₁.os ∧ AllBare s'.gens) s₁ := by
  have e := hfa.symm.trans (PySem.W.mg_of KX G n9)
  cases e
  have zz : ∀ {x : Str}, PySem.W.nsIn K mainGlobals x = some none → mg x = none := fun e => PySem.W.mg_none_of KX G e
  have gg : ∀ {x : Str} {v : Value}, PySem.W.nsIn K mainGlobals x = some (some v) → mg x = some v := fun e => PySem.W.mg_of KX G e
  have T : Cl P K mg csOf := cl_mk (fun i hi => gg (of_decide_eq_true (all_below gB i hi))) (all_below lB) bt bm be (fun i h => h.elim (fun h => all_below pB i h) fun h => by subst h; exact pb) ow (zz z8)
  obtain ⟨d1, F1, b1⟩ := e1
  obtain ⟨d2, F2, b2⟩ := e2
  obtain ⟨d3, F3, b3⟩ := e3
  obtain ⟨d4, F4, b4⟩ := e4
  obtain ⟨d5, F5, b5⟩ := e5
  obtain ⟨d6, F6, b6⟩ := e6
  obtain ⟨d7, F7, b7⟩ := e7
  obtain ⟨d8, F8, b8⟩ := e8
  obtain ⟨d9, F9, b9⟩ := e9
  refine callG KX G hb hbb hlim hg ha hi (Nat.le_trans hl (by rw [sizeLine_eq]; decide)) (k := 6) ⟨rfl, by decide, by decide⟩ (fun base _ _ => ok_law F9 T ?_) b9 (fun H hS => ⟨a, ns, rfl, hS, hl, fun _ => rfl⟩)
  have G3 : FnOk P w K mg base CX0 2 f3 d3 ["draw", "amount"] spTake := ok_take F3 F2 b2 (gg n2) (zz z2)
  have G4 : FnOk P w K mg base CX0 3 f4 d4 ["draw", "some"] spPick := ok_pick F4 F3 G3 b3 (gg n3) (zz z3)
  exact { begun := ⟨_, _, ok_begun F1 (zz z1), b1, gg n1, F1.kp⟩, pick := ⟨_, _, G4, b4, gg n4, F4.kp⟩, any := ⟨_, _, ok_any F5 F4 G4 b4 (gg n4), b5, gg n5, F5.kp⟩, kinds := ⟨_, _, ok_kinds F6 T, b6, gg n6, F6.kp⟩,
          plain := ⟨_, _, ok_plain F7 T, b7, gg n7, F7.kp⟩, own := ⟨_, _, ok_own F8 T, b8, gg n8, F8.kp⟩, enu := zz z4, rng := zz z5, rpr := zz z6, val := zz z7 }
end K
end
section
set_option linter.all false
open PySem PySem.W PyProof.Rows L2 K Ob
set_option maxRecDepth 100000
set_option maxHeartbeats 0
theorem PySem.Challenge.cw_onebasis_k00_errors_of_all_parts_holds : PySem.Challenge.rw_onebasis_k00_errors_of_all_parts.Holds := by
  w_on; o_law; k_headL; (case hw => w_witness2)
  k_fill
  refine Att.attach_call (n := 63) rfl rfl fun w s₀ s₁ mg mb fa o pm cd doc a vs ns G Y ho hd hcd hmg hobj hints hlen hg => ?_
  have KX := PySem.W.kIn_of Y
  have zs : mg "super" = none := PySem.W.mg_none_of KX G.T.g (by k_is)
  refine' K00end KX G.T.g G.T.b G.T.builtins G.T.nolimit hg hobj hints hlen hmg ?n1 ?n2 ?n3 ?n4 ?n5 ?n6 ?n7 ?n8 ?n9 ?e1 ?e2 ?e3 ?e4 ?e5 ?e6 ?e7 ?e8 ?e9 ?z1 ?z2 ?z3 ?z4 ?z5 ?z6 ?z7 ?z8 ?gB ?lB ?bt ?bm ?be ?pB ?pb ?ow
  (case n1 => k_is); (case n2 => k_is); (case n3 => k_is); (case n4 => k_is); (case n5 => k_is); (case n6 => k_is); (case n7 => k_is); (case n8 => k_is); (case n9 => k_is)
  (case e1 => (refine' K00def KX ?l ?c ?k ?b; (case l => k_is); (case c => k_is); (case k => k_is); (case b => exact fun us hl => match us, hl with | [_], _ => rfl)))
  (case e2 => (refine' K00def KX ?l ?c ?k ?b; (case l => k_is); (case c => k_is); (case k => k_is); (case b => exact fun us hl => match us, hl with | [_], _ => rfl)))
  (case e3 => (refine' K00def KX ?l ?c ?k ?b; (case l => k_is); (case c => k_is); (case k => k_is); (case b => exact fun us hl => match us, hl with | [_, _], _ => rfl)))
  (case e4 => (refine' K00def KX ?l ?c ?k ?b; (case l => k_is); (case c => k_is); (case k => k_is); (case b => exact fun us hl => match us, hl with | [_, _], _ => rfl)))
  (case e5 => (refine' K00def KX ?l ?c ?k ?b; (case l => k_is); (case c => k_is); (case k => k_is); (case b => exact fun us hl => match us, hl with | [_], _ => rfl)))
  (case e6 => (refine' K00def KX ?l ?c ?k ?b; (case l => k_is); (case c => k_is); (case k => k_is); (case b => exact fun us hl => match us, hl with | [_], _ => rfl)))
  (case e7 => (refine' K00def KX ?l ?c ?k ?b; (case l => k_is); (case c => k_is); (case k => k_is); (case b => exact fun us hl => match us, hl with | [_], _ => rfl)))
  (case e8 => (refine' K00def KX ?l ?c ?k ?b; (case l => k_is); (case c => k_is); (case k => k_is); (case b => exact fun us hl => match us, hl with | [_], _ => rfl)))
  (case e9 => (refine' K00law KX ?l ?c ?k ?b; (case l => k_is); (case c => k_is); (case k => k_is); (case b => exact fun u => rfl)))
  (case z1 => k_is); (case z2 => k_is); (case z3 => k_is); (case z4 => k_is); (case z5 => k_is); (case z6 => k_is); (case z7 => k_is); (case z8 => k_is)
  (case gB => kernel_rfl); (case lB => kernel_rfl); (case bt => kernel_rfl); (case bm => kernel_rfl); (case be => kernel_rfl); (case pB => kernel_rfl); (case pb => kernel_rfl)
  case ow =>
    intro i h1 h2
    rcases (show i = 16 ∨ i = 17 ∨ i = 18 ∨ i = 19 ∨ i = 20 ∨ i = 21 ∨ i = 22 ∨ i = 23 ∨ i = 24 ∨ i = 25 ∨ i = 26 ∨ i = 27 ∨ i = 28 ∨ i = 29 ∨ i = 30 ∨ i = 31 ∨ i = 32 ∨ i = 33 ∨ i = 34 ∨ i = 35 ∨ i = 36 by omega) with rfl | rfl | rfl | rfl | rfl | rfl | rfl | rfl | rfl | rfl | rfl | rfl | rfl | rfl | rfl | rfl | rfl | rfl | rfl | rfl | rfl
    · show Own _ _ mg 343 (PySem.Str.ofString "part")
      refine' K00own KX ?iC ?l ?tI ?hco ?lc ?lcc ?hv ?hf ?st ?pb ?kb ?ob zs ?top
      (case iC => k_is); (case l => k_is); (case tI => k_is); (case hco => k_is); (case lc => k_is); (case lcc => k_is)
      (case hv => exact rfl); (case hf => exact rfl); (case st => decide +kernel); (case pb => exact fun u v => rfl); (case kb => exact fun s a v => .of_eq rfl); (case ob => kernel_rfl); (case top => decide +kernel)
    · show Own _ _ mg 409 (PySem.Str.ofString "part")
      refine' K00own KX ?iC ?l ?tI ?hco ?lc ?lcc ?hv ?hf ?st ?pb ?kb ?ob zs ?top
      (case iC => k_is); (case l => k_is); (case tI => k_is); (case hco => k_is); (case lc => k_is); (case lcc => k_is)
      (case hv => exact rfl); (case hf => exact rfl); (case st => decide +kernel); (case pb => exact fun u v => rfl); (case kb => exact fun s a v => .of_eq rfl); (case ob => kernel_rfl); (case top => decide +kernel)
    · show Own _ _ mg 475 (PySem.Str.ofString "part")
      refine' K00own KX ?iC ?l ?tI ?hco ?lc ?lcc ?hv ?hf ?st ?pb ?kb ?ob zs ?top
      (case iC => k_is); (case l => k_is); (case tI => k_is); (case hco => k_is); (case lc => k_is); (case lcc => k_is)
      (case hv => exact rfl); (case hf => exact rfl); (case st => decide +kernel); (case pb => exact fun u v => rfl); (case kb => exact fun s a v => .of_eq rfl); (case ob => kernel_rfl); (case top => decide +kernel)
    · show Own _ _ mg 658 (PySem.Str.ofString "most")
      refine' K00own KX ?iC ?l ?tI ?hco ?lc ?lcc ?hv ?hf ?st ?pb ?kb ?ob zs ?top
      (case iC => k_is); (case l => k_is); (case tI => k_is); (case hco => k_is); (case lc => k_is); (case lcc => k_is)
      (case hv => exact rfl); (case hf => exact rfl); (case st => decide +kernel); (case pb => exact fun u v => rfl); (case kb => exact fun s a v => .of_eq rfl); (case ob => kernel_rfl); (case top => decide +kernel)
    · show Own _ _ mg 46 (PySem.Str.ofString "part")
      refine' K00own KX ?iC ?l ?tI ?hco ?lc ?lcc ?hv ?hf ?st ?pb ?kb ?ob zs ?top
      (case iC => k_is); (case l => k_is); (case tI => k_is); (case hco => k_is); (case lc => k_is); (case lcc => k_is)
      (case hv => exact rfl); (case hf => exact rfl); (case st => decide +kernel); (case pb => exact fun u v => rfl); (case kb => exact fun s a v => .of_eq rfl); (case ob => kernel_rfl); (case top => decide +kernel)
    · show Own _ _ mg 364 (PySem.Str.ofString "part")
      refine' K00own KX ?iC ?l ?tI ?hco ?lc ?lcc ?hv ?hf ?st ?pb ?kb ?ob zs ?top
      (case iC => k_is); (case l => k_is); (case tI => k_is); (case hco => k_is); (case lc => k_is); (case lcc => k_is)
      (case hv => exact rfl); (case hf => exact rfl); (case st => decide +kernel); (case pb => exact fun u v => rfl); (case kb => exact fun s a v => .of_eq rfl); (case ob => kernel_rfl); (case top => decide +kernel)
    · show Own _ _ mg 562 (PySem.Str.ofString "place")
      refine' K00own KX ?iC ?l ?tI ?hco ?lc ?lcc ?hv ?hf ?st ?pb ?kb ?ob zs ?top
      (case iC => k_is); (case l => k_is); (case tI => k_is); (case hco => k_is); (case lc => k_is); (case lcc => k_is)
      (case hv => exact rfl); (case hf => exact rfl); (case st => decide +kernel); (case pb => exact fun u v => rfl); (case kb => exact fun s a v => .of_eq rfl); (case ob => kernel_rfl); (case top => decide +kernel)
    · show Own _ _ mg 616 (PySem.Str.ofString "place")
      refine' K00own KX ?iC ?l ?tI ?hco ?lc ?lcc ?hv ?hf ?st ?pb ?kb ?ob zs ?top
      (case iC => k_is); (case l => k_is); (case tI => k_is); (case hco => k_is); (case lc => k_is); (case lcc => k_is)
      (case hv => exact rfl); (case hf => exact rfl); (case st => decide +kernel); (case pb => exact fun u v => rfl); (case kb => exact fun s a v => .of_eq rfl); (case ob => kernel_rfl); (case top => decide +kernel)
    · show Own _ _ mg 637 (PySem.Str.ofString "place")
      refine' K00own KX ?iC ?l ?tI ?hco ?lc ?lcc ?hv ?hf ?st ?pb ?kb ?ob zs ?top
      (case iC => k_is); (case l => k_is); (case tI => k_is); (case hco => k_is); (case lc => k_is); (case lcc => k_is)
      (case hv => exact rfl); (case hf => exact rfl); (case st => decide +kernel); (case pb => exact fun u v => rfl); (case kb => exact fun s a v => .of_eq rfl); (case ob => kernel_rfl); (case top => decide +kernel)
    · show Own _ _ mg 496 (PySem.Str.ofString "place")
      refine' K00own KX ?iC ?l ?tI ?hco ?lc ?lcc ?hv ?hf ?st ?pb ?kb ?ob zs ?top
      (case iC => k_is); (case l => k_is); (case tI => k_is); (case hco => k_is); (case lc => k_is); (case lcc => k_is)
      (case hv => exact rfl); (case hf => exact rfl); (case st => decide +kernel); (case pb => exact fun u v => rfl); (case kb => exact fun s a v => .of_eq rfl); (case ob => kernel_rfl); (case top => decide +kernel)
    · show Own _ _ mg 193 (PySem.Str.ofString "part")
      refine' K00own KX ?iC ?l ?tI ?hco ?lc ?lcc ?hv ?hf ?st ?pb ?kb ?ob zs ?top
      (case iC => k_is); (case l => k_is); (case tI => k_is); (case hco => k_is); (case lc => k_is); (case lcc => k_is)
      (case hv => exact rfl); (case hf => exact rfl); (case st => decide +kernel); (case pb => exact fun u v => rfl); (case kb => exact fun s a v => .of_eq rfl); (case ob => kernel_rfl); (case top => decide +kernel)
    · show Own _ _ mg 235 (PySem.Str.ofString "part")
      refine' K00own KX ?iC ?l ?tI ?hco ?lc ?lcc ?hv ?hf ?st ?pb ?kb ?ob zs ?top
      (case iC => k_is); (case l => k_is); (case tI => k_is); (case hco => k_is); (case lc => k_is); (case lcc => k_is)
      (case hv => exact rfl); (case hf => exact rfl); (case st => decide +kernel); (case pb => exact fun u v => rfl); (case kb => exact fun s a v => .of_eq rfl); (case ob => kernel_rfl); (case top => decide +kernel)
    · show Own _ _ mg 67 (PySem.Str.ofString "part")
      refine' K00own KX ?iC ?l ?tI ?hco ?lc ?lcc ?hv ?hf ?st ?pb ?kb ?ob zs ?top
      (case iC => k_is); (case l => k_is); (case tI => k_is); (case hco => k_is); (case lc => k_is); (case lcc => k_is)
      (case hv => exact rfl); (case hf => exact rfl); (case st => decide +kernel); (case pb => exact fun u v => rfl); (case kb => exact fun s a v => .of_eq rfl); (case ob => kernel_rfl); (case top => decide +kernel)
    · show Own _ _ mg 310 (PySem.Str.ofString "part")
      refine' K00own KX ?iC ?l ?tI ?hco ?lc ?lcc ?hv ?hf ?st ?pb ?kb ?ob zs ?top
      (case iC => k_is); (case l => k_is); (case tI => k_is); (case hco => k_is); (case lc => k_is); (case lcc => k_is)
      (case hv => exact rfl); (case hf => exact rfl); (case st => decide +kernel); (case pb => exact fun u v => rfl); (case kb => exact fun s a v => .of_eq rfl); (case ob => kernel_rfl); (case top => decide +kernel)
    · show Own _ _ mg 214 (PySem.Str.ofString "part")
      refine' K00own KX ?iC ?l ?tI ?hco ?lc ?lcc ?hv ?hf ?st ?pb ?kb ?ob zs ?top
      (case iC => k_is); (case l => k_is); (case tI => k_is); (case hco => k_is); (case lc => k_is); (case lcc => k_is)
      (case hv => exact rfl); (case hf => exact rfl); (case st => decide +kernel); (case pb => exact fun u v => rfl); (case kb => exact fun s a v => .of_eq rfl); (case ob => kernel_rfl); (case top => decide +kernel)
    · show Own _ _ mg 442 (PySem.Str.ofString "at")
      refine' K00own KX ?iC ?l ?tI ?hco ?lc ?lcc ?hv ?hf ?st ?pb ?kb ?ob zs ?top
      (case iC => k_is); (case l => k_is); (case tI => k_is); (case hco => k_is); (case lc => k_is); (case lcc => k_is)
      (case hv => exact rfl); (case hf => exact rfl); (case st => decide +kernel); (case pb => exact fun u v => rfl); (case kb => exact fun s a v => .of_eq rfl); (case ob => kernel_rfl); (case top => decide +kernel)
    · show Own _ _ mg 595 (PySem.Str.ofString "why")
      refine' K00own KX ?iC ?l ?tI ?hco ?lc ?lcc ?hv ?hf ?st ?pb ?kb ?ob zs ?top
      (case iC => k_is); (case l => k_is); (case tI => k_is); (case hco => k_is); (case lc => k_is); (case lcc => k_is)
      (case hv => exact rfl); (case hf => exact rfl); (case st => decide +kernel); (case pb => exact fun u v => rfl); (case kb => exact fun s a v => .of_eq rfl); (case ob => kernel_rfl); (case top => decide +kernel)
    · show Own _ _ mg 148 (PySem.Str.ofString "number")
      refine' K00own KX ?iC ?l ?tI ?hco ?lc ?lcc ?hv ?hf ?st ?pb ?kb ?ob zs ?top
      (case iC => k_is); (case l => k_is); (case tI => k_is); (case hco => k_is); (case lc => k_is); (case lcc => k_is)
      (case hv => exact rfl); (case hf => exact rfl); (case st => decide +kernel); (case pb => exact fun u v => rfl); (case kb => exact fun s a v => .of_eq rfl); (case ob => kernel_rfl); (case top => decide +kernel)
    · show Own _ _ mg 529 (PySem.Str.ofString "place")
      refine' K00own KX ?iC ?l ?tI ?hco ?lc ?lcc ?hv ?hf ?st ?pb ?kb ?ob zs ?top
      (case iC => k_is); (case l => k_is); (case tI => k_is); (case hco => k_is); (case lc => k_is); (case lcc => k_is)
      (case hv => exact rfl); (case hf => exact rfl); (case st => decide +kernel); (case pb => exact fun u v => rfl); (case kb => exact fun s a v => .of_eq rfl); (case ob => kernel_rfl); (case top => decide +kernel)
    · show Own _ _ mg 268 (PySem.Str.ofString "part")
      refine' K00own KX ?iC ?l ?tI ?hco ?lc ?lcc ?hv ?hf ?st ?pb ?kb ?ob zs ?top
      (case iC => k_is); (case l => k_is); (case tI => k_is); (case hco => k_is); (case lc => k_is); (case lcc => k_is)
      (case hv => exact rfl); (case hf => exact rfl); (case st => decide +kernel); (case pb => exact fun u v => rfl); (case kb => exact fun s a v => .of_eq rfl); (case ob => kernel_rfl); (case top => decide +kernel)
    · show Own _ _ mg 289 (PySem.Str.ofString "at")
      refine' K00own KX ?iC ?l ?tI ?hco ?lc ?lcc ?hv ?hf ?st ?pb ?kb ?ob zs ?top
      (case iC => k_is); (case l => k_is); (case tI => k_is); (case hco => k_is); (case lc => k_is); (case lcc => k_is)
      (case hv => exact rfl); (case hf => exact rfl); (case st => decide +kernel); (case pb => exact fun u v => rfl); (case kb => exact fun s a v => .of_eq rfl); (case ob => kernel_rfl); (case top => decide +kernel)
end
