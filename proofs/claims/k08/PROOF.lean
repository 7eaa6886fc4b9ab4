import PyProof.Rows.All
import Wide.All
import OpenK.AllK
import Wide.FinOn
import HandS.ForMost
import HandS.ExcInit
import HandS.ExcCtx
import HandS.HotCalls
import HandS.ExcInitHot
import HandS.ExcSuper
import HandS.Nested
import KE.KExcSuper
import HandS.ExcIs
import HandS.ExcField
import HandS.IsInst
import KE.KExcIs
import HandS.WordsExc
import HandS.Evl
import PySem.Challenge.RW_twinrope_k08_trips_as_texts
import HandS.Walk
import HandS.FStr
import KE.KxIndex
import KE.RegKSuper
import KE.RegKIsAll
set_option Elab.async false
set_option linter.all false
set_option maxRecDepth 100000
set_option maxHeartbeats 4000000
namespace Tw
open PySem PySem.Spec PyProof.Rows L2

/-! the wrapper of the built-in initialiser, called -/
section
variable {prog : Program} {w : World} {A : Around} {E : Value → Shared → Prop} {h : Heap} {g : Array GenState} {d : Drawn} {t : Nat} {os : OsState}
variable {nm q : Str} {C N : Addr} {bs bm : List Value} {hdct : Bool} {sn : List Str} {sub : List Value} {ab : Bool} {col : Option Bool} {dd : Option Addr} {k0 k1 k2 k3 k5 : Option Value}
theorem wrap_call {u e t0 : Addr} {rest : List Value} {Q : Value → Shared → Prop}
    (hC : h.get? C = some (excClassObj nm q C N bs bm hdct sn sub ab col dd k0 k1 k2 k3 k5 "ValueError.__new__")) (he : h.get? e = some (HandSPX.excO C t0)) (hu : h.get? u = some (PySem.W.kxs_mw "ValueError.__init__" e)) (hrest : rest.length ≤ sizeLine)
    (hq : ∀ h' t1, (∀ b o, b ≠ e → h.get? b = some o → h'.get? b = some o) → h'.get? e = some (HandSPX.excO C t1) → Q .none ⟨h', g, d, t, os⟩) :
    wpAny (model prog w) A (call (.ref u) rest) Q E ⟨h, g, d, t, os⟩ := by
  refine wpAny_call (codeAny_of_tree ?_)
  show wpAny _ A.in1 (callAny (.ref u) ⟨rest, []⟩) _ _ _
  simp only [callAny]
  refine wpAny_bind (wpAny_load hu ?_)
  simp only [PySem.W.kxs_mw, show (Value.type "method-wrapper" == Value.type "method" || Value.type "method-wrapper" == Value.type "builtin_function_or_method" || Value.type "method-wrapper" == Value.type "method-wrapper") = true by decide, if_true]
  refine PySem.W.KFB.if_so (by decide) ?_
  refine wpAny_bind (ESX.check_bound F.excBase_ValueError hC he rfl ?_)
  refine wpAny_bind (wpAny_pure (wpAny_pure ?_))
  refine ⟨Code.quiet_builtin _ (by decide +kernel), codeAny_builtin F.excBase_ValueError.initEntry ?_⟩
  rw [Around.under_plainId F.excBase_ValueError.init.plain _]
  wp_walk
  refine hq _ h.objs.size (fun b o hb ho => ?_) ?_
  · rw [Heap.get?_update_other _ _ (Ne.symm hb)]
    exact Heap.get?_push_of_some _ ho
  · rw [Heap.get?_update_self _ (Heap.get?_push_of_some _ he) rfl]
    rfl
end
end Tw

namespace Tw
open PySem PySem.Spec PyProof.Rows L2 NdefX

/-- what the written part says for super() in an initialiser of the class at C; its cell at cc, its code at cda -/
structure SupTxt (P : Program) (K : PySem.W.Frag) (C cc cda : Addr) : Prop where
  sup : PySem.W.ks_superIn K C C "__init__" = some (some (.builtin "ValueError.__init__"))
  sub : PySem.W.subIn K (.ref C) (.type "ValueError") = some true
  any : PySem.W.nsIn K cStatics "thirdparty.any" = some none
  nsu : PySem.W.nsIn K mainGlobals "super" = some none
  cell : ∃ cl cld csl, K.lookup cc = some ⟨cl, cld, .cell (some (.ref C)), csl⟩
  code : ∃ ccl cdd ccs vs file tf, K.lookup cda = some ⟨ccl, cdd, .fields vs, ccs⟩ ∧ vs[2]? = some (.str file tf) ∧ ((P.main.file : Str) == file) = true
  top : (P.main.scope.names.lookup ("super" : Str)).isSome = false
  mro : PySem.W.mroIn K C (.ref C) = some true

/-- the function of an initialiser that closes over its class -/
abbrev iniF (name qual : Str) (params : Arguments) (body : List Stmt) (scope : Scope) (cc cda : Addr) : NF := ⟨name, qual, params, body, scope, [("__class__", cc)], cda⟩

theorem ini_ok {CX : CXT} {P : Program} {w : World} {K : PySem.W.Frag} {mg : Str → Option Value} {base : Heap} {k : Nat} {f C cc cda : Addr} {name qual : Str} {params : Arguments} {scope : Scope} {doc pm ct oc : Value} {od : Option Addr}
    {osl : Array (Option Value)} {N ps : List Str} {sp : Sp} {p0 p1 p2 p3 p4 : Pos} {msg : Expr} {rest : List Stmt} {ar : Arg} {prest : List Arg}
    (lk : K.lookup f = some ⟨oc, od, .func (PySem.W.ksFn name qual params (.Expr (.Call (.Attribute (.Call (.Name "super" p0) [] [] p1) "__init__" p2) [msg] [] p3) p4 :: rest) scope .none .none doc pm none (.ref cda) ct cc), osl⟩)
    (hcd : PySem.W.codeIn K (.ref cda) qual = true) (S : NScope N ps ["__class__"] scope) (T : OexC K C) (U : SupTxt P K C cc cda)
    (hks : scope.names.lookup ("super" : Str) = some .globalImplicit) (hp : (params.posonlyargs ++ params.args).head? = some ar) (hps : ps.head? = some ar.arg)
    (hev : ∀ env : Env, ∃ pl : Sem Bool, eval (.Call (.Attribute (.Call (.Name "super" p0) [] [] p1) "__init__" p2) [msg] [] p3) env = (do
      let ov ← attributeBase (.Call (.Name "super" p0) [] [] p1) "__init__" env (eval (.Call (.Name "super" p0) [] [] p1) env)
      standAt p2.atName
      let (f, first) ← holding [ov] (getMethod ov "__init__" pl)
      callWith p3 f first (backTo p3 (starEach [msg] env)) []))
    (hst : ∀ env : Env, starEach [msg] env = [(false, eval msg env)])
    (hsw : ∀ env : Env, swapsWith (.Call (.Attribute (.Call (.Name "super" p0) [] [] p1) "__init__" p2) [msg] [] p3) none p4.line env = pure false)
    (len : ∀ vs H Q E, sp vs H Q E → vs.length = ps.length)
    (hbody : ∀ (A : Around) (outer : List Env) (s : Shared) (H : Hp) (vs : List V) (Q : VK) (E : XK), sp vs H Q E →
      ∃ (a : Addr) (tm : TE) (t : TS), vs.head? = some (.ref a) ∧ H a = some (exo a C none) ∧
        PE (ncx CX P w K mg base N (iniF name qual params (.Expr (.Call (.Attribute (.Call (.Name "super" p0) [] [] p1) "__init__" p2) [msg] [] p3) p4 :: rest) scope cc cda) f A outer s H E) msg tm ∧
        PSs (ncx CX P w K mg base N (iniF name qual params (.Expr (.Call (.Attribute (.Call (.Name "super" p0) [] [] p1) "__init__" p2) [msg] [] p3) p4 :: rest) scope cc cda) f A outer s H E) rest t ∧
        tm (startF N vs [none]) H (fun v H1 => H1 a = some (exo a C none) ∧ t { nx := fun _ H' => Q .non H', rt := Q } (startF N vs [none]) H1)) :
    FnOk P w K mg base CX (k + 1) f (PySem.W.ksFn name qual params (.Expr (.Call (.Attribute (.Call (.Name "super" p0) [] [] p1) "__init__" p2) [msg] [] p3) p4 :: rest) scope .none .none doc pm none (.ref cda) ct cc) ps sp := by
  refine ⟨len, fun A outer s H args us vs Q E hr e0 hb r hsp => ?_⟩
  have hl := len _ _ _ _ hsp
  have KX : K.In s.heap := e0.mod.kin.keeps fun b o e => (e0.bs b o e).1
  have lim : s.heap.NoLimit := e0.mod.nolimit.keeps fun b o e => (e0.bs b o e).1
  obtain ⟨a, tm, t, hva, hHa, hmsg, hrest, hread⟩ := hbody A outer s H vs Q E hsp
  obtain ⟨cl, cld, csl, hcell⟩ := U.cell
  obtain ⟨ccl, cdd, ccs, fvs, file, tf, hcode, hvs, hfile⟩ := U.code
  obtain ⟨nm, q, NN, bs, bm, sn, sub, ab, col, dd, k0, k1, k2, k3, k5, hC, hbm⟩ := T.cls
  have hcl : PySem.W.clsIn K C = some { name := nm, bases := bs, mro := .ref C :: bm, ns := NN, qualname := q, hasDict := true, slotNames := sn, subclasses := sub, abstract := ab, collection := col, hasDel := false } := by unfold PySem.W.clsIn; rw [hC] <;> rfl
  have hcc : H cc = none := (e0.bs cc _ (e0.mod.kin _ _ hcell)).2
  have CA : CellsAt [(("__class__" : Str), cc)] ["__class__"] [none] s.heap H := by
    refine ⟨rfl, fun y c e => ?_, fun x y c e1 e2 => ?_, fun i y e => ?_⟩
    · have e' : c = cc := by
        simp only [List.lookup] at e
        split at e
        · exact (Option.some.inj e).symm
        · cases e
      subst e'
      exact ⟨hcc, _, _, KX _ _ hcell, rfl⟩
    · have key : ∀ z : Str, List.lookup z [(("__class__" : Str), cc)] = some c → z = "__class__" := fun z e => by
        simp only [List.lookup] at e
        split at e
        · rename_i h
          exact (by simpa using h)
        · cases e
      rw [key x e1, key y e2]
    · cases i with
      | zero =>
        have e' : y = "__class__" := (Option.some.inj e).symm
        subst e'
        exact ⟨cc, by simp [List.lookup], fun v hv => by cases hv⟩
      | succ i => simp at e
  have hkind : ∀ y ∈ ps.zip us, scope.names.lookup y.1 = some .local := fun ⟨n, v⟩ hy => S.par n (List.of_mem_zip hy).1
  obtain ⟨oa, hoa⟩ : ∃ oa, e0.hok a _ hHa = oa := ⟨_, rfl⟩
  refine ks_codeAny_call_defAt (fd := PySem.W.ksFn name qual params (.Expr (.Call (.Attribute (.Call (.Name "super" p0) [] [] p1) "__init__" p2) [msg] [] p3) p4 :: rest) scope .none .none doc pm none (.ref cda) ct cc) hr.depth (KX _ _ lk) rfl lim (PySem.W.codeRec_of KX hcd) rfl hb S.nocell hkind (fun h₁ hns kp => ?_) S.co S.gen S.kind
  have I0 : Inv (ncx CX P w K mg base N (iniF name qual params (.Expr (.Call (.Attribute (.Call (.Name "super" p0) [] [] p1) "__init__" p2) [msg] [] p3) p4 :: rest) scope cc cda) f A outer s H E) [] (startF N vs [none]) H { s with heap := h₁, toks := s.toks + (ps.zip us).length } :=
    inv_startN S hr.hd e0 hl r CA hns kp
  have K1 : K.In h₁ := KX.keeps kp
  -- self
  obtain ⟨u0, ur, eus, ru0⟩ : ∃ u0 ur, us = u0 :: ur ∧ RelV (.ref a) u0 := by
    cases vs with
    | nil => cases hva
    | cons v0 vr =>
      cases hva
      cases r with
      | cons r1 r2 => exact ⟨_, _, rfl, r1⟩
  obtain rfl : u0 = Value.ref a := ru0
  obtain ⟨pr, eps⟩ : ∃ pr, ps = ar.arg :: pr := by
    cases ps with
    | nil => cases hps
    | cons p0 pr =>
      cases hps
      exact ⟨pr, rfl⟩
  have ndP : ps.Nodup := by
    have q := S.nd.sublist (List.take_sublist (ps.length + 1) N)
    have e := S.pre
    rw [show (["__class__"] : List Str).length = 1 from rfl] at e
    rw [e] at q
    exact (List.nodup_append.mp q).1
  have hself : (ps.zip us).reverse.lookup ar.arg = some (Value.ref a) := zip_look (i := 0) ndP (by rw [eps]; rfl) (by rw [eus]; rfl)
  have hka : scope.names.lookup ar.arg = some .local := S.par _ (by rw [eps]; exact List.mem_cons_self)
  obtain ⟨t1, ho⟩ := exo_at I0.hok hHa
  have ho : h₁.get? a = some ({ cls := .ref C, dict := none, data := .fields #[.ref t1, .none, .none, .none, .bool false, .none] } : Obj) := ho
  -- the first statement
  obtain ⟨pl, hpl⟩ := hev (callEnv (PySem.W.ksFn name qual params (.Expr (.Call (.Attribute (.Call (.Name "super" p0) [] [] p1) "__init__" p2) [msg] [] p3) p4 :: rest) scope .none .none doc pm none (.ref cda) ct cc) s.heap.objs.size f)
  refine ks_wpAt_execs_cons (ks_wpAt_Expr_any (ks_wpAt_MethodCall ?_ hpl) I0.quiet (hsw _))
  have hC1 : h₁.get? C = some (excClassObj nm q C NN bs bm true sn sub ab col dd k0 k1 k2 k3 k5 "ValueError.__new__") := K1 _ _ hC
  refine ks_wpAt_super_base hks (S.frk _ (List.mem_singleton.mpr rfl)) (by decide) rfl (K1 _ _ lk) rfl hp rfl (K1 _ _ hcode) rfl hvs hfile U.top ?_
  obtain ⟨mb, hmb, hbb⟩ := e0.mod.blt
  have kb : ∀ b o, base.get? b = some o → h₁.get? b = some o := fun b o e => kp b o (e0.bs b o e).1
  refine PySem.W.ks_loadName_global S.kind hks (PySem.Calls.loadGlobal_builtin (e0.mod.glob.keeps kb) (PySem.W.mg_none_of e0.mod.kin e0.mod.glob U.nsu) (hmb.keeps kb) ((hbb _ (by decide +kernel)).trans (by first | rfl | decide +kernel | kernel_rfl)) ⟨rfl, ?_⟩)
  refine wpAny_loadName_free S.kind (S.frk _ (List.mem_singleton.mpr rfl)) rfl ⟨_, K1 _ _ hcell, rfl⟩ ?_
  refine wpAny_loadName_local S.kind hka hns hself ?_
  refine ks_wpAny_isType_cls hC1 rfl ⟨rfl, ?_⟩
  refine ks_wpAny_call_super hC1 rfl ho rfl (fun c e => by cases e) (PySem.W.looks_mroIn K1 U.mro) (fun h2 e2 k2 => ?_)
  have I2 : Inv (ncx CX P w K mg base N (iniF name qual params (.Expr (.Call (.Attribute (.Call (.Name "super" p0) [] [] p1) "__init__" p2) [msg] [] p3) p4 :: rest) scope cc cda) f A outer s H E) [] (startF N vs [none]) H { s with heap := h2, toks := s.toks + (ps.zip us).length } := I0.kept k2
  have K2 : K.In h2 := K1.keeps k2
  have hm := U.sup
  unfold PySem.W.ks_superIn at hm
  rw [hcl] at hm
  have ho2 := k2 _ _ ho
  have II : PySem.W.InstAt h2 a { cls := .ref C, dict := none, data := .fields #[.ref t1, .none, .none, .none, .bool false, .none] } C none := ⟨ho2, rfl, rfl, trivial⟩
  have hI : PySem.W.Looks (model P w) h2 (isInstance (.ref a) (.type "ValueError")) true := II.type.andThen (PySem.W.looks_subIn K2 U.sub)
  refine PySem.W.kxs_getMethod PySem.W.kxs_ValueError e2 (PySem.W.looks_opaque K2 U.any) (l₀ := .ref C :: bm) (fun A Q E s k q => wpAny_bind ((PySem.W.looks_clsIn K2 hcl) A _ E s k (wpAny_pure q))) rfl K2 hm hI (PySem.W.ks_ne K2 II hcl) (by decide) ?_
  have I3 : Inv (ncx CX P w K mg base N (iniF name qual params (.Expr (.Call (.Attribute (.Call (.Name "super" p0) [] [] p1) "__init__" p2) [msg] [] p3) p4 :: rest) scope cc cda) f A outer s H E) [] (startF N vs [none]) H { s with heap := h2.push (PySem.W.kxs_mw "ValueError.__init__" a), toks := s.toks + (ps.zip us).length + 1 } := I2.kept fun b o e => Heap.get?_push_of_some _ e
  have hu : (h2.push (PySem.W.kxs_mw "ValueError.__init__" a)).get? h2.objs.size = some (PySem.W.kxs_mw "ValueError.__init__" a) := Heap.get?_push_at rfl rfl
  have I4 := I3.pins_of (pins' := [(h2.objs.size, PySem.W.kxs_mw "ValueError.__init__" a)]) (fun p hp => by
    obtain rfl := List.mem_singleton.mp hp
    exact ⟨hu, I2.hok.fresh (Nat.le_refl _), Nat.ne_of_gt I2.lt, I2.nofs (Nat.le_refl _), fun v z => by cases z⟩)
  rw [hst]
  refine PySem.W.kxs_callWith (i := "ValueError.__init__") (x := a) rfl (PySem.Calls.evalArgs_plain (PySem.Calls.spliced_cons ?_))
  refine wpAny_mono (hmsg.run _ _ _ _ _ I4 hread) (fun u s5 hh => ?_) (fun _ _ z => z)
  obtain ⟨v, H5, I5, rv, hH5, hq⟩ := hh
  refine PySem.Calls.spliced_nil ?_
  have P5 := (I5.pin _ (List.mem_append_right _ (List.mem_singleton.mpr rfl))).1
  have I5' := I5.pins_of (pins' := []) (fun p hp => absurd hp (by simp))
  refine ⟨P5, ?_⟩
  obtain ⟨t5, ho5⟩ := exo_at I5.hok hH5
  have hC5 := I5.kIn _ _ hC
  obtain ⟨hp5, g5, d5, tk5, os5⟩ := s5
  refine wrap_call hC5 ho5 P5 (by rw [sizeLine_eq]; exact (by decide : 1 ≤ 16777216)) fun h6 t6 k6 e6 => ?_
  have J := I5'.write (t' := tk5) (x := a) (e := a) (o := exo a C none) (by rw [hH5]; exact True.intro) (.inl rfl) k6 ⟨_, e6⟩ (exo_ok e6)
  have eu : upd H5 a (exo a C none) = H5 := by
    funext b
    by_cases hb : b = a
    · rw [hb, upd_same, hH5]
    · rw [upd_ne hb]
  rw [eu] at J
  -- the rest
  refine wpAt_of_wpAny ?_
  refine wpAny_mono (hrest.run [] _ _ _ _ J hq) (fun fl s' hs => ?_) fun e s' hs => hs
  have fin : ∀ {σ' : L2.St} {H' : Hp} {v : V} {u : Value}, Inv (ncx CX P w K mg base N (iniF name qual params (.Expr (.Call (.Attribute (.Call (.Name "super" p0) [] [] p1) "__init__" p2) [msg] [] p3) p4 :: rest) scope cc cda) f A outer s H E) [] σ' H' s' → RelV v u → Q v H' → CE outer P w H s Q u s' :=
    fun {σ' H' v u} J rv q => ⟨v, H', J.os, J.bare, J.base, J.hok, rv, q⟩
  cases fl with
  | ret u =>
    obtain ⟨v, σ', H', J, rv, q⟩ := hs
    exact fin J rv q
  | next =>
    obtain ⟨σ', H', J, q⟩ := hs
    exact fin (v := V.non) (u := Value.none) J rfl q
  | brk =>
    obtain ⟨_, _, _, q⟩ := hs
    exact False.elim q
  | cont =>
    obtain ⟨_, _, _, q⟩ := hs
    exact False.elim q
end Tw

namespace Tw
open PySem PySem.Spec PyProof.Rows L2
section
variable {X : Cx} {e : Expr} {es : List Expr} {ta : TA} {p pos : Pos}
/-- raise's operand C(e, ..): the made exception has no context -/
theorem pmk_new {CX : CXT} {x : Str} {C fI : Addr} {k : Nat} {fd : FuncData} {ps : List Str} {sp : Sp} (T : OexC X.K C) (iC : PySem.W.findIn X.K (.ref C) "__init__" = some (some (.ref fI))) (tI : PySem.W.typeIn X.K (.ref fI) = some (.type "function"))
    (F1 : FnOk X.prog X.w X.K X.mg X.base CX k fI fd ps sp) (hr : Room (k + 1) X.A) (hb : Binds X.K fd ps []) (hx : Passes CX X (fun _ _ _ => False)) (hg : Gl X x) (hm : X.mg x = some (.ref C)) (ha : PA X (e :: es) ta)
    {R : List V → Hp → XK → Prop} (hR : ∀ vs H1 Q, R vs H1 Q → vs.length ≤ 1000 ∧ ∀ a, H1 a = none → sp (.ref a :: vs) (upd H1 a (exo a C none))
      (fun v H2 => v = .non ∧ ∃ (d : Addr) (fs : List (Str × V)), H2 a = some (exo a C (some d)) ∧ H2 d = some (exd d fs) ∧ H1 d = none ∧ Q (.ref C) (some d) (upd (del H2 a) d (.xd fs))) (fun _ _ _ => False))
    (hdb : (x == ("__debug__" : Str)) = false := by decide) (he : starEach (e :: es) X.env = (false, eval e X.env) :: starEach es X.env := by rfl) (hpl : (backTo pos (starEach es X.env)).any (·.1) = false := by rfl) :
    L2N.PMk X (.Call (.Name x p) (e :: es) [] pos) (fun σ H Q => ta σ H fun vs H1 => R vs H1 Q) := by
  intro pins s σ H Q I h
  obtain ⟨nm, q, N, bs, bm, sn, sub, ab, col, dd, k0, k1, k2, k3, k5, hC, hbm⟩ := T.cls
  refine wpAny_Call_Name_kw (ld_glob I hg hm ?_ hdb)
  refine PySem.W.callWith_K (h₀ := X.base) I.ok.mod.kin T.kC (thn (ha.run pos pins s σ H _ I h) fun us s1 ⟨vs, H1, I1, r1, qR⟩ => ⟨I1.kIn, ?_⟩) he hpl
  obtain ⟨hz, q1⟩ := hR vs H1 Q qR
  show wpAny _ _ (call (.ref C) us) _ _ _
  obtain ⟨hp, g, dr, tk, os⟩ := s1
  have hsz : hp.objs.size ≤ hp.objs.size + 1 := Nat.le_succ _
  have hn : H1 (hp.objs.size + 1) = none := I1.hok.fresh hsz
  have hq := q1 (hp.objs.size + 1) hn
  have kk : ∀ b o, hp.get? b = some o → ((hp.push (PySem.W.kdv_tup us)).push (PySem.HandSPX.excO C hp.objs.size)).get? b = some o := fun b o e => Heap.get?_push_of_some _ (Heap.get?_push_of_some _ e)
  have hget : ((hp.push (PySem.W.kdv_tup us)).push (PySem.HandSPX.excO C hp.objs.size)).get? (hp.objs.size + 1) = some (PySem.HandSPX.excO C hp.objs.size) := by heap_get
  have I2 : Inv X pins σ (upd H1 (hp.objs.size + 1) (exo (hp.objs.size + 1) C none)) ⟨(hp.push (PySem.W.kdv_tup us)).push (PySem.HandSPX.excO C hp.objs.size), g, dr, tk, os⟩ :=
    I1.laid (t' := tk) (a := hp.objs.size + 1) (o := exo (hp.objs.size + 1) C none) (h' := (hp.push (PySem.W.kdv_tup us)).push (PySem.HandSPX.excO C hp.objs.size)) kk hsz (exo_ok hget)
  have r2 : Vals (V.ref (hp.objs.size + 1) :: vs) (Value.ref (hp.objs.size + 1) :: us) := .cons rfl r1
  have hl : (Value.ref (hp.objs.size + 1) :: us ++ []).length = ps.length := by
    have e := r2.length
    rw [F1.len _ _ _ _ hq] at e
    rw [List.append_nil]
    exact e.symm
  have hus : us.length ≤ sizeLine := by
    rw [← Paired.length r1, sizeLine_eq]
    omega
  have b2 := hb _ (Value.ref (hp.objs.size + 1) :: us) I2.kIn hl
  rw [List.append_nil] at b2
  refine wpAny_call (PySem.HandSPX.call_own F.excBase_ValueError (fun Y => PySem.HandSPX.refsVE_contains Y bm hbm) (I1.kIn _ _ hC) (PySem.W.looks_findIn I1.kIn iC) (fun self => PySem.W.bind_fn I1.kIn self tI) hus
    (codeAny_mono (F1.run _ X.stack _ _ ⟨Value.ref (hp.objs.size + 1) :: us, []⟩ (Value.ref (hp.objs.size + 1) :: us) _ _ (fun _ _ _ => False) (hr.make C us []) (I2.env0.make C us []) b2 r2 hq) fun r s' hq' => ?_))
  cases r with
  | error er => exact hx pins σ _ _ er s' I2 hq'
  | ok fl =>
    cases fl with
    | ret u =>
      obtain ⟨v, H2, os2, bare2, un2, hok2, rv, ev, d, fs, ea, ed, hd1, q2⟩ := hq'
      subst ev
      obtain ⟨h2, g2, d2, t2, os'⟩ := s'
      obtain ⟨t0, G, J, kG, ge, hoe, na⟩ := mk_end0 (d2 := d2) (t2 := t2) I1 hsz kk un2 hok2 os2 bare2 ea ed hd1
      refine ⟨rv, ⟨hp.objs.size + 1, _, _, ⟨G, g2, d2, t2, os'⟩, _, .ref C, some d, rfl, J, kG, ge, hoe, ⟨rfl, rfl, fun vs hv => ?_⟩, rfl, rfl, na, rfl, bare2, raises_own T.exC T.tyC, q2⟩⟩
      cases hv
      rfl
    | next => exact False.elim hq'
    | brk => exact False.elim hq'
    | cont => exact False.elim hq'

/-! the exception that is handled, in a def that is called within the suite: it is pinned in the context -/
/-- e.f, e the handled exception -/
theorem pe_xfP {a C : Addr} {oe : Obj} {cls : Value} {d : Option Addr} {o : Expr} {te : TE} {n : Str} (hp : (a, oe) ∈ X.pn) (T : XfC X.K C) (hno : PySem.W.findIn X.K (.ref C) n = some none)
    (hz : Zc cls d oe) (hf : ∃ vs, oe.data = .fields vs) (he : PE X o te) (hb : attributeBase o n X.env (eval o X.env) = eval o X.env := by rfl) :
    PE X (.Attribute o n pos) (tXf a cls d C n te) := by
  refine ⟨fun pins s σ H Q I h => ?_⟩
  refine attr_of hb (thn (he.run pins s σ H _ I h) fun u s1 hh => ?_)
  obtain ⟨x, H1, I1, rx, ex, ec, dd, fs, v, ed, ea, l, q⟩ := hh
  subst ex
  obtain rfl : u = Value.ref a := rx
  subst ec
  subst ed
  obtain ⟨ha, _⟩ := I1.pin (a, oe) (List.mem_append_left _ hp)
  obtain ⟨vs, hd⟩ := hf
  have hx : ObjOk X.prog X.w H1 s1.heap dd (.xd fs) := I1.hok dd _ ea
  obtain ⟨mA, hns, hr⟩ := hx
  obtain ⟨od, ho, hl⟩ := lookIn_ns hns
  obtain ⟨u, hu, ru⟩ := RelO.some_of (v := v) (o := mA n) (by rw [← l]; exact hr n)
  have J : PySem.W.InstAt s1.heap a oe C (some od) := ⟨ha, hz.1, by unfold PySem.W.notCls; rw [hd] <;> rfl, by rw [hz.2]; exact ho⟩
  exact HandSPX.exc_get I1.kIn J T.ga T.gg T.exC (PySem.W.findObj_own T.hdC hno rfl (by rw [hl, hu])) (handed_of ru) ⟨v, H1, I1.tok _, ru, q⟩
end
end Tw

namespace Tw
open PySem PySem.Spec PyProof.Rows L2

/-- a def called with the handled exception p at hand: its promise may speak of p -/
structure FnP (P : Program) (w : World) (K : PySem.W.Frag) (mg : Str → Option Value) (base : Heap) (k : Nat) (f : Addr) (fd : FuncData) (ps : List Str) (sp : Addr × Obj → Sp) : Prop where
  len : ∀ p vs H Q E, sp p vs H Q E → vs.length = ps.length
  run : ∀ (p : Addr × Obj) (A : Around) (outer : List Env) (s : Shared) (H : Hp) (args : Args) (us : List Value) (vs : List V) (Q : VK), L2H.RoomH k A → L2H.Hot1 A p → L2H.PinOk outer H s p →
    Env0 P w K mg base A outer s H → BindsTo s fd args (ps.zip us) → Vals vs us → sp p vs H Q E0 → codeAny (model P w) A (.call (.ref f) args) (CR CX0 outer P w H s Q E0) s

theorem Fun.hot {P : Program} {w : World} {K : PySem.W.Frag} {mg : Str → Option Value} {base : Heap} {x qual : Str} {st : Stmt} {f : Addr} {fd : FuncData} {N ps : List Str} {k : Nat} {sp : Addr × Obj → Sp} (F : Fun K x qual st f fd) (S : FnScope N ps (defScope st))
    (len : ∀ p vs H Q E, sp p vs H Q E → vs.length = ps.length)
    (hbody : ∀ (p : Addr × Obj) (cdv : Value) (A : Around) (outer : List Env) (s : Shared) (H : Hp) (vs : List V) (Q : VK), L2H.Hot1 A p → L2H.RoomH k (A.deeper (envOfC qual (defScope st) s.heap.objs.size f cdv)) → sp p vs H Q E0 →
      ∃ t, PSs (L2H.cxH CX0 P w K mg base N qual (defScope st) f cdv A outer s H E0 p) (defBody st) t ∧ t { nx := fun _ H' => Q .non H', rt := Q } (start N vs) H) : FnP P w K mg base (k + 1) f fd ps sp := by
  refine ⟨len, fun p A outer s H args us vs Q hr hot hpin e0 hb r hsp => ?_⟩
  obtain ⟨oc, od, kV, doc, pm, an, cdv, ct, osl, rfl, lk, hcd⟩ := F.ex
  have hl := len _ _ _ _ _ hsp
  have kb : ∀ b o, base.get? b = some o → s.heap.get? b = some o := fun b o e => (e0.bs b o e).1
  have KX := e0.mod.kin.keeps kb
  refine codeAny_call_function hr.depth (KX _ _ lk) rfl S.co S.gen rfl (PySem.W.codeRec_of KX hcd) (hb _ _ _ _ (wpAny_newFunctionEnv_cells S.kind (fun y hy => ?_) fun env he s1 x => ?_))
  · exact (S.par y.1 (List.of_mem_zip (a := y.1) (b := y.2) hy).1).imp id fun q => ⟨q, PySem.W.cellsFrom_some _ _ _ (.inl q)⟩
  · subst he
    obtain ⟨t, ht, hq⟩ := hbody p cdv A outer s H vs Q hot (hr.deeper _) hsp
    refine ⟨(e0.mod.nolimit.keeps kb).keeps x.toInCall.keep, codeAny_func (wpAny_mono (ht.run [] s1 _ H _ (L2H.inv_startH S hpin e0 hl r x) hq) (fun fl s' hs => ?_) fun e s' hs => hs)⟩
    cases fl with
    | ret u => exact let ⟨v, _, H', J, rv, q⟩ := hs; ⟨v, H', J.os, J.bare, J.base, J.hok, rv, q⟩
    | next => exact let ⟨_, H', J, q⟩ := hs; ⟨V.non, H', J.os, J.bare, J.base, J.hok, rfl, q⟩
    | brk => exact let ⟨_, _, _, q⟩ := hs; q.elim
    | cont => exact let ⟨_, _, _, q⟩ := hs; q.elim

section
variable {X : Cx} {e : Expr} {es : List Expr} {ta : TA} {t : TA} {x : Str} {q pos : Pos}
/-- the call of such a def within a suite -/
theorem pe_callP {k : Nat} {f : Addr} {fd : FuncData} {ps : List Str} {sp : Addr × Obj → Sp} {p : Addr × Obj} (F : FnP X.prog X.w X.K X.mg X.base k f fd ps sp) (hr : L2H.RoomH k X.A) (hot : L2H.Hot1 X.A p) (hp : p ∈ X.pn) (hg : Gl X x) (hm : X.mg x = some (.ref f))
    (hk : PySem.W.keepIn X.K (.ref f) = true) (hb : Binds X.K fd ps []) (ha : PA X (e :: es) t) (hdb : (x == ("__debug__" : Str)) = false := by decide)
    (he : starEach (e :: es) X.env = (false, eval e X.env) :: starEach es X.env := by rfl) (hpl : (backTo pos (starEach es X.env)).any (·.1) = false := by rfl) :
    PE X (.Call (.Name x q) (e :: es) [] pos) (tCall (sp p) [] E0 t) := by
  refine ⟨fun pins s σ H Q I h => wpAny_Call_Name_kw (ld_glob I hg hm ?_ hdb)⟩
  refine PySem.W.callWith_K (h₀ := X.base) I.ok.mod.kin hk (thn (ha.run pos pins s σ H _ I h) fun us s1 ⟨vs, H1, I1, r, q⟩ => ⟨I1.kIn, ?_⟩) he hpl
  have q : sp p (vs ++ []) H1 Q E0 := q
  rw [List.append_nil] at q
  have hl : (us ++ []).length = ps.length := by rw [List.append_nil, ← r.length]; exact F.len _ _ _ _ _ q
  have b := hb s1 us I1.kIn hl
  rw [List.append_nil] at b
  obtain ⟨g1, g2, g3, g4, g5⟩ := I1.pin p (List.mem_append_left _ hp)
  refine wpAny_call (codeAny_mono (F.run p X.A X.stack s1 H1 ⟨us, []⟩ us vs Q hr hot ⟨g1, g2, fun z => (List.mem_cons.mp (I1.stkSub p.1 z)).elim g3 g4, g5⟩ I1.env0 b r q) fun r s' hq => ?_)
  cases r with
  | error e => exact hq.elim
  | ok fl =>
    cases fl with
    | ret u => exact I1.after hq
    | next => exact hq.elim
    | brk => exact hq.elim
    | cont => exact hq.elim

/-- isinstance(e, c), e the handled exception, of the class at D with its dict at dd -/
def rIsP (K : PySem.W.Frag) (D a dd : Addr) : List V → Hp → VK → Prop := fun xs H Q => ∃ (c : V) (cv : Value) (b : Bool) (fs : List (Str × V)), xs = [.ref a, c] ∧ ClsV c cv ∧ H dd = some (.xd fs) ∧ PySem.W.kitOne K (.ref D) cv = some b ∧ Q (.bl b) H
theorem call_isP {a D dd : Addr} {oe : Obj} (hp : (a, oe) ∈ X.pn) (C : ExcC X.K D) (hz : Zc (.ref D) (some dd) oe) (hf : ∃ vs, oe.data = .fields vs) : CallR X (.builtin "isinstance") (rIsP X.K D a dd) := by
  intro pins s σ H xs us Q I r h
  obtain ⟨c, cv, b, fs, rfl, kc, ed, e, q⟩ := h
  obtain ⟨u1, u2, rfl, r1, r2⟩ := vals2 r
  obtain rfl : u1 = Value.ref a := r1
  have e2 := kc.eq r2
  subst e2
  obtain ⟨vs, hv⟩ := hf
  obtain ⟨mA, hns, _⟩ := (show ObjOk X.prog X.w H s.heap dd (.xd fs) from I.hok dd _ ed)
  obtain ⟨od, ho, _⟩ := lookIn_ns hns
  have J : PySem.W.InstAt s.heap a oe D (some od) := ⟨(I.pin (a, oe) (List.mem_append_left _ hp)).1, hz.1, by unfold PySem.W.notCls; rw [hv] <;> rfl, by rw [hz.2]; exact ho⟩
  exact PySem.W.kia_one (PySem.W.kitx_exc (by obtain ⟨cd, hc, _⟩ := PySem.W.any_some C.hd; rw [hc] <;> rfl) C.hg C.hk C.hs C.ha C.hn C.ht C.hm) I.kIn J e (fun z => nomatch z) fun tk => ⟨.bl b, H, I.tok tk, rfl, q⟩
end
end Tw

namespace Tw
open PySem PySem.Spec PyProof.Rows L2

/-! ### an own exception with its fields -/
def okMsg (y : V) : Prop := (∃ i : Int, y = .int i ∧ i.natAbs.log2 < 1920) ∨ ∃ z : Str, y = .str z ∧ z.length ≤ 100000
/-- the fields as they lie: the last stored first -/
def errF (fl : List Str) (ys : List V) : List (Str × V) := (fl.zip ys).reverse
/-- what an initialiser promises -/
def spIni (C : Addr) (fl : List Str) : Sp := fun vs H Q _ => ∃ (a : Addr) (ys : List V), vs = .ref a :: ys ∧ ys.length = fl.length ∧ H a = some (exo a C none) ∧ (∀ y ∈ ys, okMsg y) ∧
  ∀ dx H', H dx = none → dx ≠ a → (∀ b, b ≠ a → b ≠ dx → H' b = H b) → H' a = some (exo a C (some dx)) → H' dx = some (exd dx (errF fl ys)) → Q .non H'
structure Exc (P : Program) (w : World) (K : PySem.W.Frag) (mg : Str → Option Value) (base : Heap) (x : Str) (fl : List Str) (C : Addr) : Prop where
  ox : OexC K C
  g : mg x = some (.ref C)
  ini : ∃ fI fd, PySem.W.findIn K (.ref C) "__init__" = some (some (.ref fI)) ∧ PySem.W.typeIn K (.ref fI) = some (.type "function") ∧ FnOk P w K mg base CX0 1 fI fd ("self" :: fl) (spIni C fl) ∧ Binds K fd ("self" :: fl) []
def tErr (C : Addr) (fl : List Str) (ta : TA) : L2.St → Hp → XK → Prop := fun σ H Q => ta σ H fun ys H1 => ys.length = fl.length ∧ ys.length ≤ 1000 ∧ (∀ y ∈ ys, okMsg y) ∧ ∀ d, H1 d = none → Q (.ref C) (some d) (upd H1 d (.xd (errF fl ys)))
theorem pmk_err {X : Cx} {x : Str} {fl : List Str} {C : Addr} {e : Expr} {es : List Expr} {ta : TA} {p pos : Pos} (T : Exc X.prog X.w X.K X.mg X.base x fl C) (hr : Room 2 X.A) (hg : Gl X x) (ha : PA X (e :: es) ta)
    (hdb : (x == ("__debug__" : Str)) = false := by decide) (he : starEach (e :: es) X.env = (false, eval e X.env) :: starEach es X.env := by rfl) (hpl : (backTo pos (starEach es X.env)).any (·.1) = false := by rfl) :
    L2N.PMk X (.Call (.Name x p) (e :: es) [] pos) (tErr C fl ta) := by
  obtain ⟨fI, fd, h1, h2, h3, h4⟩ := T.ini
  refine pmk_new T.ox h1 h2 h3 hr h4 pass0 hg T.g ha (R := fun ys H1 Q => ys.length = fl.length ∧ ys.length ≤ 1000 ∧ (∀ y ∈ ys, okMsg y) ∧ ∀ d, H1 d = none → Q (.ref C) (some d) (upd H1 d (.xd (errF fl ys)))) (fun ys H1 Q ⟨l1, l2, ok, q⟩ => ⟨l2, fun a na => ⟨a, ys, rfl, l1, upd_same, ok, fun dx H' nd ne kp ea ed => ⟨rfl, dx, _, ea, ed, ?_, ?_⟩⟩⟩) hdb he hpl
  · rw [upd_ne ne] at nd
    exact nd
  · rw [upd_ne ne] at nd
    have e : upd (del H' a) dx (.xd (errF fl ys)) = upd H1 dx (.xd (errF fl ys)) := by
      funext b
      by_cases hb : b = dx
      · rw [hb, upd_same, upd_same]
      · rw [upd_ne hb, upd_ne hb]
        by_cases ha : b = a
        · rw [ha, del_same, na]
        · rw [del_ne ha, kp b ha hb, upd_ne ha]
    rw [e]
    exact q dx nd

/-! ### a def at its name -/
structure DefAt (K : PySem.W.Frag) (mg : Str → Option Value) (x : Str) (st : Stmt) : Prop where
  ex : ∃ f fd, Fun K x x st f fd ∧ mg x = some (.ref f)
structure Cal (P : Program) (w : World) (K : PySem.W.Frag) (mg : Str → Option Value) (base : Heap) (CX : CXT) (x : Str) (k : Nat) (ps : List Str) (sp : Sp) : Prop where
  ex : ∃ f fd, FnOk P w K mg base CX k f fd ps sp ∧ mg x = some (.ref f) ∧ PySem.W.keepIn K (.ref f) = true ∧ Binds K fd ps []
theorem Cal.mono {P : Program} {w : World} {K : PySem.W.Frag} {mg : Str → Option Value} {base : Heap} {CX : CXT} {x : Str} {j k : Nat} {ps : List Str} {sp : Sp} (c : Cal P w K mg base CX x j ps sp) (h : j ≤ k) : Cal P w K mg base CX x k ps sp := by
  obtain ⟨f, fd, h1, h2, h3, h4⟩ := c.ex
  exact ⟨f, fd, h1.mono h, h2, h3, h4⟩
section
variable {X : Cx} {x : Str} {e : Expr} {es : List Expr} {t : TA} {q pos : Pos} {k : Nat} {ps : List Str} {sp : Sp}
theorem pe_cal (c : Cal X.prog X.w X.K X.mg X.base CX0 x k ps sp) (hr : Room k X.A) (hg : Gl X x) (ha : PA X (e :: es) t) (hdb : (x == ("__debug__" : Str)) = false := by decide)
    (he : starEach (e :: es) X.env = (false, eval e X.env) :: starEach es X.env := by rfl) (hpl : (backTo pos (starEach es X.env)).any (·.1) = false := by rfl) : PE X (.Call (.Name x q) (e :: es) [] pos) (tCall sp [] E0 t) := by
  obtain ⟨f, fd, h1, h2, h3, h4⟩ := c.ex
  exact pe_call h1 hr hg h2 h3 h4 .nil pass0 ha hdb he hpl
/-- within a try, or in a def that may raise: what is raised is wished by W -/
theorem pe_calX {W : WX} (c : Cal X.prog X.w X.K X.mg X.base (L2N.CX X.prog X.w) x k ps sp) (tk : L2N.Takes X W) (hr : Room k X.A) (hg : Gl X x) (ha : PA X (e :: es) t) (hdb : (x == ("__debug__" : Str)) = false := by decide)
    (he : starEach (e :: es) X.env = (false, eval e X.env) :: starEach es X.env := by rfl) (hpl : (backTo pos (starEach es X.env)).any (·.1) = false := by rfl) : PE X (.Call (.Name x q) (e :: es) [] pos) (tCallS sp (WE W) t) := by
  obtain ⟨f, fd, h1, h2, h3, h4⟩ := c.ex
  exact pe_callS h1 hr hg h2 h3 h4 (fun σ => L2N.passAt tk σ) ha hdb he hpl
end
section
variable {P : Program} {w : World} {K : PySem.W.Frag} {mg : Str → Option Value} {base : Heap} {x : Str} {st : Stmt} {N ps : List Str} {k : Nat} {sp : Sp}
/-- how positional arguments come to the parameters -/
abbrev BindOk (x : Str) (st : Stmt) (ps : List Str) : Prop := ∀ (kV doc pm : Value) (an : Option Addr) (cdv ct : Value) (us : List Value), us.length = ps.length → bindArgs (PySem.W.fnOf x x (defArgs st) (defBody st) (defScope st) .none kV doc pm an cdv ct) ⟨us, []⟩ = pure (ps.zip us)
/-- a def that raises nothing, by its body -/
theorem cal_of (D : DefAt K mg x st) (S : FnScope N ps (defScope st)) (hb : BindOk x st ps) (len : ∀ vs H Q E, sp vs H Q E → vs.length = ps.length)
    (hbody : ∀ (f : Addr) (cdv : Value) (A : Around) (outer : List Env) (s : Shared) (H : Hp) (vs : List V) (Q : VK) (E : XK), Room k (A.deeper (envOfC x (defScope st) s.heap.objs.size f cdv)) → sp vs H Q E →
      ∃ t, PSs (cxOf CX0 P w K mg base N x (defScope st) f cdv A outer s H E).nox (defBody st) t ∧ t { nx := fun _ H' => Q .non H', rt := Q } (start N vs) H) : Cal P w K mg base CX0 x (k + 1) ps sp := by
  obtain ⟨f, fd, F, m⟩ := D.ex
  exact ⟨f, fd, F.ok S len (hbody f), m, F.kp, F.binds hb⟩
/-- a def that may raise -/
theorem calX_of (D : DefAt K mg x st) (S : FnScope N ps (defScope st)) (hb : BindOk x st ps) (len : ∀ vs H Q E, sp vs H Q E → vs.length = ps.length)
    (hbody : ∀ (f : Addr) (cdv : Value) (A : Around) (outer : List Env) (s : Shared) (H : Hp) (vs : List V) (Q : VK) (E : XK), Room k (A.deeper (envOfC x (defScope st) s.heap.objs.size f cdv)) → sp vs H Q E →
      ∃ t, PSs (cxOf (L2N.CX P w) P w K mg base N x (defScope st) f cdv A outer s H E) (defBody st) t ∧ t { nx := fun _ H' => Q .non H', rt := Q } (start N vs) H) : Cal P w K mg base (L2N.CX P w) x (k + 1) ps sp := by
  obtain ⟨f, fd, F, m⟩ := D.ex
  refine ⟨f, fd, ?_, m, F.kp, F.binds hb⟩
  obtain ⟨oc, od, kV, doc, pm, an, cdv, ct, osl, rfl, lk, hcd⟩ := F.ex
  exact fn_of lk hcd S len fun A outer s H vs Q E hr hsp => hbody f cdv A outer s H vs Q E hr hsp
end
end Tw

namespace Tw
open PySem PySem.Spec PyProof.Rows L2

/-! ### the bag of a law: what it draws from -/
abbrev bg (c : Addr) (i x k t fo : Int) (big : Bool) : HO := .lst [.ref c, .int i, .int x, .int k, .int t, .int fo, .bl big]
/-- F: what is settled (never written again); the bag at b is not -/
def Bag (K : PySem.W.Frag) (F H : Hp) (b : Addr) : Prop := F b = none ∧ ∃ (c : Addr) (ns : List Int) (i x k t fo : Int) (big : Bool), H b = some (bg c i x k t fo big) ∧ SqL K F c (ns.map V.int) ∧ ns.length ≤ 63 ∧ 0 ≤ i
def spDraw (K : PySem.W.Frag) : Sp := fun vs H Q _ => ∃ (F : Hp) (b : Addr) (n : Int), vs = [.ref b, .int n] ∧ Same F H ∧ Bag K F H b ∧ 0 < n ∧ n < 1073741824 ∧
  ∀ r H', 0 ≤ r → r < n → (∀ a, a ≠ b → H' a = H a) → Bag K F H' b → Q (.int r) H'
def spMixed : Sp := fun vs H Q _ => ∃ (i j : Int), vs = [.int i, .int j] ∧ ∀ r : Int, 0 ≤ r → Q (.int r) H
theorem ixN_lt {n j : Nat} {i : Int} (h : i = (j : Int)) (hj : j < n) : ixN n i = some j := by
  subst h
  exact Evl.ixN_nat hj
theorem same_upd {F H : Hp} {b : Addr} {o : HO} (s : Same F H) (hb : F b = none) : Same F (upd H b o) := fun a u e => by
  rw [upd_ne (ne_of_none e hb)]
  exact s a u e
theorem same_new {H : Hp} {p : Addr} {o : HO} (h : H p = none) : Same H (upd H p o) := fun a u e => by
  rw [upd_ne (ne_of_none e h)]
  exact e
theorem Same.lst {K : PySem.W.Frag} {F H : Hp} {a : Addr} {xs : List V} (s : Same F H) (h : SqL K F a xs) : SqL K H a xs := s.seq h
theorem Same.tup {K : PySem.W.Frag} {H H' : Hp} {a : Addr} {xs : List V} (e : Same H H') (h : SqT K H a xs) : SqT K H' a xs := Evl.ex_t e h
end Tw

namespace Tw
open PySem PySem.Spec PyProof.Rows L2
section
variable {K : PySem.W.Frag} {H H' : Hp}
mutual
theorem Dp.same (s : Same H H') : ∀ {d : PyData} {v : V}, Dp K H v d → Dp K H' v d
  | .none, _, .non => .non
  | .bool _, _, .bl b => .bl b
  | .int _, _, .int i => .int i
  | .str _, _, .str x => .str x
  | .list _, _, .lst h r => .lst (s.seq h) (DpAll.same s r)
  | .tuple _, _, .tup h r => .tup (Same.tup s h) (DpAll.same s r)
theorem DpAll.same (s : Same H H') : ∀ {ds : List PyData} {vs : List V}, DpAll K H vs ds → DpAll K H' vs ds
  | [], _, .nil => .nil
  | _ :: _, _, .cons h r => .cons (Dp.same s h) (DpAll.same s r)
end
theorem DpAll.len : ∀ {vs : List V} {ds : List PyData}, DpAll K H vs ds → vs.length = ds.length
  | _, _, .nil => rfl
  | _, _, .cons _ r => congrArg (· + 1) (DpAll.len r)
theorem DpAll.get : ∀ {vs : List V} {ds : List PyData} {i : Nat} {v : V}, DpAll K H vs ds → vs[i]? = some v → ∃ d, ds[i]? = some d ∧ Dp K H v d
  | _, _, _, _, .nil, e => by simp at e
  | _, _, 0, v, .cons h _, e => ⟨_, rfl, by cases e; exact h⟩
  | _, _, i + 1, v, .cons _ r, e => DpAll.get (i := i) r (by simpa using e)
theorem DpAll.get' : ∀ {vs : List V} {ds : List PyData} {i : Nat} {d : PyData}, DpAll K H vs ds → ds[i]? = some d → ∃ v, vs[i]? = some v ∧ Dp K H v d
  | _, _, _, _, .nil, e => by simp at e
  | _, _, 0, _, .cons h _, e => ⟨_, rfl, by cases e; exact h⟩
  | _, _, i + 1, _, .cons _ r, e => DpAll.get' (i := i) r (by simpa using e)
theorem DpAll.append : ∀ {vs ws : List V} {ds es : List PyData}, DpAll K H vs ds → DpAll K H ws es → DpAll K H (vs ++ ws) (ds ++ es)
  | _, _, _, _, .nil, s => s
  | _, _, _, _, .cons h r, s => .cons h (DpAll.append r s)
theorem DpAll.one {v : V} {d : PyData} (h : Dp K H v d) : DpAll K H [v] [d] := .cons h .nil
/-- a value's built-in type -/
def tyN : PyData → String
  | .none => "NoneType" | .bool _ => "bool" | .int _ => "int" | .str _ => "str" | .list _ => "list" | .tuple _ => "tuple" | .dict _ => "dict"
theorem ty_of {v : V} {d : PyData} (h : Dp K H v d) : TyX K H v (.type (tyN d)) := by
  cases h with
  | non => exact .base .non
  | bl b => exact .base (.bl b)
  | int i => exact .base (.int i)
  | str x => exact .base (.str x)
  | lst h r =>
    rcases h with (h | ⟨o, h⟩) | ⟨o, its, n, h1, h2, h3, h4, h5⟩
    · exact .base (.lst h)
    · exact .base (.frz h)
    · exact .kList h1 (by assumption)
  | tup h r =>
    rcases h with (h | ⟨o, h⟩) | h
    · exact .base (.tup h)
    · exact .fTuple h
    · obtain ⟨o, its, n, h1, h2, _⟩ := h
      exact .kTuple h1 h2
/-- data without None and dicts, of bounded depth -/
def ExD : Nat → PyData → Prop
  | _, .bool _ => True
  | _, .int _ => True
  | _, .str _ => True
  | n + 1, .list ds => ds.length ≤ 1000001 ∧ ∀ d ∈ ds, ExD n d
  | n + 1, .tuple ds => ds.length ≤ 1000001 ∧ ∀ d ∈ ds, ExD n d
  | _, _ => False
/-- told is exactly due -/
def spExact (K : PySem.W.Frag) (n : Nat) : Sp := fun vs H Q _ => ∃ (x y : V) (d : PyData), vs = [x, y] ∧ Dp K H x d ∧ Dp K H y d ∧ ExD n d ∧ ∀ H', Same H H' → Q (.bl true) H'
theorem kT {a b : String} (h : kitB a b = some true := by decide +kernel) : PySem.W.kitOne K (.type a) (.type b) = some true := kit_ty h
theorem kF {a b : String} (h : kitB a b = some false := by decide +kernel) : PySem.W.kitOne K (.type a) (.type b) = some false := kit_ty h
theorem kit_lt {t a b : String} {r1 r2 : Bool} (h1 : kitB t a = some r1) (h2 : kitB t b = some r2) : PySem.W.kitAny K (.type t) [.type a, .type b] = some (r1 || r2) :=
  kitAny_cons (kit_ty h1) (fun _ => kitAny_cons (kit_ty h2) (fun e => by subst e; cases r1 <;> first | rfl | contradiction) (fun e => by subst e; cases r1 <;> rfl)) (fun e => by subst e; rfl)
end
end Tw

namespace Tw
open PySem PySem.Spec PyProof.Rows L2 TL

/-! ### rides as words -/
abbrev Ride := Int × Str
def okC (c : Str) : Bool := decide (c = "red") || decide (c = "blue")
def bad (r : Ride) : Bool := !(decide (0 ≤ r.1) && decide (r.1 ≤ 99)) || !okC r.2
def isDig (c : Nat) : Bool := decide (c ∈ tl "0123456789")
def numIn : List Nat → Option Int
  | [c] => if isDig c then some ((c : Int) - 48) else none
  | [c, d] => if isDig c && isDig d && !decide (c = 48) then some (((c : Int) - 48) * 10 + ((d : Int) - 48)) else none
  | _ => none
theorem numIn1 (c : Nat) : numIn [c] = if isDig c then some ((c : Int) - 48) else none := rfl
theorem numIn2 (c d : Nat) : numIn [c, d] = if isDig c && isDig d && !decide (c = 48) then some (((c : Int) - 48) * 10 + ((d : Int) - 48)) else none := rfl
def rideOf (w : Str) : Option Ride :=
  match tl w with
  | [] => none
  | c :: r => match numIn r with
    | none => none
    | some n => if c = 114 then some (n, "red") else if c = 98 then some (n, "blue") else none
/-- the word of a ride -/
def wordOf (r : Ride) : Str := ⟨#[r.2.cps.getD 0 0]⟩ ++ Str.ofString (toString r.1)
theorem digs : tl "0123456789" = [48, 49, 50, 51, 52, 53, 54, 55, 56, 57] := by decide +kernel
theorem isDig_iff {c : Nat} : isDig c = true ↔ 48 ≤ c ∧ c ≤ 57 := by
  unfold isDig
  rw [digs, decide_eq_true_iff]
  simp only [List.mem_cons, List.not_mem_nil, or_false]
  omega
def numT (n : Nat) : List Nat := if n < 10 then [48 + n] else [48 + n / 10, 48 + n % 10]
theorem tl_num : ∀ n : Nat, n < 100 → tl (Str.ofString (toString ((n : Nat) : Int))) = numT n := by decide +kernel
theorem num_T {n : Nat} (h : n < 100) : numIn (numT n) = some (n : Int) := by
  unfold numT
  by_cases h1 : n < 10
  · rw [if_pos h1, numIn1]
    rw [if_pos (isDig_iff.mpr (by omega))]
    congr 1
    omega
  · rw [if_neg h1, numIn2]
    have e : (isDig (48 + n / 10) && isDig (48 + n % 10) && !decide (48 + n / 10 = 48)) = true := by
      rw [isDig_iff.mpr (by omega), isDig_iff.mpr (by omega), decide_eq_false (by omega)]
      rfl
    rw [if_pos e]
    congr 1
    omega
theorem num_inv {l : List Nat} {n : Int} (h : numIn l = some n) : ∃ k : Nat, k < 100 ∧ n = (k : Int) ∧ l = numT k := by
  match l, h with
  | [c], h =>
    rw [numIn1] at h
    by_cases hc : isDig c = true
    · rw [if_pos hc] at h
      have := isDig_iff.mp hc
      refine ⟨c - 48, by omega, by cases h; omega, ?_⟩
      unfold numT
      rw [if_pos (by omega)]
      congr 1
      omega
    · rw [if_neg hc] at h
      cases h
  | [c, d], h =>
    rw [numIn2] at h
    by_cases hc : (isDig c && isDig d && !decide (c = 48)) = true
    · rw [if_pos hc] at h
      simp only [Bool.and_eq_true, Bool.not_eq_true', decide_eq_false_iff_not] at hc
      have h1 := isDig_iff.mp hc.1.1
      have h2 := isDig_iff.mp hc.1.2
      have h3 := hc.2
      refine ⟨(c - 48) * 10 + (d - 48), by omega, by cases h; omega, ?_⟩
      unfold numT
      rw [if_neg (by omega)]
      have e1 : 48 + ((c - 48) * 10 + (d - 48)) / 10 = c := by omega
      have e2 : 48 + ((c - 48) * 10 + (d - 48)) % 10 = d := by omega
      rw [e1, e2]
    · rw [if_neg hc] at h
      cases h
theorem int_T : ∀ n : Nat, n < 100 → PySem.intText? ⟨(numT n).toArray⟩ = some (n : Int) := by decide +kernel
theorem tl_red : tl "red" = [114, 101, 100] := by decide +kernel
theorem tl_blue : tl "blue" = [98, 108, 117, 101] := by decide +kernel
theorem cps_red : ("red" : Str).cps.getD 0 0 = 114 := by decide +kernel
theorem cps_blue : ("blue" : Str).cps.getD 0 0 = 98 := by decide +kernel
theorem ne_rb : ("red" : Str) ≠ "blue" := by decide +kernel
theorem ok_cases {c : Str} (h : okC c = true) : c = "red" ∨ c = "blue" := by
  unfold okC at h
  simpa using h
theorem good_of {r : Ride} (h : bad r = false) : ∃ n : Nat, n < 100 ∧ r.1 = (n : Int) ∧ (r.2 = "red" ∨ r.2 = "blue") := by
  unfold bad at h
  simp only [Bool.or_eq_false_iff, Bool.not_eq_false', Bool.and_eq_true, decide_eq_true_eq] at h
  exact ⟨r.1.toNat, by omega, by omega, ok_cases h.2⟩
theorem tl_word {n : Nat} {c : Str} (h : n < 100) : tl (wordOf ((n : Int), c)) = c.cps.getD 0 0 :: numT n := by
  unfold wordOf
  rw [tl_append, tl_num n h]
  rfl
theorem ride_word {r : Ride} (h : bad r = false) : rideOf (wordOf r) = some r := by
  obtain ⟨n, hn, e1, e2⟩ := good_of h
  obtain ⟨i, c⟩ := r
  dsimp only at e1 e2
  subst e1
  unfold rideOf
  rw [tl_word hn]
  rcases e2 with rfl | rfl
  · simp only [num_T hn, cps_red, if_true]
  · simp only [num_T hn, cps_blue]
    rfl
theorem word_ride {w : Str} {r : Ride} (h : rideOf w = some r) : bad r = false ∧ wordOf r = w := by
  unfold rideOf at h
  cases ew : tl w with
  | nil => rw [ew] at h; cases h
  | cons c l =>
    rw [ew] at h
    dsimp only at h
    cases en : numIn l with
    | none => rw [en] at h; cases h
    | some m =>
      rw [en] at h
      dsimp only at h
      obtain ⟨k, hk, rfl, rfl⟩ := num_inv en
      have fin : ∀ col : Str, (col = "red" ∨ col = "blue") → r = ((k : Int), col) → c = col.cps.getD 0 0 → bad r = false ∧ wordOf r = w := fun col hcol er ec => by
        subst er
        refine ⟨?_, ?_⟩
        · unfold bad okC
          have h1 : decide ((0 : Int) ≤ (k : Int)) = true := decide_eq_true (by omega)
          have h2 : decide ((k : Int) ≤ 99) = true := decide_eq_true (by omega)
          rcases hcol with rfl | rfl
          · simp [h1, h2]
          · simp [h1, h2]
        · refine ext_tl ?_
          rw [tl_word hk, ew, ec]
      by_cases h1 : c = 114
      · rw [if_pos h1] at h
        exact fin "red" (.inl rfl) (Option.some.inj h).symm (by rw [cps_red]; exact h1)
      · rw [if_neg h1] at h
        by_cases h2 : c = 98
        · rw [if_pos h2] at h
          exact fin "blue" (.inr rfl) (Option.some.inj h).symm (by rw [cps_blue]; exact h2)
        · rw [if_neg h2] at h
          cases h
/-! ### a text as words -/
theorem tl_sp : tl " " = [32] := by decide +kernel
theorem spl_ne : ∀ (l acc : List Nat), spl [32] 0 acc l ≠ []
  | [], acc => by unfold spl; simp
  | c :: r, acc => by
    unfold spl
    split
    · simp
    · exact spl_ne r _
theorem join_spl : ∀ (l acc : List Nat), joinL [32] (spl [32] 0 acc l) = acc ++ l
  | [], acc => by
    unfold spl
    show acc = acc ++ []
    rw [List.append_nil]
  | c :: r, acc => by
    unfold spl
    by_cases h : pre [32] (c :: r) = true
    · rw [if_pos h]
      have hc : c = 32 := by
        unfold pre at h
        simpa using h
      have ih := join_spl r []
      cases e : spl [32] ([32].length - 1) [] r with
      | nil => exact absurd e (spl_ne r [])
      | cons p q =>
        show acc ++ ([32] ++ joinL [32] (p :: q)) = acc ++ c :: r
        have e' : spl [32] 0 [] r = p :: q := e
        rw [← e', ih, hc]
        rfl
    · rw [if_neg h, join_spl r (acc ++ [c]), List.append_assoc]
      rfl
theorem join_split (x : Str) : Txt.join " " (Txt.split x " ") = x := by
  refine ext_tl ?_
  rw [join_eq, tl_join, split_spl x " " (by rw [tl_sp]; simp) (kind_ok (by decide +kernel)), tl_sp, join_spl]
  rfl
theorem split_ne (x : Str) : Txt.split x " " ≠ [] := fun h => by
  have e := split_spl x " " (by rw [tl_sp]; simp) (kind_ok (by decide +kernel))
  rw [h, tl_sp] at e
  exact spl_ne _ _ e.symm
end Tw

namespace Tw
open PySem PySem.Spec PyProof.Rows L2
def top (i : Nat) : Stmt := PySem.Challenge.pw_twinrope_k08_trips_as_texts.main.body.getD i (.Pass ⟨0, 0, 0, 0⟩)
abbrev s_number_in : Stmt := top 10
theorem sc_number_in : FnScope ["word", "sign"] ["word"] (defScope s_number_in) := ⟨rfl, rfl, rfl, by decide +kernel, rfl, by decide +kernel, by decide +kernel⟩
theorem b_number_in : BindOk "number_in" s_number_in ["word"] := fun _ _ _ _ _ _ us hl => match us, hl with | [_], _ => rfl
abbrev s_write_trip : Stmt := top 11
theorem sc_write_trip : FnScope ["rides", "place", "rope", "colour"] ["rides"] (defScope s_write_trip) := ⟨rfl, rfl, rfl, by decide +kernel, rfl, by decide +kernel, by decide +kernel⟩
theorem b_write_trip : BindOk "write_trip" s_write_trip ["rides"] := fun _ _ _ _ _ _ us hl => match us, hl with | [_], _ => rfl
abbrev s_read_trip : Stmt := top 12
theorem sc_read_trip : FnScope ["text", "rides", "place", "word", "ride"] ["text"] (defScope s_read_trip) := ⟨rfl, rfl, rfl, by decide +kernel, rfl, by decide +kernel, by decide +kernel⟩
theorem b_read_trip : BindOk "read_trip" s_read_trip ["text"] := fun _ _ _ _ _ _ us hl => match us, hl with | [_], _ => rfl
abbrev s_ride_in : Stmt := top 13
theorem sc_ride_in : FnScope ["word", "rope", "colour"] ["word"] (defScope s_ride_in) := ⟨rfl, rfl, rfl, by decide +kernel, rfl, by decide +kernel, by decide +kernel⟩
theorem b_ride_in : BindOk "ride_in" s_ride_in ["word"] := fun _ _ _ _ _ _ us hl => match us, hl with | [_], _ => rfl
abbrev s__law_mixed : Stmt := top 15
theorem sc__law_mixed : FnScope ["cell", "turn", "one", "two", "three"] ["cell", "turn"] (defScope s__law_mixed) := ⟨rfl, rfl, rfl, by decide +kernel, rfl, by decide +kernel, by decide +kernel⟩
theorem b__law_mixed : BindOk "_law_mixed" s__law_mixed ["cell", "turn"] := fun _ _ _ _ _ _ us hl => match us, hl with | [_, _], _ => rfl
abbrev s__law_bag : Stmt := top 16
theorem sc__law_bag : FnScope ["script", "cells", "fold", "cell"] ["script"] (defScope s__law_bag) := ⟨rfl, rfl, rfl, by decide +kernel, rfl, by decide +kernel, by decide +kernel⟩
theorem b__law_bag : BindOk "_law_bag" s__law_bag ["script"] := fun _ _ _ _ _ _ us hl => match us, hl with | [_], _ => rfl
abbrev s__law_draw : Stmt := top 17
theorem sc__law_draw : FnScope ["bag", "size", "told"] ["bag", "size"] (defScope s__law_draw) := ⟨rfl, rfl, rfl, by decide +kernel, rfl, by decide +kernel, by decide +kernel⟩
theorem b__law_draw : BindOk "_law_draw" s__law_draw ["bag", "size"] := fun _ _ _ _ _ _ us hl => match us, hl with | [_, _], _ => rfl
abbrev s__law_exact : Stmt := top 18
theorem sc__law_exact : FnScope ["told", "due", "k"] ["told", "due"] (defScope s__law_exact) := ⟨rfl, rfl, rfl, by decide +kernel, rfl, by decide +kernel, by decide +kernel⟩
theorem b__law_exact : BindOk "_law_exact" s__law_exact ["told", "due"] := fun _ _ _ _ _ _ us hl => match us, hl with | [_, _], _ => rfl
abbrev s__law_row : Stmt := top 19
theorem sc__law_row : FnScope ["bag", "many", "rides", "k", "rope"] ["bag"] (defScope s__law_row) := ⟨rfl, rfl, rfl, by decide +kernel, rfl, by decide +kernel, by decide +kernel⟩
theorem b__law_row : BindOk "_law_row" s__law_row ["bag"] := fun _ _ _ _ _ _ us hl => match us, hl with | [_], _ => rfl
abbrev s__law_bent : Stmt := top 20
theorem sc__law_bent : FnScope ["bag", "rides", "bent", "turn", "rope", "colour", "pick"] ["bag", "rides"] (defScope s__law_bent) := ⟨rfl, rfl, rfl, by decide +kernel, rfl, by decide +kernel, by decide +kernel⟩
theorem b__law_bent : BindOk "_law_bent" s__law_bent ["bag", "rides"] := fun _ _ _ _ _ _ us hl => match us, hl with | [_, _], _ => rfl
abbrev s__law_row_due : Stmt := top 21
theorem sc__law_row_due : FnScope ["rides", "words", "k"] ["rides"] (defScope s__law_row_due) := ⟨rfl, rfl, rfl, by decide +kernel, rfl, by decide +kernel, by decide +kernel⟩
theorem b__law_row_due : BindOk "_law_row_due" s__law_row_due ["rides"] := fun _ _ _ _ _ _ us hl => match us, hl with | [_], _ => rfl
abbrev s__law_ride_of : Stmt := top 22
theorem sc__law_ride_of : FnScope ["word", "sign"] ["word"] (defScope s__law_ride_of) := ⟨rfl, rfl, rfl, by decide +kernel, rfl, by decide +kernel, by decide +kernel⟩
theorem b__law_ride_of : BindOk "_law_ride_of" s__law_ride_of ["word"] := fun _ _ _ _ _ _ us hl => match us, hl with | [_], _ => rfl
abbrev s__law_text_due : Stmt := top 23
theorem sc__law_text_due : FnScope ["text", "words", "rides", "place", "found"] ["text"] (defScope s__law_text_due) := ⟨rfl, rfl, rfl, by decide +kernel, rfl, by decide +kernel, by decide +kernel⟩
theorem b__law_text_due : BindOk "_law_text_due" s__law_text_due ["text"] := fun _ _ _ _ _ _ us hl => match us, hl with | [_], _ => rfl
abbrev s__law_told : Stmt := top 24
theorem sc__law_told : FnScope ["fault", "told"] ["fault"] (defScope s__law_told) := ⟨rfl, rfl, rfl, by decide +kernel, rfl, by decide +kernel, by decide +kernel⟩
theorem b__law_told : BindOk "_law_told" s__law_told ["fault"] := fun _ _ _ _ _ _ us hl => match us, hl with | [_], _ => rfl
abbrev s__law_written : Stmt := top 25
theorem sc__law_written : FnScope ["rides", "fault"] ["rides"] (defScope s__law_written) := ⟨rfl, rfl, rfl, by decide +kernel, rfl, by decide +kernel, by decide +kernel⟩
theorem b__law_written : BindOk "_law_written" s__law_written ["rides"] := fun _ _ _ _ _ _ us hl => match us, hl with | [_], _ => rfl
abbrev s__law_read : Stmt := top 26
theorem sc__law_read : FnScope ["text", "fault"] ["text"] (defScope s__law_read) := ⟨rfl, rfl, rfl, by decide +kernel, rfl, by decide +kernel, by decide +kernel⟩
theorem b__law_read : BindOk "_law_read" s__law_read ["text"] := fun _ _ _ _ _ _ us hl => match us, hl with | [_], _ => rfl
abbrev s__law_text_right : Stmt := top 27
theorem sc__law_text_right : FnScope ["text", "due", "told"] ["text"] (defScope s__law_text_right) := ⟨rfl, rfl, rfl, by decide +kernel, rfl, by decide +kernel, by decide +kernel⟩
theorem b__law_text_right : BindOk "_law_text_right" s__law_text_right ["text"] := fun _ _ _ _ _ _ us hl => match us, hl with | [_], _ => rfl
abbrev s__law_odd_word : Stmt := top 28
theorem sc__law_odd_word : FnScope ["bag", "words"] ["bag"] (defScope s__law_odd_word) := ⟨rfl, rfl, rfl, by decide +kernel, rfl, by decide +kernel, by decide +kernel⟩
theorem b__law_odd_word : BindOk "_law_odd_word" s__law_odd_word ["bag"] := fun _ _ _ _ _ _ us hl => match us, hl with | [_], _ => rfl
abbrev s__law_changed : Stmt := top 29
theorem sc__law_changed : FnScope ["bag", "words", "changed", "turn", "way", "place", "spot", "other", "word", "text", "pick"] ["bag", "words"] (defScope s__law_changed) := ⟨rfl, rfl, rfl, by decide +kernel, rfl, by decide +kernel, by decide +kernel⟩
theorem b__law_changed : BindOk "_law_changed" s__law_changed ["bag", "words"] := fun _ _ _ _ _ _ us hl => match us, hl with | [_, _], _ => rfl
abbrev s_law : Stmt := top 30
theorem sc_law : FnScope ["script", "bag", "rides", "bent", "handed", "due", "words", "turn"] ["script"] (defScope s_law) := ⟨rfl, rfl, rfl, by decide +kernel, rfl, by decide +kernel, by decide +kernel⟩
theorem b_law : BindOk "law" s_law ["script"] := fun _ _ _ _ _ _ us hl => match us, hl with | [_], _ => rfl
/-- the addresses of what the top has made -/
structure Ad where
  (col c_RopeError c_NoRope c_NoColour c_BadRide c_BadText c_BadWord : Addr)
  tHR : Tok
/-- what is asked of an exception's class where a def looks at its instance -/
structure Seen (K : PySem.W.Frag) (A : Ad) (C : Addr) (rd wd : Bool) : Prop where
  xf : XfC K C
  ec : ExcC K C
  no : PySem.W.findIn K (.ref C) "place" = some none
  nl : PySem.W.findIn K (.ref C) "line" = some none
  nn : PySem.W.findIn K (.ref C) "number" = some none
  nw : PySem.W.findIn K (.ref C) "word" = some none
  k1 : PySem.W.kitOne K (.ref C) (.ref A.c_BadRide) = some rd
  k2 : PySem.W.kitOne K (.ref C) (.ref A.c_BadWord) = some wd
  k3 : PySem.W.kitOne K (.ref C) (.ref A.c_BadText) = some false
  k4 : PySem.W.kitOne K (.ref C) (.ref A.c_NoRope) = some false
  k5 : PySem.W.kitOne K (.ref C) (.ref A.c_NoColour) = some false
  k6 : PySem.W.kitOne K (.ref C) (.type "ValueError") = some true
  ex : PySem.W.exmOne K (.ref C) (.ref A.c_RopeError) = some true
structure Txt (P : Program) (w : World) (K : PySem.W.Frag) (mg : Str → Option Value) (base : Heap) (A : Ad) : Prop where
  n_len : mg "len" = none
  n_int : mg "int" = none
  n_list : mg "list" = none
  n_range : mg "range" = none
  n_str : mg "str" = none
  n_any : mg "any" = none
  n_enumerate : mg "enumerate" = none
  n_isinstance : mg "isinstance" = none
  n_bool : mg "bool" = none
  n_tuple : mg "tuple" = none
  n_ValueError : mg "ValueError" = none
  g_COLOURS : mg "COLOURS" = some (.ref A.col)
  colT : ∀ H, SqT K H A.col [.str "red", .str "blue"]
  g_HIGHEST_ROPE : mg "HIGHEST_ROPE" = some (.int 99 A.tHR)
  g_RopeError : mg "RopeError" = some (.ref A.c_RopeError)
  g_NoRope : mg "NoRope" = some (.ref A.c_NoRope)
  g_NoColour : mg "NoColour" = some (.ref A.c_NoColour)
  g_BadRide : mg "BadRide" = some (.ref A.c_BadRide)
  g_BadText : mg "BadText" = some (.ref A.c_BadText)
  g_BadWord : mg "BadWord" = some (.ref A.c_BadWord)
  x_BadRide : Exc P w K mg base "BadRide" ["place"] A.c_BadRide
  x_BadWord : Exc P w K mg base "BadWord" ["place"] A.c_BadWord
  s_BadRide : Seen K A A.c_BadRide true false
  s_BadWord : Seen K A A.c_BadWord false true
  d_number_in : DefAt K mg "number_in" s_number_in
  d_write_trip : DefAt K mg "write_trip" s_write_trip
  d_read_trip : DefAt K mg "read_trip" s_read_trip
  d_ride_in : DefAt K mg "ride_in" s_ride_in
  d__law_mixed : DefAt K mg "_law_mixed" s__law_mixed
  d__law_bag : DefAt K mg "_law_bag" s__law_bag
  d__law_draw : DefAt K mg "_law_draw" s__law_draw
  d__law_exact : DefAt K mg "_law_exact" s__law_exact
  d__law_row : DefAt K mg "_law_row" s__law_row
  d__law_bent : DefAt K mg "_law_bent" s__law_bent
  d__law_row_due : DefAt K mg "_law_row_due" s__law_row_due
  d__law_ride_of : DefAt K mg "_law_ride_of" s__law_ride_of
  d__law_text_due : DefAt K mg "_law_text_due" s__law_text_due
  d__law_told : DefAt K mg "_law_told" s__law_told
  d__law_written : DefAt K mg "_law_written" s__law_written
  d__law_read : DefAt K mg "_law_read" s__law_read
  d__law_text_right : DefAt K mg "_law_text_right" s__law_text_right
  d__law_odd_word : DefAt K mg "_law_odd_word" s__law_odd_word
  d__law_changed : DefAt K mg "_law_changed" s__law_changed
  d_law : DefAt K mg "law" s_law
section
variable {P : Program} {w : World} {K : PySem.W.Frag} {mg : Str → Option Value} {base : Heap} {A₀ : Ad}
theorem cal__law_mixed (T : Txt P w K mg base A₀) : Cal P w K mg base CX0 "_law_mixed" 1 ["cell", "turn"] spMixed := by
  refine cal_of T.d__law_mixed sc__law_mixed b__law_mixed (fun vs H Q E h => ?_) (fun f cdv A outer s H vs Q E hr h => ?_)
  · obtain ⟨i, j, rfl, _⟩ := h
    rfl
  · obtain ⟨i, j, rfl, k⟩ := h
    refine ⟨_, (pss_cons (ps_set (i := 2) sc__law_mixed.nd rfl (Or.inl rfl) (pe_op op_mod (pe_callTy call_int1 (by rfl) T.n_int (by decide +kernel) (pa_cons (pe_op op_add (pe_op op_add (pe_op op_mul (pv 0) pe_int) (pe_op op_mul (pv 1) pe_int)) pe_int) pa_nil)) pe_int))
  (pss_cons (ps_set (i := 3) sc__law_mixed.nd rfl (Or.inl rfl) (pe_op op_mod (pe_callTy call_int1 (by rfl) T.n_int (by decide +kernel) (pa_cons (pe_op op_add (pe_op op_add (pe_op op_mul (pv 2) (pv 2)) (pe_op op_mul (pv 1) pe_int)) pe_int) pa_nil)) pe_int))
  (pss_cons (ps_set (i := 4) sc__law_mixed.nd rfl (Or.inl rfl) (pe_op op_mod (pe_callTy call_int1 (by rfl) T.n_int (by decide +kernel) (pa_cons (pe_op op_add (pe_op op_mul (pv 3) (pv 3)) (pv 2)) pa_nil)) pe_int))
  (pss_one (ps_ret (pe_op op_fdiv (pv 4) pe_int)))))), ?_⟩
    have mo : ∀ {x m y : Int}, 0 < m → m < 4294967296 → CMul (x % m) y := fun {x m y} h1 h2 => .inl ⟨by have := Int.emod_nonneg x (by omega : m ≠ 0); omega, by have := Int.emod_lt_of_pos x h1; omega⟩
    refine ⟨_, rfl, _, _, rfl, rfl, .inr ⟨by decide, by decide⟩, _, rfl, _, _, rfl, rfl, .inr ⟨by decide, by decide⟩, _, _, rfl, rfl, _, _, rfl, rfl, .inl ⟨_, rfl, _, _, rfl, rfl, (by show (0 : Int) < 2147483647; decide), ?_⟩⟩
    refine ⟨_, rfl, _, rfl, _, _, rfl, rfl, mo (by decide) (by decide), _, rfl, _, _, rfl, rfl, .inr ⟨by decide, by decide⟩, _, _, rfl, rfl, _, _, rfl, rfl, .inl ⟨_, rfl, _, _, rfl, rfl, (by show (0 : Int) < 2147483629; decide), ?_⟩⟩
    refine ⟨_, rfl, _, rfl, _, _, rfl, rfl, mo (by decide) (by decide), _, rfl, _, _, rfl, rfl, .inl ⟨_, rfl, _, _, rfl, rfl, (by show (0 : Int) < 2147483587; decide), ?_⟩⟩
    refine ⟨_, rfl, _, _, rfl, rfl, ⟨by decide, by decide⟩, k _ (Int.ediv_nonneg (Int.emod_nonneg _ (by decide)) (by decide))⟩
theorem cal__law_draw (T : Txt P w K mg base A₀) : Cal P w K mg base CX0 "_law_draw" 2 ["bag", "size"] (spDraw K) := by
  have c__law_mixed := cal__law_mixed T
  refine cal_of T.d__law_draw sc__law_draw b__law_draw (fun vs H Q E h => ?_) (fun f cdv A outer s H vs Q E hr h => ?_)
  · obtain ⟨F, b, n, rfl, _⟩ := h
    rfl
  · obtain ⟨F, b, n, rfl, sF, ⟨Fb, c, ns, i, x, k, t, fo, big, hb, hc, hl, hi⟩, n0, n1, q⟩ := h
    have cb : ∀ {H' : Hp}, Same F H' → SqL K H' c (ns.map V.int) := fun s => s.seq hc
    refine ⟨_, (pss_cons (ps_asg (pe_op op_add (pe_ix ix_list (pv 0) pe_int (fun _ _ => rfl)) pe_int) (pg_sub (pv 0) pe_int set_list))
  (Evl.pss_cut (ps_if (pt_cmpR op_eq (pe_ix ix_list (pv 0) pe_int (fun _ _ => rfl)) pe_int (nomark _)) (pss_cons (ps_asg (pe_ix ix_list (pv 0) pe_int (fun _ _ => rfl)) (pg_sub (pv 0) pe_int set_list))
  (pss_cons (ps_asg pe_int (pg_sub (pv 0) pe_int set_list))
  (pss_cons (ps_asg pe_bl (pg_sub (pv 0) pe_int set_list))
  (pss_one (ps_if (pt_cmpR op_lt (pe_ix ix_list (pv 0) pe_int (fun _ _ => rfl)) (pe_callB call_len_seq (by rfl) T.n_len PySem.boot_len (pa_cons (pe_ix ix_list (pv 0) pe_int (fun _ _ => rfl)) pa_nil)) (nomark _)) (pss_cons (ps_asg (pe_ix ix_list (pe_ix ix_list (pv 0) pe_int (fun _ _ => rfl)) (pe_ix ix_list (pv 0) pe_int (fun _ _ => rfl)) (fun _ _ => rfl)) (pg_sub (pv 0) pe_int set_list))
  (pss_cons (ps_asg (pe_op op_add (pe_ix ix_list (pv 0) pe_int (fun _ _ => rfl)) pe_int) (pg_sub (pv 0) pe_int set_list))
  (pss_one (ps_if (pt_cmpR op_ge (pe_ix ix_list (pv 0) pe_int (fun _ _ => rfl)) (pe_op op_pow pe_int pe_int) (nomark _)) (pss_cons (ps_asg pe_int (pg_sub (pv 0) pe_int set_list))
  (pss_one (ps_asg pe_bl (pg_sub (pv 0) pe_int set_list)))) pss_nil)))) pss_nil))))) pss_nil)
  (pss_cons (ps_asg (pe_op op_sub (pe_ix ix_list (pv 0) pe_int (fun _ _ => rfl)) pe_int) (pg_sub (pv 0) pe_int set_list))
  (pss_cons (ps_if (pt_not (pt_truth (pe_ix ix_list (pv 0) pe_int (fun _ _ => rfl)) (by intro _; rfl))) (pss_one (ps_ret (pe_op op_mod (pe_callTy call_int1 (by rfl) T.n_int (by decide +kernel) (pa_cons (pe_cal c__law_mixed (hr.mono (by first | exact Nat.le_refl _ | decide)) (by rfl) (pa_cons (pe_ix ix_list (pv 0) pe_int (fun _ _ => rfl)) (pa_cons (pe_ix ix_list (pv 0) pe_int (fun _ _ => rfl)) pa_nil))) pa_nil)) (pv 1)))) pss_nil)
  (pss_cons (ps_set (i := 2) sc__law_draw.nd rfl (Or.inl rfl) (pe_op op_mod (pe_callTy call_int1 (by rfl) T.n_int (by decide +kernel) (pa_cons (pe_ix ix_list (pv 0) pe_int (fun _ _ => rfl)) pa_nil)) (pv 1)))
  (pss_cons (ps_asg (pe_op op_fdiv (pe_callTy call_int1 (by rfl) T.n_int (by decide +kernel) (pa_cons (pe_ix ix_list (pv 0) pe_int (fun _ _ => rfl)) pa_nil)) (pv 1)) (pg_sub (pv 0) pe_int set_list))
  (Evl.pss_cut (ps_if (pt_cmpR op_eq (pe_ix ix_list (pv 0) pe_int (fun _ _ => rfl)) pe_int (nomark _)) (pss_one (ps_asg pe_int (pg_sub (pv 0) pe_int set_list))) pss_nil)
  (pss_one (ps_ret (pv 2)))))))))), ?_⟩
    -- bag[4] = bag[4] + 1
    refine ⟨_, rfl, _, _, _, _, rfl, rfl, SqL.of hb, atI_nat (j := 4) rfl, _, _, rfl, rfl, _, rfl, b, _, _, 4, rfl, rfl, hb, ixN_lt (j := 4) rfl (by show 4 < 7; decide), ?_⟩
    refine ⟨fun σ' H' => ∃ (i x k : Int) (big : Bool), 0 ≤ i ∧ σ' = [some (.ref b), some (.int n), none] ∧ H' = upd H b (bg c i x k (t + 1) fo big), ?_, ?_⟩
    · have s1 : ∀ {o : HO}, Same F (upd H b o) := same_upd sF Fb
      refine ⟨_, rfl, _, _, _, _, rfl, rfl, SqL.of upd_same, atI_nat (j := 3) rfl, rfl, _, rfl, ite2 (fun e => ?_) (fun e => ⟨i, x, k, big, hi, rfl, rfl⟩)⟩
      refine ⟨_, rfl, _, _, _, _, rfl, rfl, SqL.of upd_same, atI_nat (j := 5) rfl, _, rfl, b, _, _, 2, rfl, rfl, upd_same, ixN_lt (j := 2) rfl (by show 2 < 7; decide), _, rfl, b, _, _, 3, rfl, rfl, upd_same, ixN_lt (j := 3) rfl (by show 3 < 7; decide), _, rfl, b, _, _, 6, rfl, rfl, upd_same, ixN_lt (j := 6) rfl (by show 6 < 7; decide), ?_⟩
      refine ⟨_, rfl, _, _, _, _, rfl, rfl, SqL.of upd_same, atI_nat (j := 1) rfl, _, rfl, _, _, _, _, rfl, rfl, SqL.of upd_same, atI_nat (j := 0) rfl, c, _, rfl, .inl (cb (by simp only [upd_upd]; exact s1)), _, _, rfl, rfl, _, rfl, ite2 (fun e2 => ?_) (fun e2 => ⟨i, fo, 9, false, hi, rfl, by simp only [upd_upd]; rfl⟩)⟩
      have hil : i.toNat < ns.length := by
        have e2' := of_decide_eq_true e2
        rw [List.length_map] at e2'
        omega
      have hat : atI (ns.map V.int) i = some (.int ns[i.toNat]) := by
        have e3 := atI_nat (xs := ns.map V.int) (j := i.toNat) (v := .int ns[i.toNat]) (by rw [List.getElem?_map, List.getElem?_eq_getElem hil]; rfl)
        rw [Int.toNat_of_nonneg hi] at e3
        exact e3
      refine ⟨_, rfl, _, _, _, _, rfl, rfl, SqL.of upd_same, atI_nat (j := 0) rfl, _, rfl, _, _, _, _, rfl, rfl, SqL.of upd_same, atI_nat (j := 1) rfl, c, _, i, _, rfl, rfl, cb (by simp only [upd_upd]; exact s1), hat, _, rfl, b, _, _, 2, rfl, rfl, upd_same, ixN_lt (j := 2) rfl (by show 2 < 7; decide), ?_⟩
      refine ⟨_, rfl, _, _, _, _, rfl, rfl, SqL.of upd_same, atI_nat (j := 1) rfl, _, _, rfl, rfl, _, rfl, b, _, _, 1, rfl, rfl, upd_same, ixN_lt (j := 1) rfl (by show 1 < 7; decide), ?_⟩
      refine ⟨_, rfl, _, _, _, _, rfl, rfl, SqL.of upd_same, atI_nat (j := 2) rfl, _, _, rfl, rfl, ⟨by decide, by decide, by decide⟩, _, _, rfl, rfl, _, rfl, ite2 (fun e4 => ?_) (fun e4 => ⟨i + 1, _, 9, false, by omega, rfl, by simp only [upd_upd]; rfl⟩)⟩
      refine ⟨_, rfl, b, _, _, 3, rfl, rfl, upd_same, ixN_lt (j := 3) rfl (by show 3 < 7; decide), _, rfl, b, _, _, 6, rfl, rfl, upd_same, ixN_lt (j := 6) rfl (by show 6 < 7; decide), ?_⟩
      exact ⟨i + 1, _, 60, true, by omega, rfl, by simp only [upd_upd]; rfl⟩
    · rintro σ' H' ⟨i, x, k, big, hi, rfl, rfl⟩
      have s1 : ∀ {o : HO}, Same F (upd H b o) := same_upd sF Fb
      have fin : ∀ (r : Int) (x k : Int) (big : Bool), 0 ≤ r → r < n → Q (.int r) (upd H b (bg c i x k (t + 1) fo big)) := fun r x k big h0 h1 => q r _ h0 h1 (fun a na => upd_ne na) ⟨Fb, c, ns, i, x, k, t + 1, fo, big, upd_same, hc, hl, hi⟩
      refine ⟨_, rfl, _, _, _, _, rfl, rfl, SqL.of upd_same, atI_nat (j := 3) rfl, _, _, rfl, rfl, _, rfl, b, _, _, 3, rfl, rfl, upd_same, ixN_lt (j := 3) rfl (by show 3 < 7; decide), ?_⟩
      refine ⟨_, rfl, _, _, _, _, rfl, rfl, SqL.of upd_same, atI_nat (j := 6) rfl, big, rfl, ?_⟩
      cases big with
      | false =>
        refine iteT ⟨_, rfl, _, _, _, _, rfl, rfl, SqL.of upd_same, atI_nat (j := 2) rfl, _, rfl, _, _, _, _, rfl, rfl, SqL.of upd_same, atI_nat (j := 4) rfl, _, _, rfl, fun r h0 => .inl ⟨_, rfl, _, rfl, _, _, rfl, rfl, n0, ?_⟩⟩
        show Q _ (upd (upd H b _) b _)
        rw [upd_upd]
        exact fin _ x (k - 1) false (Int.emod_nonneg _ (by omega)) (Int.emod_lt_of_pos _ n0)
      | true =>
        refine iteF ⟨_, rfl, _, _, _, _, rfl, rfl, SqL.of upd_same, atI_nat (j := 2) rfl, .inl ⟨_, rfl, _, rfl, _, _, rfl, rfl, n0, ?_⟩⟩
        refine ⟨_, rfl, _, _, _, _, rfl, rfl, SqL.of upd_same, atI_nat (j := 2) rfl, .inl ⟨_, rfl, _, rfl, _, _, rfl, rfl, ⟨n0, n1⟩, _, rfl, b, _, _, 2, rfl, rfl, upd_same, ixN_lt (j := 2) rfl (by show 2 < 7; decide), ?_⟩⟩
        refine ⟨fun σ' H' => ∃ (x' k' : Int), σ' = [some (.ref b), some (.int n), some (.int (x % n))] ∧ H' = upd H b (bg c i x' k' (t + 1) fo true), ?_, ?_⟩
        · refine ⟨_, rfl, _, _, _, _, rfl, rfl, SqL.of upd_same, atI_nat (j := 2) rfl, rfl, _, rfl, ite2 (fun e => ?_) (fun e => ⟨x / n, k - 1, rfl, by simp only [upd_upd]; rfl⟩)⟩
          exact ⟨_, rfl, b, _, _, 3, rfl, rfl, upd_same, ixN_lt (j := 3) rfl (by show 3 < 7; decide), x / n, 0, rfl, by simp only [upd_upd]; rfl⟩
        · rintro σ' H' ⟨x', k', rfl, rfl⟩
          exact ⟨_, rfl, fin _ x' k' true (Int.emod_nonneg _ (by omega)) (Int.emod_lt_of_pos _ n0)⟩
/-- the bag that a script makes -/
def spBag (K : PySem.W.Frag) : Sp := fun vs H Q _ => ∃ (a : Addr) (ns : List Int), vs = [.ref a] ∧ SqL K H a (ns.map V.int) ∧ ns.length ≤ 63 ∧ ∀ (F H' : Hp) (b : Addr), Same H F → Same F H' → H b = none → Bag K F H' b → Q (.ref b) H'
theorem cal__law_bag (T : Txt P w K mg base A₀) : Cal P w K mg base CX0 "_law_bag" 1 ["script"] (spBag K) := by
  refine cal_of T.d__law_bag sc__law_bag b__law_bag (fun vs H Q E h => ?_) (fun f cdv A outer s H vs Q E hr h => ?_)
  · obtain ⟨a, ns, rfl, _⟩ := h
    rfl
  · obtain ⟨a, ns, rfl, hs, hl, q⟩ := h
    refine ⟨_, (pss_cons (ps_set (i := 1) sc__law_bag.nd rfl (Or.inl rfl) (pe_callTy call_list_of (by rfl) T.n_list (by decide +kernel) (pa_cons (pe_slice sl_list (pv 0) po_none (po_some pe_int)) pa_nil)))
  (pss_cons (ps_set (i := 2) sc__law_bag.nd rfl (Or.inl rfl) pe_int)
  (pss_cons (ps_for PassesOwn.never rfl (pi_list (pv 1)) (pg_name (i := 3) sc__law_bag.nd rfl (Or.inl rfl)) (pss_one (ps_set (i := 2) sc__law_bag.nd rfl (Or.inl rfl) (pe_op op_mod (pe_callTy call_int1 (by rfl) T.n_int (by decide +kernel) (pa_cons (pe_op op_add (pe_op op_mul (pv 2) pe_int) (pv 3)) pa_nil)) pe_int))))
  (pss_one (ps_ret (pe_lst (pa_cons (pv 1) (pa_cons pe_int (pa_cons pe_int (pa_cons pe_int (pa_cons pe_int (pa_cons (pv 2) (pa_cons pe_bl pa_nil))))))))))))), ?_⟩
    have ec : cutV (ns.map V.int) none (some 63) = ns.map V.int := by
      unfold cutV
      rw [HT.sIx_none, show HT.sIx (ns.map V.int).length (ns.map V.int).length (some 63) = min 63 (ns.map V.int).length from HT.sIx_nat _ _ 63, List.length_map]
      rw [show min 63 ns.length = ns.length by omega, Nat.sub_zero, List.drop_zero]
      exact List.take_of_length_le (by rw [List.length_map]; omega)
    refine ⟨_, rfl, 63, rfl, a, _, rfl, hs, fun s ns' => ?_⟩
    have s1 : Same H (upd H s (.lst (cutV (ns.map V.int) none (some 63)))) := same_new ns'
    refine ⟨s, _, rfl, .inl (SqL.of upd_same), fun l nl => ?_⟩
    rw [ec] at s1 nl ⊢
    have s2 : Same (upd H s (.lst (ns.map V.int))) (upd (upd H s (.lst (ns.map V.int))) l (.lst (ns.map V.int))) := same_new nl
    generalize eH2 : upd (upd H s (.lst (ns.map V.int))) l (.lst (ns.map V.int)) = H2 at s2 ⊢
    have hl2 : SqL K H2 l (ns.map V.int) := SqL.of (by rw [← eH2]; exact upd_same)
    refine ⟨_, rfl, l, rfl, ⟨_, hl2⟩, for_list (K := K) (a := l) (xs := ns.map V.int) (fun i σ' H' => ∃ (fo : Int) (y : Option V), σ' = [some (.ref a), some (.ref l), some (.int fo), y] ∧ H' = H2) ⟨50, none, rfl, rfl⟩ (fun i σ' H' _ ⟨_, _, _, e⟩ => e ▸ hl2) ?_ ?_⟩
    · rintro i y σ' H' hi ⟨fo, y', rfl, rfl⟩
      obtain ⟨z, rfl⟩ : ∃ z, y = V.int z := by
        rw [List.getElem?_map] at hi
        cases e : ns[i]? with
        | none => rw [e] at hi; cases hi
        | some z => rw [e] at hi; exact ⟨z, (Option.some.inj hi).symm⟩
      exact ⟨_, rfl, _, _, rfl, rfl, .inr ⟨by decide, by decide⟩, _, rfl, _, _, rfl, rfl, .inl ⟨_, rfl, _, _, rfl, rfl, (by show (0 : Int) < 2147483647; decide), _, _, rfl, rfl⟩⟩
    · rintro σ' H' ⟨fo, y, rfl, rfl⟩
      refine ⟨_, rfl, _, rfl, (by show 7 ≤ sizeLine; rw [sizeLine_eq]; decide), fun p np => ?_⟩
      have s3 : Same H' (upd H' p (bg l 0 0 0 0 fo false)) := same_new np
      exact q H' _ p (s1.trans s2) s3 ((s1.trans s2).free np) ⟨np, l, ns, 0, 0, 0, 0, fo, false, upd_same, hl2, hl, Int.le_refl _⟩
end
end Tw

namespace Tw
open PySem PySem.Spec PyProof.Rows L2
section
variable {P : Program} {w : World} {K : PySem.W.Frag} {mg : Str → Option Value} {base : Heap} {A₀ : Ad}
theorem cal_exact (T : Txt P w K mg base A₀) (n k : Nat) (sp' : Sp) (hsp : ∀ m, n = m + 1 → sp' = spExact K m) (c__law_exact : Cal P w K mg base CX0 "_law_exact" k ["told", "due"] sp') : Cal P w K mg base CX0 "_law_exact" (k + 1) ["told", "due"] (spExact K n) := by
  refine cal_of T.d__law_exact sc__law_exact b__law_exact (fun vs H Q E h => ?_) (fun f cdv A outer s H vs Q E hr h => ?_)
  · obtain ⟨x, y, d, rfl, _⟩ := h
    rfl
  · obtain ⟨x, y, d, rfl, hx, hy, hd, q⟩ := h
    · refine ⟨_, (pss_cons (ps_if (PW.pt (pw_or (pt_val (pe_callB call_isi (by rfl) T.n_isinstance (by decide +kernel) (pa_cons (pv 0) (pa_cons (pe_bltn (v := .ty "bool") (by rfl) T.n_bool (by decide +kernel) rfl) pa_nil)))) (pw_or1 (pt_val (pe_callB call_isi (by rfl) T.n_isinstance (by decide +kernel) (pa_cons (pv 1) (pa_cons (pe_bltn (v := .ty "bool") (by rfl) T.n_bool (by decide +kernel) rfl) pa_nil))))))) (pss_one (ps_ret (pe_and (pe_callB call_isi (by rfl) T.n_isinstance (by decide +kernel) (pa_cons (pv 0) (pa_cons (pe_bltn (v := .ty "bool") (by rfl) T.n_bool (by decide +kernel) rfl) pa_nil))) (pe_and (pe_callB call_isi (by rfl) T.n_isinstance (by decide +kernel) (pa_cons (pv 1) (pa_cons (pe_bltn (v := .ty "bool") (by rfl) T.n_bool (by decide +kernel) rfl) pa_nil))) (pe_one (pe_cmpR ((op_eqD hr.units).or op_eq) (pv 0) (pv 1) (nomark _))))))) pss_nil)
  (pss_cons (ps_if (pt_val (pe_callB call_isi (by rfl) T.n_isinstance (by decide +kernel) (pa_cons (pv 1) (pa_cons (pe_bltn (v := .ty "int") (by rfl) T.n_int (by decide +kernel) rfl) pa_nil)))) (pss_one (ps_ret (pe_and (pe_callB call_isi (by rfl) T.n_isinstance (by decide +kernel) (pa_cons (pv 0) (pa_cons (pe_bltn (v := .ty "int") (by rfl) T.n_int (by decide +kernel) rfl) pa_nil))) (pe_one (pe_cmpR ((op_eqD hr.units).or op_eq) (pv 0) (pv 1) (nomark _)))))) pss_nil)
  (pss_cons (ps_if (pt_val (pe_callB call_isi (by rfl) T.n_isinstance (by decide +kernel) (pa_cons (pv 1) (pa_cons (pe_bltn (v := .ty "str") (by rfl) T.n_str (by decide +kernel) rfl) pa_nil)))) (pss_one (ps_ret (pe_and (pe_callB call_isi (by rfl) T.n_isinstance (by decide +kernel) (pa_cons (pv 0) (pa_cons (pe_bltn (v := .ty "str") (by rfl) T.n_str (by decide +kernel) rfl) pa_nil))) (pe_one (pe_cmpR ((op_eqD hr.units).or op_eq) (pv 0) (pv 1) (nomark _)))))) pss_nil)
  (pss_cons (ps_if (PW.pt (pw_and (pt_val (pe_callB call_isi (by rfl) T.n_isinstance (by decide +kernel) (pa_cons (pv 1) (pa_cons (pe_bltn (v := .ty "tuple") (by rfl) T.n_tuple (by decide +kernel) rfl) pa_nil)))) (pw_and1 (pt_not (pt_val (pe_callB call_isi (by rfl) T.n_isinstance (by decide +kernel) (pa_cons (pv 0) (pa_cons (pe_bltn (v := .ty "tuple") (by rfl) T.n_tuple (by decide +kernel) rfl) pa_nil)))))))) (pss_one (ps_ret pe_bl)) pss_nil)
  (pss_cons (ps_if (PW.pt (pw_and (pt_val (pe_callB call_isi (by rfl) T.n_isinstance (by decide +kernel) (pa_cons (pv 1) (pa_cons (pe_bltn (v := .ty "list") (by rfl) T.n_list (by decide +kernel) rfl) pa_nil)))) (pw_and1 (pt_not (pt_val (pe_callB call_isi (by rfl) T.n_isinstance (by decide +kernel) (pa_cons (pv 0) (pa_cons (pe_bltn (v := .ty "list") (by rfl) T.n_list (by decide +kernel) rfl) pa_nil)))))))) (pss_one (ps_ret pe_bl)) pss_nil)
  (pss_cons (ps_if (PW.pt (pw_or (pt_not (pt_val (pe_callB call_isiT (by rfl) T.n_isinstance (by decide +kernel) (pa_cons (pv 1) (pa_cons (pe_tup (pa_cons (pe_bltn (v := .ty "list") (by rfl) T.n_list (by decide +kernel) rfl) (pa_cons (pe_bltn (v := .ty "tuple") (by rfl) T.n_tuple (by decide +kernel) rfl) pa_nil))) pa_nil))))) (pw_or1 (pt_cmpR op_ne (pe_callB call_len_seq (by rfl) T.n_len PySem.boot_len (pa_cons (pv 0) pa_nil)) (pe_callB call_len_seq (by rfl) T.n_len PySem.boot_len (pa_cons (pv 1) pa_nil)) (nomark _))))) (pss_one (ps_ret pe_bl)) pss_nil)
  (pss_cons (ps_for PassesOwn.never rfl (pi_range1 (by rfl) T.n_range (pa_cons (pe_callB call_len_seq (by rfl) T.n_len PySem.boot_len (pa_cons (pv 1) pa_nil)) pa_nil)) (pg_name (i := 2) sc__law_exact.nd rfl (Or.inl rfl)) (pss_one (ps_if (pt_not (pt_val (pe_cal c__law_exact (hr.mono (by first | exact Nat.le_refl _ | decide)) (by rfl) (pa_cons (pe_ix ix_seq (pv 0) (pv 2) (fun _ _ => rfl)) (pa_cons (pe_ix ix_seq (pv 1) (pv 2) (fun _ _ => rfl)) pa_nil))))) (pss_one (ps_ret pe_bl)) pss_nil)))
  (pss_one (ps_ret pe_bl))))))))), ?_⟩
      cases d with
      | none => cases n <;> exact hd.elim
      | dict _ => cases n <;> exact hd.elim
      | bool v =>
        have tx : TyX K H x (.type "bool") := ty_of hx
        have ty : TyX K H y (.type "bool") := ty_of hy
        refine ⟨_, rfl, _, _, _, _, _, rfl, .ty _, tx, kT, _, rfl, iteT (iteT ⟨_, rfl, _, _, _, _, _, rfl, .ty _, tx, kT, _, rfl, iteT ⟨_, rfl, _, _, _, _, _, rfl, .ty _, ty, kT, _, rfl, iteT ⟨_, rfl, _, rfl, .inl ⟨_, _, hx, hy, rfl, rfl, ?_⟩⟩⟩⟩)⟩
        have e : PyData.eqv (.bool v) (.bool v) = true := by simp [PyData.eqv]
        rw [e]
        exact q H fun _ _ z => z
      | int v =>
        have tx : TyX K H x (.type "int") := ty_of hx
        have ty : TyX K H y (.type "int") := ty_of hy
        refine ⟨_, rfl, _, _, _, _, _, rfl, .ty _, tx, kF, _, rfl, iteF ⟨_, rfl, _, _, _, _, _, rfl, .ty _, ty, kF, _, rfl, iteF ?_⟩⟩
        refine ⟨_, rfl, _, _, _, _, _, rfl, .ty _, ty, kT, _, rfl, iteT ⟨_, rfl, _, _, _, _, _, rfl, .ty _, tx, kT, _, rfl, iteT ⟨_, rfl, _, rfl, .inl ⟨_, _, hx, hy, rfl, rfl, ?_⟩⟩⟩⟩
        have e : PyData.eqv (.int v) (.int v) = true := by simp [PyData.eqv]
        rw [e]
        exact q H fun _ _ z => z
      | str v =>
        have tx : TyX K H x (.type "str") := ty_of hx
        have ty : TyX K H y (.type "str") := ty_of hy
        refine ⟨_, rfl, _, _, _, _, _, rfl, .ty _, tx, kF, _, rfl, iteF ⟨_, rfl, _, _, _, _, _, rfl, .ty _, ty, kF, _, rfl, iteF ?_⟩⟩
        refine ⟨_, rfl, _, _, _, _, _, rfl, .ty _, ty, kF, _, rfl, iteF ?_⟩
        cases hx
        cases hy
        refine ⟨_, rfl, _, _, _, _, _, rfl, .ty _, ty, kT, _, rfl, iteT ⟨_, rfl, _, _, _, _, _, rfl, .ty _, tx, kT, _, rfl, iteT ⟨_, rfl, _, rfl, .inr ⟨rfl, ?_⟩⟩⟩⟩
        rw [decide_eq_true rfl]
        exact q H fun _ _ z => z
      | list ds =>
        obtain ⟨n, rfl⟩ : ∃ m, n = m + 1 := by
          cases n with
          | zero => exact hd.elim
          | succ m => exact ⟨m, rfl⟩
        obtain rfl := hsp n rfl
        have tx : TyX K H x (.type "list") := ty_of hx
        have ty : TyX K H y (.type "list") := ty_of hy
        refine ⟨_, rfl, _, _, _, _, _, rfl, .ty _, tx, kF, _, rfl, iteF ⟨_, rfl, _, _, _, _, _, rfl, .ty _, ty, kF, _, rfl, iteF ?_⟩⟩
        refine ⟨_, rfl, _, _, _, _, _, rfl, .ty _, ty, kF, _, rfl, iteF ?_⟩
        refine ⟨_, rfl, _, _, _, _, _, rfl, .ty _, ty, kF, _, rfl, iteF ?_⟩
        refine ⟨_, rfl, _, _, _, _, _, rfl, .ty _, ty, kF, _, rfl, iteF (iteF ⟨_, rfl, _, _, _, _, _, rfl, .ty _, ty, kT, _, rfl, iteT ⟨_, rfl, _, _, _, _, _, rfl, .ty _, tx, kT, _, rfl, iteF ?_⟩⟩)⟩
        cases hx with
        | @lst a xs _ h1 r1 =>
        cases hy with
        | @lst b ys _ h2 r2 =>
        have l1 := DpAll.len r1
        have l2 := DpAll.len r2
        refine ⟨_, rfl, (by show 2 ≤ sizeLine; rw [sizeLine_eq]; decide), fun p np => ?_⟩
        have s : Same H (upd H p (.tup [.ty "list", .ty "tuple"])) := same_new np
        refine ⟨_, p, _, _, _, _, rfl, upd_same, .cons (.ty _) (.cons (.ty _) .nil), ty_of (Dp.same s (.lst h2 r2)), kit_lt (t := "list") (r1 := true) (r2 := false) (by decide +kernel) (by decide +kernel), _, rfl, iteF ?_⟩
        refine ⟨_, rfl, a, xs, rfl, .inl (s.seq h1), _, rfl, b, ys, rfl, .inl (s.seq h2), rfl, _, rfl, iteNS (by rw [l1, l2]) ?_⟩
        refine ⟨_, rfl, b, ys, rfl, .inl (s.seq h2), _, rfl, by omega, by have := hd.1; omega, for_range (lo := 0) (n := ((ys.length : Nat) : Int).toNat) (fun i σ' H' => ∃ (z : Option V), σ' = [some (.ref a), some (.ref b), z] ∧ Same H H') ⟨none, rfl, s⟩ ?_ ?_⟩
        · rintro i σ' H' hi ⟨z, rfl, s⟩
          have hi' : i < ds.length := by omega
          obtain ⟨v, e1, d1⟩ := DpAll.get' r1 (List.getElem?_eq_getElem hi')
          obtain ⟨u, e2, d2⟩ := DpAll.get' r2 (List.getElem?_eq_getElem hi')
          have e0 : (0 : Int) + (i : Nat) = ((i : Nat) : Int) := by omega
          refine ⟨_, rfl, _, rfl, .inl ⟨a, xs, _, v, rfl, rfl, s.seq h1, by rw [e0]; exact atI_nat e1, _, rfl, _, rfl, .inl ⟨b, ys, _, u, rfl, rfl, s.seq h2, by rw [e0]; exact atI_nat e2, v, u, ds[i], rfl, Dp.same s d1, Dp.same s d2, hd.2 _ (List.getElem_mem hi'), fun H2 s2 => ⟨_, rfl, iteF ⟨_, rfl, s.trans s2⟩⟩⟩⟩⟩
        · rintro σ' H' ⟨z, rfl, s⟩
          exact q H' s
      | tuple ds =>
        obtain ⟨n, rfl⟩ : ∃ m, n = m + 1 := by
          cases n with
          | zero => exact hd.elim
          | succ m => exact ⟨m, rfl⟩
        obtain rfl := hsp n rfl
        have tx : TyX K H x (.type "tuple") := ty_of hx
        have ty : TyX K H y (.type "tuple") := ty_of hy
        refine ⟨_, rfl, _, _, _, _, _, rfl, .ty _, tx, kF, _, rfl, iteF ⟨_, rfl, _, _, _, _, _, rfl, .ty _, ty, kF, _, rfl, iteF ?_⟩⟩
        refine ⟨_, rfl, _, _, _, _, _, rfl, .ty _, ty, kF, _, rfl, iteF ?_⟩
        refine ⟨_, rfl, _, _, _, _, _, rfl, .ty _, ty, kF, _, rfl, iteF ?_⟩
        refine ⟨_, rfl, _, _, _, _, _, rfl, .ty _, ty, kT, _, rfl, iteT ⟨_, rfl, _, _, _, _, _, rfl, .ty _, tx, kT, _, rfl, iteF ⟨_, rfl, _, _, _, _, _, rfl, .ty _, ty, kF, _, rfl, iteF (iteF ?_)⟩⟩⟩
        cases hx with
        | @tup a xs _ h1 r1 =>
        cases hy with
        | @tup b ys _ h2 r2 =>
        have l1 := DpAll.len r1
        have l2 := DpAll.len r2
        refine ⟨_, rfl, (by show 2 ≤ sizeLine; rw [sizeLine_eq]; decide), fun p np => ?_⟩
        have s : Same H (upd H p (.tup [.ty "list", .ty "tuple"])) := same_new np
        refine ⟨_, p, _, _, _, _, rfl, upd_same, .cons (.ty _) (.cons (.ty _) .nil), ty_of (Dp.same s (.tup h2 r2)), kit_lt (t := "tuple") (r1 := false) (r2 := true) (by decide +kernel) (by decide +kernel), _, rfl, iteF ?_⟩
        refine ⟨_, rfl, a, xs, rfl, .inr (Same.tup s h1), _, rfl, b, ys, rfl, .inr (Same.tup s h2), rfl, _, rfl, iteNS (by rw [l1, l2]) ?_⟩
        refine ⟨_, rfl, b, ys, rfl, .inr (Same.tup s h2), _, rfl, by omega, by have := hd.1; omega, for_range (lo := 0) (n := ((ys.length : Nat) : Int).toNat) (fun i σ' H' => ∃ (z : Option V), σ' = [some (.ref a), some (.ref b), z] ∧ Same H H') ⟨none, rfl, s⟩ ?_ ?_⟩
        · rintro i σ' H' hi ⟨z, rfl, s⟩
          have hi' : i < ds.length := by omega
          obtain ⟨v, e1, d1⟩ := DpAll.get' r1 (List.getElem?_eq_getElem hi')
          obtain ⟨u, e2, d2⟩ := DpAll.get' r2 (List.getElem?_eq_getElem hi')
          have e0 : (0 : Int) + (i : Nat) = ((i : Nat) : Int) := by omega
          refine ⟨_, rfl, _, rfl, .inr (.inl ⟨a, xs, _, v, rfl, rfl, Same.tup s h1, by rw [e0]; exact atI_nat e1, _, rfl, _, rfl, .inr (.inl ⟨b, ys, _, u, rfl, rfl, Same.tup s h2, by rw [e0]; exact atI_nat e2, v, u, ds[i], rfl, Dp.same s d1, Dp.same s d2, hd.2 _ (List.getElem_mem hi'), fun H2 s2 => ⟨_, rfl, iteF ⟨_, rfl, s.trans s2⟩⟩⟩)⟩)⟩
        · rintro σ' H' ⟨z, rfl, s⟩
          exact q H' s
/-- no promise -/
theorem cal_no {x : Str} {st : Stmt} {ps : List Str} (D : DefAt K mg x st) (hb : BindOk x st ps) : Cal P w K mg base CX0 x 0 ps (fun _ _ _ _ => False) := by
  obtain ⟨f, fd, F, m⟩ := D.ex
  exact ⟨f, fd, ⟨fun _ _ _ _ h => h.elim, fun _ _ _ _ _ _ _ _ _ _ _ _ _ h => h.elim⟩, m, F.kp, F.binds hb⟩
theorem cal_exact_n (T : Txt P w K mg base A₀) : ∀ n, Cal P w K mg base CX0 "_law_exact" (n + 1) ["told", "due"] (spExact K n)
  | 0 => cal_exact T 0 0 _ (fun _ e => nomatch e) (cal_no T.d__law_exact b__law_exact)
  | n + 1 => cal_exact T (n + 1) (n + 1) _ (fun m e => by cases e; rfl) (cal_exact_n T n)
theorem cal__law_exact (T : Txt P w K mg base A₀) : Cal P w K mg base CX0 "_law_exact" 6 ["told", "due"] (spExact K 5) := cal_exact_n T 5
end
end Tw

namespace Tw
open PySem PySem.Spec PyProof.Rows L2 TL
theorem num_any {l : List Nat} (h : (l.map fun c => !isDig c).any id = true) : numIn l = none := by
  cases e : numIn l with
  | none => rfl
  | some n =>
    obtain ⟨k, hk, _, rfl⟩ := num_inv e
    have all : ∀ c ∈ numT k, isDig c = true := fun c hc => by
      unfold numT at hc
      split at hc <;> simp at hc <;> (rw [isDig_iff]; omega)
    rw [List.any_eq_true] at h
    obtain ⟨x, hx, hx2⟩ := h
    obtain ⟨c, hc, rfl⟩ := List.mem_map.mp hx
    simp [all c hc] at hx2
theorem num_1 {l : List Nat} (h : (l.map fun c => !isDig c).any id = false) (hl : l.length = 1 ∨ (l.length = 2 ∧ l[0]? ≠ some 48)) : ∃ n, numIn l = some n := by
  have all : ∀ c ∈ l, isDig c = true := fun c hc => by
    rw [List.any_eq_false] at h
    have := h _ (List.mem_map.mpr ⟨c, hc, rfl⟩)
    simpa using this
  match l, hl with
  | [c], _ => exact ⟨_, by rw [numIn1, if_pos (all c (by simp))]⟩
  | [c, d], hl =>
    have hc : c ≠ 48 := by simpa using hl
    exact ⟨_, by rw [numIn2, all c (by simp), all d (by simp), decide_eq_false hc]; rfl⟩
theorem num_no {l : List Nat} (hl : ¬ (l.length = 1 ∨ (l.length = 2 ∧ l[0]? ≠ some 48))) : numIn l = none := by
  cases e : numIn l with
  | none => rfl
  | some n =>
    obtain ⟨k, hk, _, rfl⟩ := num_inv e
    refine absurd ?_ hl
    unfold numT
    by_cases h : k < 10
    · rw [if_pos h]; exact .inl rfl
    · rw [if_neg h]
      exact .inr ⟨rfl, fun z => by simp at z; omega⟩
theorem num_int {w : Str} {n : Int} (h : numIn (tl w) = some n) : PySem.intText? w = some n ∧ w.length ≤ 640 := by
  obtain ⟨k, hk, rfl, e⟩ := num_inv h
  have ew : w = ⟨(numT k).toArray⟩ := by rw [← e]
  refine ⟨by rw [ew]; exact int_T k hk, ?_⟩
  rw [len_tl, e]
  unfold numT
  split <;> simp
section
variable {P : Program} {w : World} {K : PySem.W.Frag} {mg : Str → Option Value} {base : Heap} {A₀ : Ad}
def spNum : Sp := fun vs H Q _ => ∃ z : Str, vs = [.str z] ∧ z.length ≤ 1000000 ∧ (numIn (tl z) = none → ∀ H', Same H H' → Q .non H') ∧ ∀ n, numIn (tl z) = some n → ∀ H', Same H H' → Q (.int n) H'
theorem cal_number_in (T : Txt P w K mg base A₀) : Cal P w K mg base CX0 "number_in" 1 ["word"] spNum := by
  refine cal_of T.d_number_in sc_number_in b_number_in (fun vs H Q E h => ?_) (fun f cdv A outer s H vs Q E hr h => ?_)
  · obtain ⟨z, rfl, _⟩ := h
    rfl
  · obtain ⟨z, rfl, hz, q0, q1⟩ := h
    refine ⟨_, (pss_cons (ps_if (pt_val (pe_callB (cr_any rfl) (by rfl) T.n_any (by decide +kernel) (pa_cons (pe_lc (own := [("sign", 1)]) (g := gName 1) rfl sc_number_in.nd (pi_str (pv 0)) (blkOk_by (own := [("sign", 1)]) (N := ["word", "sign"]) (sc := defScope s_number_in) (by decide +kernel)) (fun _ _ _ _ _ => (pg_name (i := 1) sc_number_in.nd rfl (Or.inl rfl))) (fun _ _ _ _ _ => pts_nil) (fun _ _ _ _ _ => (pe_cmpR op_notIn_sign (pv 1) pe_str (by rfl)))) pa_nil))) (pss_one (ps_ret pe_non)) pss_nil)
  (pss_cons (ps_if (PW.pt (pw_or (pt_cmpR op_eq (pe_callB call_len_str (by rfl) T.n_len PySem.boot_len (pa_cons (pv 0) pa_nil)) pe_int (nomark _)) (pw_or1 (PW.pt (pw_and (pt_cmpR op_eq (pe_callB call_len_str (by rfl) T.n_len PySem.boot_len (pa_cons (pv 0) pa_nil)) pe_int (nomark _)) (pw_and1 (pt_cmpR op_ne (pe_ix ix_str (pv 0) pe_int (fun _ _ => rfl)) pe_str (nomark _)))))))) (pss_one (ps_ret (pe_callTy call_int_str (by rfl) T.n_int (by decide +kernel) (pa_cons (pv 0) pa_nil)))) pss_nil)
  (pss_one (ps_ret pe_non)))), ?_⟩
    refine ⟨_, rfl, z, rfl, fun D hD => lc_it (walk_str (z := z)) (fun i H' => H' = upd H D (.lst ((((tl z).take i).map fun c => !isDig c).map V.bl))) rfl (fun _ _ _ _ => trivial) ?_ ?_⟩
    · rintro i x H1 H2 hi rfl ⟨rfl, c, hc, rfl⟩
      have hc' : (tl z)[i]? = some c := by rw [← hc]; simp [tl]
      refine ⟨rfl, _, rfl, _, _, rfl, rfl, _, upd_same, ?_, ?_⟩
      · rw [List.length_map, List.length_map, List.length_take, sizeLine_eq]
        have := len_tl z
        omega
      · rw [upd_upd, List.take_add_one, hc', List.map_append, List.map_append]
        rfl
    · rintro H1 rfl
      have e : (tl z).take z.cps.size = tl z := List.take_of_length_le (by simp [tl])
      rw [e]
      have hzl : z.length ≤ sizeLine := by rw [sizeLine_eq]; omega
      have s := same_new (H := H) (o := .lst (List.map V.bl (List.map (fun c => !isDig c) (tl z)))) hD
      have hlen := len_tl z
      refine ⟨D, (tl z).map fun c => !isDig c, rfl, SqL.of upd_same, _, rfl, ite2 (fun e => q0 (num_any e) _ s) (fun e0 => ?_)⟩
      have e0 : ((tl z).map fun c => !isDig c).any id = false := Bool.eq_false_iff.mpr e0
      have ret : ((tl z).length = 1 ∨ ((tl z).length = 2 ∧ (tl z)[0]? ≠ some 48)) → ∃ n, PySem.intText? z = some n ∧ z.length ≤ 640 ∧ Q (.int n) (upd H D (.lst (List.map V.bl (List.map (fun c => !isDig c) (tl z))))) := fun h => by
        obtain ⟨n, hn⟩ := num_1 e0 h
        exact ⟨n, (num_int hn).1, (num_int hn).2, q1 n hn _ s⟩
      have dl : ∀ {k : Nat}, decide (V.int (z.length : Int) = V.int (k : Int)) = true ↔ (tl z).length = k := fun {k} => by
        rw [decide_eq_true_iff, hlen]
        exact ⟨fun e => by injection e; omega, fun e => by rw [e]⟩
      refine ⟨_, rfl, z, rfl, hzl, rfl, _, rfl, ite2 (fun e1 => ?_) (fun e1 => ?_)⟩
      · obtain ⟨n, h1, h2, h3⟩ := ret (.inl ((dl (k := 1)).mp e1))
        exact iteT ⟨_, rfl, z, n, rfl, h1, h2, h3⟩
      · have e1 : ¬ (tl z).length = 1 := fun h => e1 ((dl (k := 1)).mpr h)
        refine ⟨_, rfl, z, rfl, hzl, rfl, _, rfl, ite2 (fun e2 => ?_) (fun e2 => ?_)⟩
        · have e2 := (dl (k := 2)).mp e2
          obtain ⟨c, hc⟩ : ∃ c, (tl z)[0]? = some c := ⟨(tl z)[0], List.getElem?_eq_getElem (by omega)⟩
          refine ⟨_, rfl, z, 0, c, rfl, rfl, hzl, atI_nat (j := 0) hc, rfl, _, rfl, ite2 (fun e3 => ?_) (fun e3 => ?_)⟩
          · have e3 : c ≠ 48 := fun h => by
              subst h
              rw [decide_eq_true (show V.str ⟨#[48]⟩ = V.str "0" by decide +kernel)] at e3
              cases e3
            obtain ⟨n, h1, h2, h3⟩ := ret (.inr ⟨e2, by rw [hc]; exact fun h => e3 (Option.some.inj h)⟩)
            exact ⟨_, rfl, z, n, rfl, h1, h2, h3⟩
          · have e3 : c = 48 := by
              have h : decide (V.str ⟨#[c]⟩ = V.str "0") = true := by simpa using e3
              have h' := of_decide_eq_true h
              injection h' with h'
              have h2 : (⟨#[c]⟩ : Str) = ⟨#[48]⟩ := h'.trans (by decide +kernel)
              injection h2 with h2
              simpa using h2
            exact q0 (num_no fun h => by
              rcases h with h | ⟨_, h⟩
              · exact e1 h
              · exact h (by rw [hc, e3])) _ s
        · exact iteF (q0 (num_no fun h => by
            rcases h with h | ⟨h, _⟩
            · exact e1 h
            · exact e2 ((dl (k := 2)).mpr h)) _ s)
/-- the first colour whose sign is c -/
def spRideIn (K : PySem.W.Frag) : Sp := fun vs H Q _ => ∃ z : Str, vs = [.str z] ∧ z.length ≤ 1000000 ∧ (rideOf z = none → ∀ H', Same H H' → Q .non H') ∧
  ∀ n c, rideOf z = some (n, c) → ∀ H' p, Same H H' → H' p = some (.tup [.int n, .str c]) → Q (.ref p) H'
theorem cal_ride_in (T : Txt P w K mg base A₀) : Cal P w K mg base CX0 "ride_in" 2 ["word"] (spRideIn K) := by
  have c_number_in := cal_number_in T
  refine cal_of T.d_ride_in sc_ride_in b_ride_in (fun vs H Q E h => ?_) (fun f cdv A outer s H vs Q E hr h => ?_)
  · obtain ⟨z, rfl, _⟩ := h
    rfl
  · obtain ⟨z, rfl, hz, q0, q1⟩ := h
    refine ⟨_, (pss_cons (ps_set (i := 1) sc_ride_in.nd rfl (Or.inl rfl) (pe_cal c_number_in (hr.mono (by first | exact Nat.le_refl _ | decide)) (by rfl) (pa_cons (pe_slice sl_str (pv 0) (po_some pe_int) po_none) pa_nil)))
  (pss_cons (ps_if (pt_cmpR op_isN (pv 1) pe_non (nomark _)) (pss_one (ps_ret pe_non)) pss_nil)
  (pss_cons (ps_for PassesOwn.never rfl (pi_tup (pe_glob (by rfl) T.g_COLOURS (show L2.RelV (V.ref A₀.col) (Value.ref A₀.col) from rfl))) (pg_name (i := 2) sc_ride_in.nd rfl (Or.inl rfl)) (pss_one (ps_if (pt_cmpR op_eq (pe_ix ix_str (pv 0) pe_int (fun _ _ => rfl)) (pe_ix ix_str (pv 2) pe_int (fun _ _ => rfl)) (nomark _)) (pss_one (ps_ret (pe_tup (pa_cons (pv 1) (pa_cons (pv 2) pa_nil))))) pss_nil)))
  (pss_one (ps_ret pe_non))))), ?_⟩
    have hzl : z.length ≤ sizeLine := by rw [sizeLine_eq]; omega
    have hc : tl (cutS z (some 1) none) = (tl z).drop 1 := by
      show ((tl z).drop (HT.sIx z.length 0 (some 1))).take (HT.sIx z.length z.length none - HT.sIx z.length 0 (some 1)) = _
      rw [HT.sIx_none, show HT.sIx z.length 0 (some 1) = min 1 z.length from HT.sIx_nat _ _ 1, len_tl]
      by_cases h : 1 ≤ (tl z).length
      · rw [Nat.min_eq_left h]
        exact List.take_of_length_le (by rw [List.length_drop]; omega)
      · have h' : (tl z) = [] := List.length_eq_zero_iff.mp (by omega)
        rw [h'] <;> rfl
    have hcl : (cutS z (some 1) none).length ≤ 1000000 := by
      rw [len_tl, hc, List.length_drop]
      have := len_tl z
      omega
    refine ⟨_, rfl, 1, rfl, z, rfl, hzl, _, rfl, hcl, fun e H1 s1 => ?_, fun n e H1 s1 => ?_⟩
    · rw [hc] at e
      refine ⟨_, rfl, rfl, _, rfl, iteT (q0 ?_ H1 s1)⟩
      unfold rideOf
      cases ez : tl z with
      | nil => rfl
      | cons c r =>
        rw [ez] at e
        have e' : numIn r = none := e
        simp only [e']
    · rw [hc] at e
      obtain ⟨c, r, ez⟩ : ∃ c r, tl z = c :: r := by
        cases ez : tl z with
        | nil => rw [ez] at e; cases e
        | cons c r => exact ⟨c, r, rfl⟩
      rw [ez] at e
      have e' : numIn r = some n := e
      have er : rideOf z = if c = 114 then some ((n, "red") : Ride) else if c = 98 then some ((n, "blue") : Ride) else none := by
        unfold rideOf
        simp only [ez, e']
      refine ⟨_, rfl, rfl, _, rfl, iteF ?_⟩
      refine ⟨A₀.col, rfl, ⟨_, T.colT H1⟩, for_tup (K := K) (a := A₀.col) (xs := [.str "red", .str "blue"]) (fun i σ' H' => (∃ y, σ' = [some (.str z), some (.int n), y]) ∧ Same H H' ∧ (1 ≤ i → c ≠ 114) ∧ (2 ≤ i → c ≠ 98)) ⟨⟨none, rfl⟩, s1, by omega, by omega⟩ (fun _ _ H' _ _ => T.colT H') ?_ ?_⟩
      · rintro i x σ' H' hi ⟨⟨y, rfl⟩, s2, n1, n2⟩
        have hz0 : (tl z)[0]? = some c := by rw [ez]; rfl
        obtain ⟨col, d, rfl, hl, hd, h1, h2⟩ : ∃ (col : Str) (d : Nat), x = .str col ∧ col.length ≤ sizeLine ∧ (tl col)[0]? = some d ∧ (c = d → rideOf z = some ((n, col) : Ride)) ∧ (c ≠ d → (1 ≤ i + 1 → c ≠ 114) ∧ (2 ≤ i + 1 → c ≠ 98)) := by
          match i, hi with
          | 0, hi => exact ⟨"red", 114, (Option.some.inj hi).symm, by rw [sizeLine_eq]; decide +kernel, by rw [tl_red]; rfl, fun h => by rw [er, if_pos h], fun h => ⟨fun _ => h, by omega⟩⟩
          | 1, hi => exact ⟨"blue", 98, (Option.some.inj hi).symm, by rw [sizeLine_eq]; decide +kernel, by rw [tl_blue]; rfl, fun h => by rw [er, if_neg (n1 (by decide)), if_pos h], fun h => ⟨fun _ => n1 (by decide), fun _ => h⟩⟩
          | i + 2, hi => simp at hi
        refine ⟨_, rfl, z, 0, c, rfl, rfl, hzl, atI_nat (j := 0) hz0, _, rfl, col, 0, d, rfl, rfl, hl, atI_nat (j := 0) hd, rfl, _, rfl, ite2 (fun e => ?_) (fun e => ?_)⟩
        · have e : c = d := by
            have e' := of_decide_eq_true e
            injection e' with e'
            injection e' with e'
            simpa using e'
          exact ⟨_, rfl, _, rfl, (by show 2 ≤ sizeLine; rw [sizeLine_eq]; decide), fun p np => q1 n col (h1 e) _ p (s2.trans (same_new np)) upd_same⟩
        · have e : c ≠ d := fun h => e (decide_eq_true (by rw [h]))
          exact ⟨⟨_, rfl⟩, s2, h2 e⟩
      · rintro σ' H' ⟨⟨y, rfl⟩, s2, n1, n2⟩
        refine q0 ?_ H' s2
        rw [er, if_neg (n1 (by decide)), if_neg (n2 (by decide))]
end
end Tw

namespace Tw
open PySem PySem.Spec PyProof.Rows L2 TL
def rideD (r : Ride) : PyData := .tuple [.int r.1, .str r.2]
/-- the text of rides -/
def wrT (rs : List Ride) : Str := Txt.join " " (rs.map wordOf)
theorem in_col (c : Str) : inV (.str c) [.str "red", .str "blue"] = okC c := by
  show (("red" == c) || (("blue" == c) || false)) = (decide (c = "red") || decide (c = "blue"))
  rw [Bool.or_false]
  have e : ∀ z : Str, (z == c) = decide (c = z) := fun z => by
    by_cases h : c = z
    · subst h; simp
    · rw [decide_eq_false h]; simpa using fun q => h q.symm
  rw [e, e]
theorem word_len {r : Ride} (h : bad r = false) : (wordOf r).length ≤ 3 := by
  obtain ⟨n, hn, e1, _⟩ := good_of h
  obtain ⟨i, c⟩ := r
  dsimp only at e1
  subst e1
  rw [len_tl, tl_word hn, List.length_cons]
  unfold numT
  split <;> simp
theorem sum_le3 : ∀ {l : List Ride}, (∀ r ∈ l, bad r = false) → ((l.map wordOf).map (·.length)).sum ≤ 3 * l.length
  | [], _ => Nat.le_refl _
  | r :: l, h => by
    have h1 := word_len (h r List.mem_cons_self)
    have h2 := sum_le3 (l := l) fun x hx => h x (List.mem_cons_of_mem _ hx)
    show (wordOf r).length + ((l.map wordOf).map (·.length)).sum ≤ 3 * (l.length + 1)
    omega
theorem log_small {n : Nat} (h : n < 2 ^ 100) : n.log2 < 1920 := by
  by_cases h0 : n = 0
  · subst h0; decide
  · exact (Nat.log2_lt h0).mpr (Nat.lt_of_lt_of_le h (Nat.pow_le_pow_right (by decide) (by decide)))
theorem okI {i : Int} (h : i.natAbs < 2 ^ 100) : okMsg (.int i) := .inl ⟨i, rfl, log_small h⟩
theorem ok1 {y : V} (h : okMsg y) : ∀ z ∈ [y], okMsg z := fun z hz => by rw [List.mem_singleton.mp hz]; exact h
section
variable {P : Program} {w : World} {K : PySem.W.Frag} {mg : Str → Option Value} {base : Heap} {A₀ : Ad}
theorem ride_at {H : Hp} {xs : List V} {rs : List Ride} {i : Nat} {x : V} (h : DpAll K H xs (rs.map rideD)) (e : xs[i]? = some x) : ∃ r a, rs[i]? = some r ∧ x = .ref a ∧ SqT K H a [.int r.1, .str r.2] := by
  obtain ⟨d, e1, e2⟩ := DpAll.get h e
  rw [List.getElem?_map] at e1
  cases er : rs[i]? with
  | none => rw [er] at e1; cases e1
  | some r =>
    rw [er] at e1
    cases e1
    cases e2 with
    | tup hs ha =>
      cases ha with
      | cons h1 h2 =>
        cases h2 with
        | cons h2 h3 =>
          cases h3
          cases h1
          cases h2
          exact ⟨r, _, rfl, rfl, hs⟩
def spWrite (K : PySem.W.Frag) (A₀ : Ad) : Sp := fun vs H Q E => ∃ (x : V) (rs : List Ride), vs = [x] ∧ Dp K H x (.list (rs.map rideD)) ∧ rs.length ≤ 1000001 ∧
  ((∀ r ∈ rs, bad r = false) → ∀ H', Same H H' → Q (.str (wrT rs)) H') ∧
  ∀ (k : Nat) (r : Ride), rs[k]? = some r → bad r = true → (∀ (j : Nat) (r' : Ride), j < k → rs[j]? = some r' → bad r' = false) → ∀ d H', Same H H' → H' d = some (.xd [("place", .int (k : Int))]) → E (.ref A₀.c_BadRide) (some d) H'
theorem cal_write_trip (T : Txt P w K mg base A₀) : Cal P w K mg base (L2N.CX P w) "write_trip" 3 ["rides"] (spWrite K A₀) := by
  have x_BadRide := T.x_BadRide
  refine calX_of T.d_write_trip sc_write_trip b_write_trip (fun vs H Q E h => ?_) (fun f cdv A outer s H vs Q E hr h => ?_)
  · obtain ⟨x, rs, rfl, _⟩ := h
    rfl
  · obtain ⟨x, rs, rfl, hx, hn, qG, qB⟩ := h
    refine ⟨_, (pss_cons (ps_for (passes_of rfl) rfl (pi_enum (by rfl) T.n_enumerate (pa_cons (pv 0) pa_nil)) (pg_tup rfl (pgs_cons (pg_name (i := 1) sc_write_trip.nd rfl (Or.inl rfl)) (pgs_cons (pg_tup rfl (pgs_cons (pg_name (i := 2) sc_write_trip.nd rfl (Or.inl rfl)) (pgs_cons (pg_name (i := 3) sc_write_trip.nd rfl (Or.inl rfl)) pgs_nil))) pgs_nil))) (pss_one (ps_if (PW.pt (pw_or (pt_not (pt_chain op_le op_le pe_int (pv 2) (pe_glob (by rfl) T.g_HIGHEST_ROPE (show L2.RelV (V.int 99) (Value.int 99 A₀.tHR) from ⟨_, rfl⟩)))) (pw_or1 (pt_cmpR op_notIn_seq (pv 3) (pe_glob (by rfl) T.g_COLOURS (show L2.RelV (V.ref A₀.col) (Value.ref A₀.col) from rfl)) (by rfl))))) (pss_one (L2N.ps_raise rfl (L2N.takes_of rfl rfl rfl rfl) (pmk_err x_BadRide (hr.mono (by first | exact Nat.le_refl _ | decide)) (by rfl) (pa_cons (pv 1) pa_nil)))) pss_nil)))
  (pss_one (ps_ret (pe_join pe_str (pe_lc (own := [("rope", 2), ("colour", 3)]) (g := gTup K 2 (gCons (gName 2) (gCons (gName 3) gNil))) rfl sc_write_trip.nd (pi_list (pv 0)) (blkOk_by (own := [("rope", 2), ("colour", 3)]) (N := ["rides", "place", "rope", "colour"]) (sc := defScope s_write_trip) (by decide +kernel)) (fun _ _ _ _ _ => (pg_tup rfl (pgs_cons (pg_name (i := 2) sc_write_trip.nd rfl (Or.inl rfl)) (pgs_cons (pg_name (i := 3) sc_write_trip.nd rfl (Or.inl rfl)) pgs_nil)))) (fun _ _ _ _ _ => pts_nil) (fun _ _ _ _ _ => (pe_joined (PJ.cons (pe_fmt (pe_ix ix_str (pv 3) pe_int (fun _ _ => rfl))) (PJ.cons (pe_fmt (pv 2)) PJ.nil))))))))), ?_⟩
    cases hx with
    | @lst a xs _ hs ha =>
    have hl : xs.length = rs.length := by rw [DpAll.len ha, List.length_map]
    refine ⟨_, rfl, a, xs, rfl, hs, for_it (walk_enum (K := K) (a := a) (xs := xs)) (fun i σ' H' => (∃ y1 y2 y3, σ' = [some (.ref a), y1, y2, y3]) ∧ Same H H' ∧ ∀ (j : Nat) (r' : Ride), j < i → rs[j]? = some r' → bad r' = false) ⟨⟨none, none, none, rfl⟩, fun _ _ z => z, fun j r' h => absurd h (Nat.not_lt_zero _)⟩ (fun i σ' H' _ h => h.2.1.seq hs) ?_ ?_⟩
    · rintro i x σ' H1 H2 hi ⟨⟨y1, y2, y3, rfl⟩, s1, hb⟩ ⟨T0, v1, v2, rfl, nT, rfl, f1, f2⟩
      have f1 := Option.some.inj f1
      subst f1
      obtain ⟨r, t, er, rfl, ht⟩ := ride_at ha f2
      have s2 : Same H (upd H1 T0 (.tup [.int (i : Int), .ref t])) := s1.trans (same_new nT)
      refine ⟨T0, _, rfl, SqT.of upd_same, rfl, _, _, rfl, _, _, rfl, t, _, rfl, Same.tup s2 ht, rfl, _, _, rfl, _, _, rfl, rfl, rfl, ?_⟩
      have hi2 : i < rs.length := by omega
      have hb2 : bad r = false → ∀ (j : Nat) (r' : Ride), j < i + 1 → rs[j]? = some r' → bad r' = false := fun h j r' hj e => by
        by_cases e2 : j = i
        · subst e2
          rw [er] at e
          cases e
          exact h
        · exact hb j r' (by omega) e
      by_cases b1 : (0 : Int) ≤ r.1
      · refine ⟨_, rfl, _, _, rfl, rfl, _, rfl, ite2 (fun _ => ?_) (fun z => absurd (decide_eq_true b1) z)⟩
        by_cases b2 : r.1 ≤ 99
        · refine ⟨_, _, rfl, rfl, _, rfl, ite2 (fun z => ?_) (fun _ => ?_)⟩
          · rw [decide_eq_true b2] at z
            cases z
          · refine ⟨_, rfl, _, _, rfl, .inr (T.colT _), rfl, rfl, _, rfl, ite2 (fun z => ?_) (fun z => ?_)⟩
            · have z : (!inV (.str r.2) [.str "red", .str "blue"]) = true := z
              rw [in_col] at z
              have hbad : bad r = true := by unfold bad; rw [decide_eq_true b1, decide_eq_true b2]; exact z
              exact ⟨_, rfl, rfl, (by show 1 ≤ 1000; decide), ok1 (okI (by omega)), fun d nd => qB i r er hbad hb d _ (s2.trans (same_new nd)) upd_same⟩
            · have z : ¬ (!inV (.str r.2) [.str "red", .str "blue"]) = true := z
              rw [in_col] at z
              have hgood : bad r = false := by unfold bad; rw [decide_eq_true b1, decide_eq_true b2]; simpa using z
              exact ⟨⟨_, _, _, rfl⟩, s2, hb2 hgood⟩
        · have hbad : bad r = true := by unfold bad; rw [decide_eq_false b2]; simp
          refine ⟨_, _, rfl, rfl, _, rfl, ite2 (fun _ => ?_) (fun z => absurd (by rw [decide_eq_false b2]; rfl) z)⟩
          exact ⟨_, rfl, rfl, (by show 1 ≤ 1000; decide), ok1 (okI (by omega)), fun d nd => qB i r er hbad hb d _ (s2.trans (same_new nd)) upd_same⟩
      · have hbad : bad r = true := by unfold bad; rw [decide_eq_false b1]; simp
        refine ⟨_, rfl, _, _, rfl, rfl, _, rfl, ite2 (fun z => absurd (of_decide_eq_true z) b1) (fun _ => ?_)⟩
        exact ⟨_, rfl, iteT ⟨_, rfl, rfl, (by show 1 ≤ 1000; decide), ok1 (okI (by omega)), fun d nd => qB i r er hbad hb d _ (s2.trans (same_new nd)) upd_same⟩⟩
    · rintro σ' H1 ⟨⟨y1, y2, y3, rfl⟩, s1, hb⟩
      have good : ∀ r ∈ rs, bad r = false := fun r hr => by
        obtain ⟨j, hj⟩ := List.mem_iff_getElem?.mp hr
        have := (List.getElem?_eq_some_iff.mp hj).1
        exact hb j r (by omega) hj
      refine ⟨⟨_, rfl⟩, _, rfl, a, rfl, ⟨_, s1.seq hs⟩, fun D hD => ?_⟩
      refine lc_list (K := K) (a := a) (xs := xs) (g := gTup K 2 (gCons (gName 2) (gCons (gName 3) gNil))) (tt := tYes) (te := fun σ H Q => tJs [tFmt (tOp rIxS (tVar 3) (tC (V.int 0))), tFmt (tVar 2)] Str.empty σ H fun out H1 => Q (V.str out) H1) (vs := [2, 3]) (fun i H' => Same H1 (upd H' D (.lst [])) ∧ Same H H' ∧ H' D = some (.lst (((rs.take i).map wordOf).map V.str))) ⟨by rw [upd_upd]; exact same_new hD, s1.trans (same_new hD), upd_same⟩ (fun i H' _ h => h.2.1.seq hs) ?_ ?_
      · rintro i x H2 hxi ⟨s2, s3, hD2⟩
        obtain ⟨r, t, er, rfl, ht⟩ := ride_at ha hxi
        have hr := good r (List.mem_of_getElem? er)
        obtain ⟨n, hn, e1, e2⟩ := good_of hr
        obtain ⟨rn, col⟩ := r
        dsimp only at e1 e2
        subst e1
        have hcl : col.length ≤ sizeLine := by
          rw [sizeLine_eq]
          rcases e2 with rfl | rfl <;> decide +kernel
        have hc : (tl col)[0]? = some (col.cps.getD 0 0) := by
          rcases e2 with rfl | rfl <;> decide +kernel
        have hw : Str.empty ++ ⟨#[col.cps.getD 0 0]⟩ ++ Str.ofString (toString (n : Int)) = wordOf ((n : Int), col) := by
          refine ext_tl ?_
          unfold wordOf
          rw [tl_append, tl_append, tl_append]
          rfl
        have hwl := word_len hr
        refine ⟨t, _, rfl, Same.tup s3 ht, rfl, _, _, rfl, _, _, rfl, rfl, rfl, _, rfl, col, 0, _, rfl, rfl, hcl, atI_nat (j := 0) hc, .inl ⟨_, rfl, (by show 1 ≤ sizeLine; rw [sizeLine_eq]; decide), _, rfl, (by show 1 ≤ sizeLine; rw [sizeLine_eq]; decide), _, rfl, .inr ⟨_, rfl, log_small (by omega), _, rfl, ?_, ?_⟩⟩⟩
        · show (Str.empty ++ ⟨#[col.cps.getD 0 0]⟩ ++ Str.ofString (toString (n : Int))).length ≤ sizeLine
          rw [hw, sizeLine_eq]
          omega
        · show ∃ acc, H2 D = some (.lst acc) ∧ acc.length < sizeLine ∧ _
          refine ⟨_, hD2, ?_, ?_⟩
          · rw [List.length_map, List.length_map, List.length_take, sizeLine_eq]
            omega
          · refine ⟨by rw [upd_upd]; exact s2, fun b o e => ?_, ?_⟩
            · have nb : b ≠ D := fun z => by
                subst z
                exact absurd (s1 _ _ e) (by rw [hD]; simp)
              rw [upd_ne nb]
              exact s3 b o e
            · rw [upd_same, List.take_add_one, er, List.map_append, List.map_append]
              show _ = some (HO.lst (_ ++ [V.str (wordOf ((n : Int), col))]))
              rw [← hw]
      · rintro H2 ⟨s2, s3, hD2⟩
        have e : rs.take xs.length = rs := List.take_of_length_le (by omega)
        rw [e] at hD2
        refine ⟨_, D, rs.map wordOf, rfl, rfl, .inl (SqL.of hD2), ?_, qG good H2 s3⟩
        have := sum_le3 good
        have h1 : (" " : Str).length = 1 := by decide +kernel
        rw [List.length_map, h1]
        omega
end
end Tw

namespace Tw
open PySem PySem.Spec PyProof.Rows L2 TL
/-! ### reading a trip -/
def wordsOf (z : Str) : List Str := if z = "" then [] else Txt.split z " "
theorem joinL_len : ∀ (l : List (List Nat)), l ≠ [] → (joinL [32] l).length + 1 = (l.map (fun x => x.length + 1)).sum
  | [], h => absurd rfl h
  | [x], _ => rfl
  | x :: y :: r, _ => by
    have ih := joinL_len (y :: r) (by simp)
    show (x ++ ([32] ++ joinL [32] (y :: r))).length + 1 = (x.length + 1) + ((y :: r).map (fun x => x.length + 1)).sum
    rw [← ih, List.length_append, List.length_append]
    show x.length + (1 + _) + 1 = _
    omega
theorem words_sum (z : Str) : ((Txt.split z " ").map (fun w => w.length + 1)).sum = z.length + 1 := by
  have e := congrArg tl (join_split z)
  rw [join_eq, tl_join, tl_sp] at e
  have h := joinL_len ((Txt.split z " ").map tl) (by simpa using split_ne z)
  rw [List.map_map] at h
  have e2 : ∀ w : Str, ((fun x : List Nat => x.length + 1) ∘ tl) w = w.length + 1 := fun w => by show (tl w).length + 1 = _; rw [len_tl]
  rw [show ((fun x : List Nat => x.length + 1) ∘ tl) = fun w : Str => w.length + 1 from funext e2] at h
  rw [← h, e, len_tl]
theorem mem_sum {α : Type} (f : α → Nat) : ∀ {l : List α} {x : α}, x ∈ l → f x ≤ (l.map f).sum
  | y :: l, x, h => by
    rw [List.map_cons, List.sum_cons]
    rcases List.mem_cons.mp h with rfl | h
    · omega
    · have := mem_sum f h; omega
theorem word_le {z w : Str} (h : w ∈ Txt.split z " ") : w.length ≤ z.length := by
  have := mem_sum (fun w : Str => w.length + 1) h
  rw [words_sum] at this
  omega
theorem count_le {α : Type} (f : α → Nat) (hf : ∀ x, 1 ≤ f x) : ∀ l : List α, l.length ≤ (l.map f).sum
  | [] => Nat.le_refl _
  | y :: l => by rw [List.map_cons, List.sum_cons, List.length_cons]; have := count_le f hf l; have := hf y; omega
theorem words_le (z : Str) : (Txt.split z " ").length ≤ z.length + 1 := by
  rw [← words_sum]
  exact count_le _ (fun x => by omega) _
/-- new pairs of a rope and a colour -/
inductive Rds (H : Hp) : List V → List Ride → Prop
  | nil : Rds H [] []
  | cons {p : Addr} {r : Ride} {ys : List V} {rs : List Ride} : H p = some (.tup [.int r.1, .str r.2]) → Rds H ys rs → Rds H (.ref p :: ys) (r :: rs)
theorem Rds.mono {H H' : Hp} (k : ∀ p xs, H p = some (.tup xs) → H' p = some (.tup xs)) : ∀ {ys : List V} {rs : List Ride}, Rds H ys rs → Rds H' ys rs
  | _, _, .nil => .nil
  | _, _, .cons h r => .cons (k _ _ h) (Rds.mono k r)
theorem Rds.len {H : Hp} : ∀ {ys : List V} {rs : List Ride}, Rds H ys rs → ys.length = rs.length
  | _, _, .nil => rfl
  | _, _, .cons _ r => congrArg (· + 1) (Rds.len r)
theorem Rds.snoc {H : Hp} {p : Addr} {r : Ride} (h : H p = some (.tup [.int r.1, .str r.2])) : ∀ {ys : List V} {rs : List Ride}, Rds H ys rs → Rds H (ys ++ [.ref p]) (rs ++ [r])
  | _, _, .nil => .cons h .nil
  | _, _, .cons g s => .cons g (Rds.snoc h s)
theorem Rds.lift {H H' : Hp} (s : Same H H') {ys : List V} {rs : List Ride} (h : Rds H ys rs) : Rds H' ys rs := h.mono fun p _ e => s p _ e
theorem Rds.set {H : Hp} {q : Addr} {o : List V} {n : HO} (e : H q = some (.lst o)) {ys : List V} {rs : List Ride} (h : Rds H ys rs) : Rds (upd H q n) ys rs := h.mono fun p xs e2 => by
  rw [upd_ne]
  · exact e2
  · intro z
    subst z
    rw [e] at e2
    cases e2
theorem Rds.dp {K : PySem.W.Frag} {H : Hp} : ∀ {ys : List V} {rs : List Ride}, Rds H ys rs → DpAll K H ys (rs.map rideD)
  | _, _, .nil => .nil
  | _, _, .cons h r => .cons (.tup (SqT.of h) (.cons (.int _) (.cons (.str _) .nil))) (Rds.dp r)
theorem nth_str {ws : List Str} {i : Nat} {x : V} (h : (ws.map V.str)[i]? = some x) : ∃ y, ws[i]? = some y ∧ x = .str y := by
  rw [List.getElem?_map] at h
  cases e : ws[i]? with
  | none => rw [e] at h; cases h
  | some y => rw [e] at h; exact ⟨y, rfl, (Option.some.inj h).symm⟩
section
variable {P : Program} {w : World} {K : PySem.W.Frag} {mg : Str → Option Value} {base : Heap} {A₀ : Ad}
def spRead (K : PySem.W.Frag) (A₀ : Ad) : Sp := fun vs H Q E => ∃ z : Str, vs = [.str z] ∧ z.length ≤ 1000000 ∧
  (∀ rs : List Ride, (wordsOf z).map rideOf = rs.map some → ∀ H' q ys, Same H H' → H q = none → H' q = some (.lst ys) → DpAll K H' ys (rs.map rideD) → Q (.ref q) H') ∧
  ∀ (k : Nat), ((wordsOf z).map rideOf)[k]? = some none → (∀ j, j < k → ((wordsOf z).map rideOf)[j]? ≠ some none) → ∀ d H', Same H H' → H' d = some (.xd [("place", .int (k : Int))]) → E (.ref A₀.c_BadWord) (some d) H'
theorem cal_read_trip (T : Txt P w K mg base A₀) : Cal P w K mg base (L2N.CX P w) "read_trip" 3 ["text"] (spRead K A₀) := by
  have c_ride_in := cal_ride_in T; have x_BadWord := T.x_BadWord
  refine calX_of T.d_read_trip sc_read_trip b_read_trip (fun vs H Q E h => ?_) (fun f cdv A outer s H vs Q E hr h => ?_)
  · obtain ⟨z, rfl, _⟩ := h
    rfl
  · obtain ⟨z, rfl, hz, qG, qB⟩ := h
    refine ⟨_, (pss_cons (ps_if (pt_cmpR op_eq (pv 0) pe_str (nomark _)) (pss_one (ps_ret (pe_lst pa_nil))) pss_nil)
  (pss_cons (ps_set (i := 1) sc_read_trip.nd rfl (Or.inl rfl) (pe_lst pa_nil))
  (pss_cons (ps_for (passes_of rfl) rfl (pi_enum (by rfl) T.n_enumerate (pa_cons (pe_split (pv 0) pe_str) pa_nil)) (pg_tup rfl (pgs_cons (pg_name (i := 2) sc_read_trip.nd rfl (Or.inl rfl)) (pgs_cons (pg_name (i := 3) sc_read_trip.nd rfl (Or.inl rfl)) pgs_nil))) (pss_cons (ps_set (i := 4) sc_read_trip.nd rfl (Or.inl rfl) (pe_cal c_ride_in (hr.mono (by first | exact Nat.le_refl _ | decide)) (by rfl) (pa_cons (pv 3) pa_nil)))
  (pss_cons (ps_if (pt_cmpR op_isN (pv 4) pe_non (nomark _)) (pss_one (L2N.ps_raise rfl (L2N.takes_of rfl rfl rfl rfl) (pmk_err x_BadWord (hr.mono (by first | exact Nat.le_refl _ | decide)) (by rfl) (pa_cons (pv 2) pa_nil)))) pss_nil)
  (pss_one (ps_expr (pe_bm PySem.F.plainAttrs_list PySem.F.slot_list_append PySem.F.type_list_append mt_append (pv 1) (pa_cons (pv 4) pa_nil)))))))
  (pss_one (ps_ret (pv 1)))))), ?_⟩
    have hzl : z.length + 2 ≤ sizeLine := by rw [sizeLine_eq]; omega
    refine ⟨_, rfl, rfl, _, rfl, ite2 (fun e => ?_) (fun e => ?_)⟩
    · have e : z = "" := by
        have e' := of_decide_eq_true e
        injection e'
      have ew : wordsOf z = [] := by unfold wordsOf; rw [if_pos e]
      exact ⟨(by show 0 ≤ sizeLine; exact Nat.zero_le _), fun p np => qG [] (by rw [ew]; rfl) _ p [] (same_new np) np upd_same .nil⟩
    have ew : wordsOf z = Txt.split z " " := by
      unfold wordsOf
      rw [if_neg]
      intro h
      exact e (by rw [h]; rfl)
    generalize ews : Txt.split z " " = ws at ew
    have hwl : ∀ y ∈ ws, y.length ≤ z.length := fun y hy => word_le (by rw [ews]; exact hy)
    have hwn : ws.length ≤ z.length + 1 := by rw [← ews]; exact words_le z
    rw [ew] at qG qB
    refine ⟨(by show 0 ≤ sizeLine; exact Nat.zero_le _), fun q nq => ?_⟩
    refine ⟨_, rfl, ⟨z, rfl⟩, z, _, rfl, rfl, (by decide +kernel), hzl, fun a na => ?_⟩
    rw [ews]
    have nqa : a ≠ q := fun h => by subst h; rw [upd_same] at na; cases na
    refine ⟨a, _, rfl, SqL.of upd_same, for_it (walk_enum (K := K) (a := a) (xs := ws.map V.str)) (fun i σ' H' => ∃ (y1 y2 y3 : Option V) (ys : List V) (rs : List Ride), σ' = [some (.str z), some (.ref q), y1, y2, y3] ∧ Same H H' ∧ H' q = some (.lst ys) ∧ Rds H' ys rs ∧ (ws.take i).map rideOf = rs.map some ∧ H' a = some (.lst (ws.map V.str))) ?_ ?_ ?_ ?_⟩
    · exact ⟨none, none, none, [], [], rfl, (same_new nq).trans (same_new na), by rw [upd_ne nqa.symm]; exact upd_same, .nil, rfl, upd_same⟩
    · rintro i σ' H' _ ⟨_, _, _, _, _, _, _, _, _, _, h⟩
      exact SqL.of h
    · rintro i x σ' H1 H2 hi ⟨y1, y2, y3, ys, rs, rfl, s1, hq, hr1, hm, ha⟩ ⟨T0, v1, v2, rfl, nT, rfl, f1, f2⟩
      have f1 := Option.some.inj f1
      subst f1
      obtain ⟨y, ey, rfl⟩ := nth_str f2
      have hil : i < ws.length := by rw [List.length_map] at hi; exact hi
      have hrl : rs.length = i := by
        have := congrArg List.length hm
        rw [List.length_map, List.length_map, List.length_take] at this
        omega
      have s2 : Same H1 (upd H1 T0 (.tup [.int (i : Int), .str y])) := same_new nT
      have hyl := hwl y (List.mem_of_getElem? ey)
      have hml : (ws.map rideOf)[i]? = some (rideOf y) := by rw [List.getElem?_map, ey]; rfl
      have hpre : ∀ j, j < i → (ws.map rideOf)[j]? ≠ some none := fun j hj h => by
        have h2 : ((ws.take i).map rideOf)[j]? = some none := by rw [List.map_take, List.getElem?_take, if_pos hj]; exact h
        rw [hm, List.getElem?_map] at h2
        cases e : rs[j]? with
        | none => rw [e] at h2; cases h2
        | some r => rw [e] at h2; cases h2
      refine ⟨T0, _, rfl, SqT.of upd_same, rfl, _, _, rfl, _, _, rfl, rfl, _, rfl, y, rfl, by omega, fun e H3 s3 => ?_, fun n c e H3 p s3 hp => ?_⟩
      · refine ⟨_, rfl, rfl, _, rfl, iteT ?_⟩
        exact ⟨_, rfl, rfl, (by show 1 ≤ 1000; decide), ok1 (okI (by omega)), fun d nd => qB i (by rw [hml, e]) hpre d _ (((s1.trans s2).trans s3).trans (same_new nd)) upd_same⟩
      · refine ⟨_, rfl, rfl, _, rfl, iteF ?_⟩
        have hq3 := s3 _ _ (s2 _ _ hq)
        refine ⟨_, rfl, .inl ⟨rfl, _, SqL.of hq3⟩, _, rfl, q, ys, .ref p, rfl, rfl, hq3, by rw [hr1.len, sizeLine_eq]; omega, ?_⟩
        refine ⟨_, _, _, _, rs ++ [(n, c)], rfl, ?_, upd_same, ?_, ?_, ?_⟩
        · exact same_upd ((s1.trans s2).trans s3) nq
        · exact ((hr1.lift (s2.trans s3)).snoc (r := (n, c)) hp).set hq3
        · rw [List.take_add_one, ey, List.map_append, List.map_append, hm]
          show _ ++ [rideOf y] = _
          rw [e]
          rfl
        · rw [upd_ne nqa]
          exact s3 _ _ (s2 _ _ ha)
    · rintro σ' H1 ⟨y1, y2, y3, ys, rs, rfl, s1, hq, hr1, hm, ha⟩
      rw [List.length_map, List.take_of_length_le (Nat.le_refl _)] at hm
      exact ⟨_, rfl, qG rs hm H1 q ys s1 nq hq hr1.dp⟩
end
end Tw

namespace Tw
open PySem PySem.Spec PyProof.Rows L2 TL
/-! ### the bag, settled anew -/
section
variable {K : PySem.W.Frag} {F H H' : Hp} {b : Addr}
theorem Bag.lift (s : Same H H') (B : Bag K F H b) : Bag K F H' b := by
  obtain ⟨h0, c, ns, i, x, k, t, fo, big, h1, h2⟩ := B
  exact ⟨h0, c, ns, i, x, k, t, fo, big, s _ _ h1, h2⟩
theorem Bag.set {q : Addr} {o : HO} (ne : b ≠ q) (B : Bag K F H b) : Bag K F (upd H q o) b := by
  obtain ⟨h0, c, ns, i, x, k, t, fo, big, h1, h2⟩ := B
  exact ⟨h0, c, ns, i, x, k, t, fo, big, by rw [upd_ne ne]; exact h1, h2⟩
theorem Bag.is (B : Bag K F H b) : ∃ xs, H b = some (.lst xs) := by
  obtain ⟨h0, c, ns, i, x, k, t, fo, big, h1, h2⟩ := B
  exact ⟨_, h1⟩
theorem Bag.ne {q : Addr} (B : Bag K F H b) (h : H q = none) : b ≠ q := by
  obtain ⟨xs, e⟩ := B.is
  exact fun z => by subst z; rw [e] at h; cases h
theorem Bag.settle (s : Same F H) (B : Bag K F H b) : Same F (del H b) ∧ Same (del H b) H ∧ Bag K (del H b) H b := by
  have s1 : Same F (del H b) := fun a o e => by
    rw [del_ne (ne_of_none e B.1)]
    exact s a o e
  refine ⟨s1, fun a o e => ?_, ?_⟩
  · by_cases h : a = b
    · rw [h, del_same] at e; cases e
    · rwa [del_ne h] at e
  · obtain ⟨h0, c, ns, i, x, k, t, fo, big, h1, h2, h3, h4⟩ := B
    exact ⟨del_same, c, ns, i, x, k, t, fo, big, h1, s1.seq h2, h3, h4⟩
/-- after a draw: all but the bag is as it was -/
theorem same_draw (k : ∀ a, a ≠ b → H' a = H a) (s : Same F H) (B : Bag K F H b) : Same F H' := fun a o e => by
  rw [k a (ne_of_none e B.1)]
  exact s a o e
theorem Rds.draw (k : ∀ a, a ≠ b → H' a = H a) (B : Bag K F H b) {ys : List V} {rs : List Ride} (h : Rds H ys rs) : Rds H' ys rs := h.mono fun p xs e => by
  rw [k]
  · exact e
  · intro z
    subst z
    obtain ⟨xs, e2⟩ := B.is
    rw [e2] at e
    cases e
end
section
variable {P : Program} {w : World} {K : PySem.W.Frag} {mg : Str → Option Value} {base : Heap} {A₀ : Ad}
def spRow (K : PySem.W.Frag) : Sp := fun vs H Q _ => ∃ (F : Hp) (b : Addr), vs = [.ref b] ∧ Same F H ∧ Bag K F H b ∧
  ∀ F' H' q ys rs, Same F F' → Same F' H' → Bag K F' H' b → F' q = some (.lst ys) → Rds F' ys rs → rs.length ≤ 60 → (∀ r ∈ rs, bad r = false) → Q (.ref q) H'
theorem cal__law_row (T : Txt P w K mg base A₀) : Cal P w K mg base CX0 "_law_row" 3 ["bag"] (spRow K) := by
  have c__law_draw := cal__law_draw T
  refine cal_of T.d__law_row sc__law_row b__law_row (fun vs H Q E h => ?_) (fun f cdv A outer s H vs Q E hr h => ?_)
  · obtain ⟨F, b, rfl, _⟩ := h
    rfl
  · obtain ⟨F, b, rfl, sF, B, q0⟩ := h
    refine ⟨_, (pss_cons (ps_set (i := 1) sc__law_row.nd rfl (Or.inl rfl) (pe_cal c__law_draw (hr.mono (by first | exact Nat.le_refl _ | decide)) (by rfl) (pa_cons (pv 0) (pa_cons pe_int pa_nil))))
  (Evl.pss_cut (ps_if (pt_cmpR op_eq (pe_cal c__law_draw (hr.mono (by first | exact Nat.le_refl _ | decide)) (by rfl) (pa_cons (pv 0) (pa_cons pe_int pa_nil))) pe_int (nomark _)) (pss_one (ps_set (i := 1) sc__law_row.nd rfl (Or.inl rfl) (pe_cal c__law_draw (hr.mono (by first | exact Nat.le_refl _ | decide)) (by rfl) (pa_cons (pv 0) (pa_cons pe_int pa_nil))))) pss_nil)
  (pss_cons (ps_set (i := 2) sc__law_row.nd rfl (Or.inl rfl) (pe_lst pa_nil))
  (pss_cons (ps_for PassesOwn.never rfl (pi_range1 (by rfl) T.n_range (pa_cons (pv 1) pa_nil)) (pg_name (i := 3) sc__law_row.nd rfl (Or.inl rfl)) (pss_cons (ps_set (i := 4) sc__law_row.nd rfl (Or.inl rfl) (pe_cal c__law_draw (hr.mono (by first | exact Nat.le_refl _ | decide)) (by rfl) (pa_cons (pv 0) (pa_cons pe_int pa_nil))))
  (Evl.pss_cut (ps_if (pt_cmpR op_eq (pe_cal c__law_draw (hr.mono (by first | exact Nat.le_refl _ | decide)) (by rfl) (pa_cons (pv 0) (pa_cons pe_int pa_nil))) pe_int (nomark _)) (pss_one (ps_set (i := 4) sc__law_row.nd rfl (Or.inl rfl) (pe_cal c__law_draw (hr.mono (by first | exact Nat.le_refl _ | decide)) (by rfl) (pa_cons (pv 0) (pa_cons pe_int pa_nil))))) pss_nil)
  (pss_one (ps_expr (pe_bm PySem.F.plainAttrs_list PySem.F.slot_list_append PySem.F.type_list_append mt_append (pv 2) (pa_cons (pe_tup (pa_cons (pv 4) (pa_cons (pe_ix ix_list (pe_lst (pa_cons pe_str (pa_cons pe_str pa_nil))) (pe_cal c__law_draw (hr.mono (by first | exact Nat.le_refl _ | decide)) (by rfl) (pa_cons (pv 0) (pa_cons pe_int pa_nil))) (fun _ _ => rfl)) pa_nil))) pa_nil)))))))
  (pss_one (ps_ret (pv 2))))))), ?_⟩
    refine ⟨_, rfl, F, b, 9, rfl, sF, B, by decide, by decide, fun r1 H1 r0 r9 k1 B1 => ?_⟩
    have s1 := same_draw k1 sF B
    refine ⟨fun σ' H' => ∃ (n : Int), 0 ≤ n ∧ n ≤ 60 ∧ σ' = [some (.ref b), some (.int n), none, none, none] ∧ Same F H' ∧ Bag K F H' b, ?_, ?_⟩
    · refine ⟨_, rfl, F, b, 8, rfl, s1, B1, by decide, by decide, fun r2 H2 _ _ k2 B2 => ?_⟩
      have s2 := same_draw k2 s1 B1
      refine ⟨rfl, _, rfl, ite2 (fun _ => ?_) (fun _ => ⟨r1, r0, by omega, rfl, s2, B2⟩)⟩
      refine ⟨_, rfl, F, b, 60, rfl, s2, B2, by decide, by decide, fun r3 H3 g3 h3 k3 B3 => ?_⟩
      exact ⟨r3, g3, by omega, rfl, same_draw k3 s2 B2, B3⟩
    · rintro σ' H3 ⟨n, hn0, hn, rfl, s3, B3⟩
      refine ⟨(by show 0 ≤ sizeLine; exact Nat.zero_le _), fun q nq => ?_⟩
      have nqb := B3.ne nq
      have nFq : F q = none := s3.free nq
      refine ⟨_, rfl, n, rfl, by omega, by omega, for_range (lo := 0) (n := n.toNat) (fun i σ' H' => ∃ (y1 y2 : Option V) (ys : List V) (rs : List Ride), σ' = [some (.ref b), some (.int n), some (.ref q), y1, y2] ∧ Same F H' ∧ Bag K F H' b ∧ H' q = some (.lst ys) ∧ Rds H' ys rs ∧ rs.length = i ∧ ∀ r ∈ rs, bad r = false) ?_ ?_ ?_⟩
      · exact ⟨none, none, [], [], rfl, s3.trans (same_new nq), B3.set nqb, upd_same, .nil, rfl, fun r h => by cases h⟩
      · rintro i σ' H4 hi ⟨y1, y2, ys, rs, rfl, s4, B4, h4, R4, l4, g4⟩
        refine ⟨_, rfl, F, b, 10, rfl, s4, B4, by decide, by decide, fun r5 H5 g5 h5 k5 B5 => ?_⟩
        have s5 := same_draw k5 s4 B4
        refine ⟨fun σ' H' => ∃ (m : Int), 0 ≤ m ∧ m ≤ 99 ∧ σ' = [some (.ref b), some (.int n), some (.ref q), some (.int (0 + (i : Int))), some (.int m)] ∧ Same F H' ∧ Bag K F H' b ∧ H' q = some (.lst ys) ∧ Rds H' ys rs, ?_, ?_⟩
        · refine ⟨_, rfl, F, b, 2, rfl, s5, B5, by decide, by decide, fun r6 H6 g6 h6 k6 B6 => ?_⟩
          have s6 := same_draw k6 s5 B5
          have q6 : H6 q = some (.lst ys) := by rw [k6 q nqb.symm, k5 q nqb.symm]; exact h4
          have R6 := (R4.draw k5 B4).draw k6 B5
          refine ⟨rfl, _, rfl, ite2 (fun _ => ?_) (fun _ => ⟨r5, g5, by omega, rfl, s6, B6, q6, R6⟩)⟩
          refine ⟨_, rfl, F, b, 100, rfl, s6, B6, by decide, by decide, fun r7 H7 g7 h7 k7 B7 => ?_⟩
          exact ⟨r7, g7, by omega, rfl, same_draw k7 s6 B6, B7, by rw [k7 q nqb.symm]; exact q6, R6.draw k7 B6⟩
        · rintro σ' H5 ⟨m, m0, m9, rfl, s5, B5, q5, R5⟩
          refine ⟨_, rfl, .inl ⟨rfl, _, SqL.of q5⟩, _, rfl, (by show 2 ≤ sizeLine; rw [sizeLine_eq]; decide), fun l nl => ?_⟩
          have nlb := B5.ne nl
          have s6 := s5.trans (same_new (o := .lst [.str "red", .str "blue"]) nl)
          refine ⟨_, rfl, F, b, 2, rfl, s6, B5.set nlb, by decide, by decide, fun r7 H7 g7 h7 k7 B7 => ?_⟩
          have s7 := same_draw k7 s6 (B5.set nlb)
          have q7 : H7 q = some (.lst ys) := by rw [k7 q nqb.symm]; exact same_new nl _ _ q5
          have R7 : Rds H7 ys rs := (R5.lift (same_new nl)).draw k7 (B5.set nlb)
          have l7 : H7 l = some (.lst [.str "red", .str "blue"]) := by rw [k7 l nlb.symm]; exact upd_same
          obtain ⟨col, hcol, hb⟩ : ∃ col : Str, atI [V.str "red", V.str "blue"] r7 = some (.str col) ∧ bad (m, col) = false := by
            have hm : (decide ((0 : Int) ≤ m) && decide (m ≤ 99)) = true := by rw [decide_eq_true m0, decide_eq_true m9]; rfl
            have e : r7 = 0 ∨ r7 = 1 := by omega
            rcases e with rfl | rfl
            · exact ⟨"red", atI_nat (j := 0) rfl, by unfold bad okC; rw [hm] <;> rfl⟩
            · exact ⟨"blue", atI_nat (j := 1) rfl, by unfold bad okC; rw [hm] <;> rfl⟩
          refine ⟨_, _, _, _, rfl, rfl, SqL.of l7, hcol, (by show 2 ≤ sizeLine; rw [sizeLine_eq]; decide), fun t nt => ?_⟩
          have q8 : upd H7 t (.tup [.int m, .str col]) q = some (.lst ys) := same_new nt _ _ q7
          refine ⟨q, ys, .ref t, rfl, rfl, q8, by rw [R7.len, sizeLine_eq]; omega, ?_⟩
          refine ⟨_, _, ys ++ [.ref t], rs ++ [(m, col)], rfl, same_upd (s7.trans (same_new nt)) nFq, (B7.set (B7.ne nt)).set nqb, upd_same, ((R7.lift (same_new nt)).snoc (r := (m, col)) upd_same).set q8, by rw [List.length_append, l4] <;> rfl, fun r h => ?_⟩
          rcases List.mem_append.mp h with h | h
          · exact g4 r h
          · rw [List.mem_singleton.mp h]
            exact hb
      · rintro σ' H4 ⟨y1, y2, ys, rs, rfl, s4, B4, h4, R4, l4, g4⟩
        obtain ⟨t1, t2, t3⟩ := B4.settle s4
        refine ⟨_, rfl, q0 _ H4 q ys rs t1 t2 t3 ?_ ?_ (by omega) g4⟩
        · rw [del_ne nqb.symm]
          exact h4
        · refine R4.mono fun p xs e => ?_
          rw [del_ne]
          · exact e
          · intro z
            subst z
            obtain ⟨xs, e2⟩ := B4.is
            rw [e2] at e
            cases e
end
end Tw

namespace Tw
open PySem PySem.Spec PyProof.Rows L2 TL
/-- a short text so many times -/
theorem op_repS {X : Cx} : OpR X (binaryOp .Mult) (fun x y H Q => ∃ (z : Str) (i : Int), x = .str z ∧ y = .int i ∧ z.length ≤ 16 ∧ 0 ≤ i ∧ i ≤ 1048576 ∧ ∀ r : Str, (r.length : Int) = (z.length : Int) * i → Q (.str r) H) := by
  intro pins s σ H x y v u Q I rx ry h
  obtain ⟨z, i, rfl, rfl, hz, h0, h1, q⟩ := h
  obtain ⟨t, rfl⟩ := rx
  obtain ⟨t', rfl⟩ := ry
  exact PySem.W.KXi.mul rfl hz (by omega) (by simpa using h1) fun t' k _ e => ⟨.str _, H, I.tok _, ⟨_, rfl⟩, q _ (e h0)⟩
section
variable {P : Program} {w : World} {K : PySem.W.Frag} {mg : Str → Option Value} {base : Heap} {A₀ : Ad}
def spRowDue (K : PySem.W.Frag) : Sp := fun vs H Q _ => ∃ (x : V) (rs : List Ride), vs = [x] ∧ Dp K H x (.list (rs.map rideD)) ∧ rs.length ≤ 1000001 ∧
  ((∀ r ∈ rs, bad r = false) → ∀ H' q, Same H H' → H' q = some (.lst [.str (wrT rs)]) → Q (.ref q) H') ∧
  ∀ (k : Nat) (r : Ride), rs[k]? = some r → bad r = true → (∀ (j : Nat) (r' : Ride), j < k → rs[j]? = some r' → bad r' = false) → ∀ H' q t, Same H H' → H' q = some (.lst [.ref t]) → H' t = some (.tup [.str "BadRide", .int (k : Int)]) → Q (.ref q) H'
theorem cal__law_row_due (T : Txt P w K mg base A₀) : Cal P w K mg base CX0 "_law_row_due" 1 ["rides"] (spRowDue K) := by
  refine cal_of T.d__law_row_due sc__law_row_due b__law_row_due (fun vs H Q E h => ?_) (fun f cdv A outer s H vs Q E hr h => ?_)
  · obtain ⟨x, rs, rfl, _⟩ := h
    rfl
  · obtain ⟨x, rs, rfl, hx, hn, qG, qB⟩ := h
    refine ⟨_, (pss_cons (ps_set (i := 1) sc__law_row_due.nd rfl (Or.inl rfl) (pe_lst pa_nil))
  (pss_cons (ps_for PassesOwn.never rfl (pi_range1 (by rfl) T.n_range (pa_cons (pe_callB call_len_seq (by rfl) T.n_len PySem.boot_len (pa_cons (pv 0) pa_nil)) pa_nil)) (pg_name (i := 2) sc__law_row_due.nd rfl (Or.inl rfl)) (pss_cons (ps_if (PW.pt (pw_or (pt_cmpR op_lt (pe_ix ix_tup (pe_ix ix_list (pv 0) (pv 2) (fun _ _ => rfl)) pe_int (fun _ _ => rfl)) pe_int (nomark _)) (pw_or (pt_cmpR op_gt (pe_ix ix_tup (pe_ix ix_list (pv 0) (pv 2) (fun _ _ => rfl)) pe_int (fun _ _ => rfl)) pe_int (nomark _)) (pw_or1 (pt_cmpR op_notIn_seq (pe_ix ix_tup (pe_ix ix_list (pv 0) (pv 2) (fun _ _ => rfl)) pe_int (fun _ _ => rfl)) (pe_tup (pa_cons pe_str (pa_cons pe_str pa_nil))) (by rfl)))))) (pss_one (ps_ret (pe_lst (pa_cons (pe_tup (pa_cons pe_str (pa_cons (pv 2) pa_nil))) pa_nil)))) pss_nil)
  (pss_one (ps_expr (pe_bm PySem.F.plainAttrs_list PySem.F.slot_list_append PySem.F.type_list_append mt_append (pv 1) (pa_cons (pe_op op_add_str (pe_ix ix_str (pe_ix ix_tup (pe_ix ix_list (pv 0) (pv 2) (fun _ _ => rfl)) pe_int (fun _ _ => rfl)) pe_int (fun _ _ => rfl)) (pe_callTy call_str_int (by rfl) T.n_str (by decide +kernel) (pa_cons (pe_ix ix_tup (pe_ix ix_list (pv 0) (pv 2) (fun _ _ => rfl)) pe_int (fun _ _ => rfl)) pa_nil))) pa_nil))))))
  (pss_one (ps_ret (pe_lst (pa_cons (pe_join pe_str (pv 1)) pa_nil)))))), ?_⟩
    cases hx with
    | @lst a xs _ hs ha =>
    have hl : xs.length = rs.length := by rw [DpAll.len ha, List.length_map]
    refine ⟨(by show 0 ≤ sizeLine; exact Nat.zero_le _), fun q nq => ?_⟩
    refine ⟨_, rfl, a, _, rfl, .inl ((same_new nq).seq hs), (xs.length : Int), rfl, by omega, by omega, for_range (lo := 0) (n := ((xs.length : Nat) : Int).toNat) (fun i σ' H' => ∃ (y : Option V), σ' = [some (.ref a), some (.ref q), y] ∧ Same H H' ∧ H' q = some (.lst (((rs.take i).map wordOf).map V.str)) ∧ ∀ (j : Nat) (r' : Ride), j < i → rs[j]? = some r' → bad r' = false) ?_ ?_ ?_⟩
    · exact ⟨none, rfl, same_new nq, upd_same, fun j _ h => absurd h (Nat.not_lt_zero _)⟩
    · rintro i σ' H1 hi ⟨y, rfl, s1, hq, hb⟩
      have hix : i < xs.length := by omega
      obtain ⟨r, t, er, ex, ht⟩ := ride_at (i := i) ha (List.getElem?_eq_getElem hix)
      have hat : atI xs (0 + (i : Int)) = some (.ref t) := by
        rw [Int.zero_add]
        exact atI_nat (by rw [List.getElem?_eq_getElem hix, ex])
      have hs1 := s1.seq hs
      have ht1 := Same.tup s1 ht
      have hb2 : bad r = false → ∀ (j : Nat) (r' : Ride), j < i + 1 → rs[j]? = some r' → bad r' = false := fun h j r' hj e => by
        by_cases e2 : j = i
        · subst e2
          rw [er] at e
          cases e
          exact h
        · exact hb j r' (by omega) e
      have bd : bad r = true → ∀ H' q t, Same H H' → H' q = some (.lst [.ref t]) → H' t = some (.tup [.str "BadRide", .int (0 + (i : Int))]) → Q (.ref q) H' := fun h H' q t s1 e1 e2 => qB i r er h hb H' q t s1 e1 (by rw [e2, Int.zero_add])
      have hrg : (decide (r.1 < 0) || decide (r.1 > 99)) = !(decide ((0 : Int) ≤ r.1) && decide (r.1 ≤ 99)) := by
        by_cases a1 : (0 : Int) ≤ r.1
        · by_cases a2 : r.1 ≤ 99
          · simp [a1, a2, show ¬ r.1 < 0 by omega, show ¬ r.1 > 99 by omega]
          · simp [a1, a2, show ¬ r.1 < 0 by omega, show r.1 > 99 by omega]
        · simp [a1, show r.1 < 0 by omega]
      have bdr : (decide (r.1 < 0) || decide (r.1 > 99)) = true → bad r = true := fun h => by
        unfold bad
        rw [← hrg, h]
        rfl
      refine ⟨_, rfl, _, rfl, a, xs, _, _, rfl, rfl, hs1, hat, t, _, 0, _, rfl, rfl, ht1, atI_nat (j := 0) rfl, _, _, rfl, rfl, _, rfl, ite2 (fun z => ?_) (fun z => ?_)⟩
      · have z : decide (r.1 < 0) = true := z
        have hbad := bdr (by rw [z]; rfl)
        exact ⟨_, rfl, (by show 2 ≤ sizeLine; rw [sizeLine_eq]; decide), fun t2 nt2 => ⟨(by show 1 ≤ sizeLine; rw [sizeLine_eq]; decide), fun p np => bd hbad _ p t2 ((s1.trans (same_new nt2)).trans (same_new np)) upd_same (same_new np _ _ upd_same)⟩⟩
      · refine ⟨_, rfl, _, rfl, a, xs, _, _, rfl, rfl, hs1, hat, t, _, 0, _, rfl, rfl, ht1, atI_nat (j := 0) rfl, _, _, rfl, rfl, _, rfl, ite2 (fun z2 => ?_) (fun z2 => ?_)⟩
        · have z2 : decide (99 < r.1) = true := z2
          have hbad := bdr (by rw [show decide (r.1 > 99) = true from z2, Bool.or_true])
          exact ⟨_, rfl, (by show 2 ≤ sizeLine; rw [sizeLine_eq]; decide), fun t2 nt2 => ⟨(by show 1 ≤ sizeLine; rw [sizeLine_eq]; decide), fun p np => bd hbad _ p t2 ((s1.trans (same_new nt2)).trans (same_new np)) upd_same (same_new np _ _ upd_same)⟩⟩
        · refine ⟨_, rfl, _, rfl, a, xs, _, _, rfl, rfl, hs1, hat, t, _, 1, _, rfl, rfl, ht1, atI_nat (j := 1) rfl, ?_⟩
          refine ⟨(by show 2 ≤ sizeLine; rw [sizeLine_eq]; decide), fun t3 nt3 => ?_⟩
          have s3 := s1.trans (same_new (o := .tup [.str "red", .str "blue"]) nt3)
          have hrng : (!(decide ((0 : Int) ≤ r.1) && decide (r.1 ≤ 99))) = false := by
            rw [← hrg, Bool.or_eq_false_iff]
            exact ⟨Bool.eq_false_iff.mpr z, Bool.eq_false_iff.mpr z2⟩
          refine ⟨t3, _, rfl, .inr (SqT.of upd_same), rfl, rfl, _, rfl, ite2 (fun z4 => ?_) (fun z4 => ?_)⟩
          · have z4 : (!inV (.str r.2) [.str "red", .str "blue"]) = true := z4
            rw [in_col] at z4
            have hbad : bad r = true := by unfold bad; rw [hrng, z4]; rfl
            exact ⟨_, rfl, (by show 2 ≤ sizeLine; rw [sizeLine_eq]; decide), fun t2 nt2 => ⟨(by show 1 ≤ sizeLine; rw [sizeLine_eq]; decide), fun p np => bd hbad _ p t2 ((s3.trans (same_new nt2)).trans (same_new np)) upd_same (same_new np _ _ upd_same)⟩⟩
          · have z4 : ¬ (!inV (.str r.2) [.str "red", .str "blue"]) = true := z4
            rw [in_col] at z4
            have hgood : bad r = false := by unfold bad; rw [hrng]; simpa using z4
            obtain ⟨n, hn, e1, e2⟩ := good_of hgood
            obtain ⟨rn, col⟩ := r
            dsimp only at e1 e2
            subst e1
            have hc : (tl col)[0]? = some (col.cps.getD 0 0) := by
              rcases e2 with rfl | rfl <;> decide +kernel
            have hcl : col.length ≤ sizeLine := by
              rw [sizeLine_eq]
              rcases e2 with rfl | rfl <;> decide +kernel
            have hq3 := same_new (o := .tup [.str "red", .str "blue"]) nt3 _ _ hq
            have hs3 := s3.seq hs
            have ht3 := Same.tup s3 ht
            have hwl := word_len hgood
            refine ⟨_, rfl, .inl ⟨rfl, _, SqL.of hq3⟩, _, rfl, _, rfl, a, xs, _, _, rfl, rfl, hs3, hat, t, _, 1, _, rfl, rfl, ht3, atI_nat (j := 1) rfl, col, 0, _, rfl, rfl, hcl, atI_nat (j := 0) hc, ?_⟩
            refine ⟨_, rfl, _, rfl, a, xs, _, _, rfl, rfl, hs3, hat, t, _, 0, _, rfl, rfl, ht3, atI_nat (j := 0) rfl, _, rfl, log_small (by omega), _, _, rfl, rfl, ?_, q, _, _, rfl, rfl, hq3, ?_, ?_⟩
            · show (⟨#[col.cps.getD 0 0]⟩ : Str).length + (Str.ofString (toString (n : Int))).length ≤ sizeLine
              have : (wordOf ((n : Int), col)).length = (⟨#[col.cps.getD 0 0]⟩ : Str).length + (Str.ofString (toString (n : Int))).length := by
                rw [len_tl, len_tl, len_tl]
                unfold wordOf
                rw [tl_append, List.length_append]
              rw [← this, sizeLine_eq]
              omega
            · rw [List.length_map, List.length_map, List.length_take, sizeLine_eq]
              omega
            · refine ⟨_, rfl, same_upd s3 nq, ?_, hb2 hgood⟩
              rw [upd_same, List.take_add_one, er, List.map_append, List.map_append]
              rfl
    · rintro σ' H1 ⟨y, rfl, s1, hq, hb⟩
      have good : ∀ r ∈ rs, bad r = false := fun r hr => by
        obtain ⟨j, hj⟩ := List.mem_iff_getElem?.mp hr
        have := (List.getElem?_eq_some_iff.mp hj).1
        exact hb j r (by omega) hj
      have e : rs.take ((xs.length : Nat) : Int).toNat = rs := List.take_of_length_le (by omega)
      rw [e] at hq
      refine ⟨⟨_, rfl⟩, _, rfl, _, q, rs.map wordOf, rfl, rfl, .inl (SqL.of hq), ?_, (by show 1 ≤ sizeLine; rw [sizeLine_eq]; decide), fun p np => qG good _ p (s1.trans (same_new np)) upd_same⟩
      have := sum_le3 good
      have h1 : (" " : Str).length = 1 := by decide +kernel
      rw [List.length_map, h1]
      omega
end
end Tw

namespace Tw
open PySem PySem.Spec PyProof.Rows L2 TL
theorem ride_form {z : Str} {r : Ride} (h : rideOf z = some r) : ∃ n c, n < 100 ∧ (c = 114 ∨ c = 98) ∧ tl z = c :: numT n := by
  obtain ⟨g, rfl⟩ := word_ride h
  obtain ⟨n, hn, e1, e2⟩ := good_of g
  obtain ⟨i, c⟩ := r
  dsimp only at e1 e2
  subst e1
  refine ⟨n, c.cps.getD 0 0, hn, ?_, tl_word hn⟩
  rcases e2 with rfl | rfl
  · exact .inl cps_red
  · exact .inr cps_blue
theorem ride_none {z : Str} (h : ∀ n c, n < 100 → (c = 114 ∨ c = 98) → tl z ≠ c :: numT n) : rideOf z = none := by
  cases e : rideOf z with
  | none => rfl
  | some r =>
    obtain ⟨n, c, h1, h2, h3⟩ := ride_form e
    exact absurd h3 (h n c h1 h2)
theorem numT_len {n : Nat} (h : n < 100) : (numT n).length = 1 ∨ ((numT n).length = 2 ∧ (numT n)[0]? ≠ some 48) := by
  unfold numT
  by_cases h1 : n < 10
  · rw [if_pos h1]; exact .inl rfl
  · rw [if_neg h1]
    exact .inr ⟨rfl, fun z => by simp at z; omega⟩
theorem numT_dig {n : Nat} (h : n < 100) : ∀ c ∈ numT n, isDig c = true := fun c hc => by
  unfold numT at hc
  split at hc <;> simp at hc <;> (rw [isDig_iff]; omega)
theorem chr_eq {c d : Nat} : decide (V.str ⟨#[c]⟩ = V.str ⟨#[d]⟩) = decide (c = d) := by
  by_cases h : c = d
  · subst h; simp
  · rw [decide_eq_false h, decide_eq_false]
    intro e
    injection e with e
    injection e with e
    exact h (by simpa using e)
theorem in_rb (c : Nat) : inV (.str ⟨#[c]⟩) [.str "r", .str "b"] = (decide (c = 114) || decide (c = 98)) := by
  show ((("r" : Str) == ⟨#[c]⟩) || ((("b" : Str) == ⟨#[c]⟩) || false)) = _
  rw [Bool.or_false]
  have e : ∀ (z : Str) (d : Nat), z = ⟨#[d]⟩ → (z == ⟨#[c]⟩) = decide (c = d) := fun z d hz => by
    subst hz
    by_cases h : c = d
    · subst h; simp
    · rw [decide_eq_false h]
      simpa using fun q => h q.symm
  rw [e "r" 114 (by decide +kernel), e "b" 98 (by decide +kernel)]
section
variable {P : Program} {w : World} {K : PySem.W.Frag} {mg : Str → Option Value} {base : Heap} {A₀ : Ad}
def spRideOf (K : PySem.W.Frag) : Sp := fun vs H Q _ => ∃ z : Str, vs = [.str z] ∧ z.length ≤ 1000000 ∧ (rideOf z = none → ∀ H' q, Same H H' → H' q = some (.lst []) → Q (.ref q) H') ∧
  ∀ r, rideOf z = some r → ∀ H' q t, Same H H' → H' q = some (.lst [.ref t]) → H' t = some (.tup [.int r.1, .str r.2]) → Q (.ref q) H'
theorem cal__law_ride_of (T : Txt P w K mg base A₀) : Cal P w K mg base CX0 "_law_ride_of" 1 ["word"] (spRideOf K) := by
  refine cal_of T.d__law_ride_of sc__law_ride_of b__law_ride_of (fun vs H Q E h => ?_) (fun f cdv A outer s H vs Q E hr h => ?_)
  · obtain ⟨z, rfl, _⟩ := h
    rfl
  · obtain ⟨z, rfl, hz, q0, q1⟩ := h
    refine ⟨_, (pss_cons (ps_if (PW.pt (pw_or (pt_cmpR op_lt (pe_callB call_len_str (by rfl) T.n_len PySem.boot_len (pa_cons (pv 0) pa_nil)) pe_int (nomark _)) (pw_or (pt_cmpR op_gt (pe_callB call_len_str (by rfl) T.n_len PySem.boot_len (pa_cons (pv 0) pa_nil)) pe_int (nomark _)) (pw_or1 (pt_cmpR op_notIn_seq (pe_ix ix_str (pv 0) pe_int (fun _ _ => rfl)) (pe_tup (pa_cons pe_str (pa_cons pe_str pa_nil))) (by rfl)))))) (pss_one (ps_ret (pe_lst pa_nil))) pss_nil)
  (pss_cons (ps_for PassesOwn.never rfl (pi_str (pe_slice sl_str (pv 0) (po_some pe_int) po_none)) (pg_name (i := 1) sc__law_ride_of.nd rfl (Or.inl rfl)) (pss_one (ps_if (pt_cmpR op_notIn_sign (pv 1) pe_str (by rfl)) (pss_one (ps_ret (pe_lst pa_nil))) pss_nil)))
  (pss_cons (ps_if (PW.pt (pw_and (pt_cmpR op_eq (pe_callB call_len_str (by rfl) T.n_len PySem.boot_len (pa_cons (pv 0) pa_nil)) pe_int (nomark _)) (pw_and1 (pt_cmpR op_eq (pe_ix ix_str (pv 0) pe_int (fun _ _ => rfl)) pe_str (nomark _))))) (pss_one (ps_ret (pe_lst pa_nil))) pss_nil)
  (pss_one (ps_ret (pe_lst (pa_cons (pe_tup (pa_cons (pe_callTy call_int_str (by rfl) T.n_int (by decide +kernel) (pa_cons (pe_slice sl_str (pv 0) (po_some pe_int) po_none) pa_nil)) (pa_cons (pe_dget (hu_of hr) (pe_disp (pps_cons pe_str pe_str (pps_cons pe_str pe_str pps_nil)) (by rfl) (by rfl) (fun z => by cases z) (by decide)) (pe_ix ix_str (pv 0) pe_int (fun _ _ => rfl)) (fun _ _ => rfl)) pa_nil))) pa_nil))))))), ?_⟩
    have hzl : z.length ≤ sizeLine := by rw [sizeLine_eq]; omega
    have hlen := len_tl z
    have sr := Same.refl H
    refine ⟨_, rfl, z, rfl, hzl, _, _, rfl, rfl, _, rfl, ite2 (fun a1 => ?_) (fun a1 => ?_)⟩
    · have a1 := of_decide_eq_true a1
      have hno : rideOf z = none := ride_none fun n c hn _ e => by
        have := numT_len hn
        rw [hlen, e, List.length_cons] at a1
        omega
      exact ⟨(by show 0 ≤ sizeLine; exact Nat.zero_le _), fun p np => q0 hno _ p (sr.trans (same_new np)) upd_same⟩
    have a1 : ¬ ((z.length : Int) < 2) := fun h => a1 (decide_eq_true h)
    show tOr _ _ _ _ _
    refine ⟨_, rfl, z, rfl, hzl, _, _, rfl, rfl, _, rfl, ite2 (fun a2 => ?_) (fun a2 => ?_)⟩
    · have a2 := of_decide_eq_true a2
      have hno : rideOf z = none := ride_none fun n c hn _ e => by
        have := numT_len hn
        rw [hlen, e, List.length_cons] at a2
        omega
      exact ⟨(by show 0 ≤ sizeLine; exact Nat.zero_le _), fun p np => q0 hno _ p (sr.trans (same_new np)) upd_same⟩
    have a2 : ¬ ((3 : Int) < (z.length : Int)) := fun h => a2 (decide_eq_true h)
    obtain ⟨c, l, ez⟩ : ∃ c l, tl z = c :: l := by
      cases e : tl z with
      | nil => rw [hlen, e] at a1; exact absurd (by decide) a1
      | cons c l => exact ⟨c, l, rfl⟩
    have hll : l.length = 1 ∨ l.length = 2 := by
      rw [hlen, ez, List.length_cons] at a1 a2
      omega
    have hz0 : (tl z)[0]? = some c := by rw [ez]; rfl
    refine ⟨_, rfl, z, 0, c, rfl, rfl, hzl, atI_nat (j := 0) hz0, (by show 2 ≤ sizeLine; rw [sizeLine_eq]; decide), fun t nt => ⟨t, _, rfl, .inr (SqT.of upd_same), rfl, rfl, _, rfl, ite2 (fun a3 => ?_) (fun a3 => ?_)⟩⟩
    · have a3 : (!inV (.str ⟨#[c]⟩) [.str "r", .str "b"]) = true := a3
      rw [in_rb] at a3
      have hno : rideOf z = none := ride_none fun n d hn hd e => by
        rw [ez] at e
        injection e with e _
        subst e
        rcases hd with rfl | rfl <;> simp at a3
      have st := same_new (o := .tup [.str "r", .str "b"]) nt
      exact ⟨(by show 0 ≤ sizeLine; exact Nat.zero_le _), fun p np => q0 hno _ p (st.trans (same_new np)) upd_same⟩
    have a3 : ¬ (!inV (.str ⟨#[c]⟩) [.str "r", .str "b"]) = true := a3
    rw [in_rb] at a3
    have hc : c = 114 ∨ c = 98 := by
      by_cases h : c = 114
      · exact .inl h
      · by_cases h2 : c = 98
        · exact .inr h2
        · exact absurd (by rw [decide_eq_false h, decide_eq_false h2]; rfl) a3
    have ecut : tl (cutS z (some 1) none) = l := by
      show ((tl z).drop (HT.sIx z.length 0 (some 1))).take (HT.sIx z.length z.length none - HT.sIx z.length 0 (some 1)) = _
      rw [HT.sIx_none, show HT.sIx z.length 0 (some 1) = min 1 z.length from HT.sIx_nat _ _ 1, len_tl, ez, List.length_cons, Nat.min_eq_left (by omega)]
      exact List.take_of_length_le (by simp)
    have st := same_new (o := .tup [.str "r", .str "b"]) nt
    refine ⟨_, rfl, 1, rfl, z, rfl, hzl, _, rfl, for_it (walk_str (z := cutS z (some 1) none)) (fun i σ' H' => (∃ y, σ' = [some (.str z), y]) ∧ Same H H' ∧ ∀ j d, j < i → l[j]? = some d → isDig d = true) ⟨⟨none, rfl⟩, st, fun j d h => absurd h (Nat.not_lt_zero _)⟩ (fun _ _ _ _ _ => trivial) ?_ ?_⟩
    · rintro i x σ' H1 H2 hi ⟨⟨y, rfl⟩, s1, hd⟩ ⟨rfl, d, hd0, rfl⟩
      have hd' : l[i]? = some d := by rw [← ecut, ← hd0]; simp [tl]
      refine ⟨_, rfl, d, _, rfl, rfl, _, rfl, ite2 (fun a4 => ?_) (fun a4 => ?_)⟩
      · have a4 : (!isDig d) = true := a4
        have hno : rideOf z = none := ride_none fun n c' hn _ e => by
          rw [ez] at e
          injection e with _ e
          have h2 := numT_dig hn d (by rw [← e]; exact List.mem_of_getElem? hd')
          rw [h2] at a4
          cases a4
        exact ⟨(by show 0 ≤ sizeLine; exact Nat.zero_le _), fun p np => q0 hno _ p (s1.trans (same_new np)) upd_same⟩
      · have a4 : ¬ (!isDig d) = true := a4
        refine ⟨⟨_, rfl⟩, s1, fun j d' hj e => ?_⟩
        by_cases ej : j = i
        · subst ej
          rw [hd'] at e
          cases e
          simpa using a4
        · exact hd j d' (by omega) e
    · rintro σ' H1 ⟨⟨y, rfl⟩, s1, hd⟩
      have hcs : (cutS z (some 1) none).cps.size = l.length := by rw [← ecut]; simp [tl]
      rw [hcs] at hd
      have hdig : (l.map fun c => !isDig c).any id = false := by
        rw [List.any_eq_false]
        intro x hx
        obtain ⟨d, hd1, rfl⟩ := List.mem_map.mp hx
        obtain ⟨j, hj⟩ := List.mem_iff_getElem?.mp hd1
        have := hd j d (List.getElem?_eq_some_iff.mp hj).1 hj
        simp [this]
      have fin : (l.length = 1 ∨ (l.length = 2 ∧ l[0]? ≠ some 48)) → tRet (tLst (tCons (tTup (tCons (tCB (fun xs H Q => ∃ a n, xs = [V.str a] ∧ intText? a = some n ∧ a.length ≤ 640 ∧ Q (V.int n) H) (tCons (tSl rSlS (tVar 0) (tPart (tC (V.int 1))) tNoPart) tNil)) (tCons (tDGet (tDisp [(tC (V.str (Str.ofString "r")), tC (V.str (Str.ofString "red"))), (tC (V.str (Str.ofString "b")), tC (V.str (Str.ofString "blue")))]) (tOp rIxS (tVar 0) (tC (V.int 0)))) tNil))) tNil)) { nx := fun x H' => Q V.non H', rt := Q } [some (.str z), y] H1 := fun h => by
        obtain ⟨n, hn⟩ := num_1 hdig h
        have hn' := num_int (w := cutS z (some 1) none) (by rw [ecut]; exact hn)
        refine ⟨_, rfl, 1, rfl, z, rfl, hzl, _, n, rfl, hn'.1, hn'.2, fun p np => ⟨upd_same, [(.inr "r", .str "red"), (.inr "b", .str "blue")], rfl, (by decide), ?_⟩⟩
        obtain ⟨col, hcol, hro⟩ : ∃ col : Str, valV (mergeK [] [(.inr "r", V.str "red"), (.inr "b", V.str "blue")]) (.inr ⟨#[c]⟩ : Key) = some (V.str col) ∧ rideOf z = some ((n, col) : Ride) := by
          unfold rideOf
          simp only [ez, hn]
          rcases hc with rfl | rfl
          · exact ⟨"red", rfl, rfl⟩
          · exact ⟨"blue", rfl, rfl⟩
        refine ⟨_, rfl, z, 0, c, rfl, rfl, hzl, atI_nat (j := 0) hz0, p, .str col, rfl, ?_, (by show 2 ≤ sizeLine; rw [sizeLine_eq]; decide), fun t2 nt2 => ⟨(by show 1 ≤ sizeLine; rw [sizeLine_eq]; decide), fun q nq => ?_⟩⟩
        · rw [← hcol]
          exact DGet.k (k := .inr ⟨#[c]⟩) upd_same
        · refine q1 _ hro _ q t2 ?_ upd_same (same_new nq _ _ upd_same)
          have e2 : ∀ {o1 o2 : HO}, Same H (upd (upd H1 p o1) p o2) := by
            intro o1 o2
            rw [upd_upd]
            exact s1.trans (same_new np)
          exact (e2.trans (same_new nt2)).trans (same_new nq)
      have hz1 : ∃ d, (tl z)[1]? = some d ∧ l[0]? = some d := by
        rw [ez]
        cases l with
        | nil => simp at hll
        | cons d l' => exact ⟨d, rfl, rfl⟩
      obtain ⟨d, hz1, hl0⟩ := hz1
      refine ⟨_, rfl, z, rfl, hzl, rfl, _, rfl, ite2 (fun b1 => ?_) (fun b1 => ?_)⟩
      · have b1 : ((z.length : Nat) : Int) = 3 := by
          have := of_decide_eq_true b1
          injection this
        have hl2 : l.length = 2 := by
          rw [hlen, ez, List.length_cons] at b1
          omega
        refine ⟨_, rfl, z, 1, d, rfl, rfl, hzl, atI_nat (j := 1) hz1, rfl, _, rfl, ite2 (fun b2 => ?_) (fun b2 => ?_)⟩
        · have b2 : decide (V.str ⟨#[d]⟩ = V.str ⟨#[48]⟩) = true := b2
          rw [chr_eq] at b2
          have b2 := of_decide_eq_true b2
          subst b2
          have hno : rideOf z = none := ride_none fun n c' hn _ e => by
            rw [ez] at e
            injection e with _ e
            have := numT_len hn
            rw [← e] at this
            rcases this with h | h
            · omega
            · exact h.2 hl0
          exact ⟨(by show 0 ≤ sizeLine; exact Nat.zero_le _), fun p np => q0 hno _ p (s1.trans (same_new np)) upd_same⟩
        · refine fin (.inr ⟨hl2, fun h => b2 ?_⟩)
          rw [hl0] at h
          cases h
          show decide (V.str ⟨#[48]⟩ = V.str ⟨#[48]⟩) = true
          rw [chr_eq]
          rfl
      · refine fin (hll.imp id fun h => absurd ?_ b1)
        refine decide_eq_true ?_
        rw [hlen, ez, List.length_cons, h]
        rfl
end
end Tw

namespace Tw
open PySem PySem.Spec PyProof.Rows L2 TL
theorem lay_rides : ∀ (rs : List Ride), (∀ r ∈ rs, (PyData.str r.2).canLay0 = true) → PyData.canLayAll0 (rs.map rideD) = true ∧ PyData.depthAll (rs.map rideD) ≤ 1
  | [], _ => ⟨by simp [PyData.canLayAll0], by simp [PyData.depthAll]⟩
  | r :: rs, h => by
    obtain ⟨i1, i2⟩ := lay_rides rs fun x hx => h x (List.mem_cons_of_mem _ hx)
    have h1 := h r List.mem_cons_self
    have e1 : (rideD r).canLay0 = true := by
      unfold rideD
      simp only [PyData.canLay0, PyData.canLayAll0, Bool.and_true, Bool.true_and] at h1 ⊢
      exact h1
    have e2 : (rideD r).depth = 1 := by
      unfold rideD
      simp only [PyData.depth, PyData.depthAll]
      rfl
    refine ⟨?_, ?_⟩
    · rw [List.map_cons]
      simp only [PyData.canLayAll0, e1, i1, Bool.and_self]
    · rw [List.map_cons]
      simp only [PyData.depthAll, e2]
      omega
theorem shaped_rides {rs : List Ride} (h : ∀ r ∈ rs, (PyData.str r.2).canLay0 = true) : SeqAt.shaped (.list (rs.map rideD)) = true := by
  obtain ⟨h1, h2⟩ := lay_rides rs h
  unfold SeqAt.shaped
  rw [Bool.and_eq_true_iff]
  refine ⟨by simp only [PyData.canLay0]; exact h1, decide_eq_true ?_⟩
  simp only [PyData.depth]
  omega
theorem lay_good {r : Ride} (h : bad r = false) : (PyData.str r.2).canLay0 = true := by
  obtain ⟨_, _, _, e⟩ := good_of h
  rcases e with e | e <;> (rw [e]; decide +kernel)
section
variable {P : Program} {w : World} {K : PySem.W.Frag} {mg : Str → Option Value} {base : Heap} {A₀ : Ad}
def spTextDue (K : PySem.W.Frag) : Sp := fun vs H Q _ => ∃ z : Str, vs = [.str z] ∧ z.length ≤ 1000000 ∧
  (∀ rs : List Ride, (wordsOf z).map rideOf = rs.map some → ∀ H' q p ys, Same H H' → H' q = some (.lst [.ref p]) → H' p = some (.lst ys) → DpAll K H' ys (rs.map rideD) → Q (.ref q) H') ∧
  ∀ (k : Nat), ((wordsOf z).map rideOf)[k]? = some none → (∀ j, j < k → ((wordsOf z).map rideOf)[j]? ≠ some none) → ∀ H' q t, Same H H' → H' q = some (.lst [.ref t]) → H' t = some (.tup [.str "BadWord", .int (k : Int)]) → Q (.ref q) H'
theorem cal__law_text_due (T : Txt P w K mg base A₀) : Cal P w K mg base CX0 "_law_text_due" 2 ["text"] (spTextDue K) := by
  have c__law_ride_of := cal__law_ride_of T
  refine cal_of T.d__law_text_due sc__law_text_due b__law_text_due (fun vs H Q E h => ?_) (fun f cdv A outer s H vs Q E hr h => ?_)
  · obtain ⟨z, rfl, _⟩ := h
    rfl
  · obtain ⟨z, rfl, hz, qG, qB⟩ := h
    refine ⟨_, (pss_cons (ps_if (pt_cmpR op_eq (pv 0) pe_str (nomark _)) (pss_one (ps_ret (pe_lst (pa_cons (pe_lst pa_nil) pa_nil)))) pss_nil)
  (pss_cons (ps_set (i := 1) sc__law_text_due.nd rfl (Or.inl rfl) (pe_split (pv 0) pe_str))
  (pss_cons (ps_set (i := 2) sc__law_text_due.nd rfl (Or.inl rfl) (pe_lst pa_nil))
  (pss_cons (ps_for PassesOwn.never rfl (pi_range1 (by rfl) T.n_range (pa_cons (pe_callB call_len_seq (by rfl) T.n_len PySem.boot_len (pa_cons (pv 1) pa_nil)) pa_nil)) (pg_name (i := 3) sc__law_text_due.nd rfl (Or.inl rfl)) (pss_cons (ps_set (i := 4) sc__law_text_due.nd rfl (Or.inl rfl) (pe_cal c__law_ride_of (hr.mono (by first | exact Nat.le_refl _ | decide)) (by rfl) (pa_cons (pe_ix ix_list (pv 1) (pv 3) (fun _ _ => rfl)) pa_nil)))
  (pss_cons (ps_if (pt_cmpR (op_eqD hr.units) (pv 4) (pe_lst pa_nil) (nomark _)) (pss_one (ps_ret (pe_lst (pa_cons (pe_tup (pa_cons pe_str (pa_cons (pv 3) pa_nil))) pa_nil)))) pss_nil)
  (pss_one (ps_expr (pe_bm PySem.F.plainAttrs_list PySem.F.slot_list_append PySem.F.type_list_append mt_append (pv 2) (pa_cons (pe_ix ix_list (pv 4) pe_int (fun _ _ => rfl)) pa_nil)))))))
  (pss_one (ps_ret (pe_lst (pa_cons (pv 2) pa_nil)))))))), ?_⟩
    have hzl : z.length + 2 ≤ sizeLine := by rw [sizeLine_eq]; omega
    refine ⟨_, rfl, rfl, _, rfl, ite2 (fun e => ?_) (fun e => ?_)⟩
    · have e : z = "" := by
        have e' := of_decide_eq_true e
        injection e'
      have ew : wordsOf z = [] := by unfold wordsOf; rw [if_pos e]
      exact ⟨(by show 0 ≤ sizeLine; exact Nat.zero_le _), fun p np => ⟨(by show 1 ≤ sizeLine; rw [sizeLine_eq]; decide), fun q nq => qG [] (by rw [ew]; rfl) _ q p [] ((same_new np).trans (same_new nq)) upd_same (same_new nq _ _ upd_same) .nil⟩⟩
    have ew : wordsOf z = Txt.split z " " := by
      unfold wordsOf
      rw [if_neg]
      intro h
      exact e (by rw [h]; rfl)
    generalize ews : Txt.split z " " = ws at ew
    have hwl : ∀ y ∈ ws, y.length ≤ z.length := fun y hy => word_le (by rw [ews]; exact hy)
    have hwn : ws.length ≤ z.length + 1 := by rw [← ews]; exact words_le z
    rw [ew] at qG qB
    refine ⟨_, rfl, ⟨z, rfl⟩, z, _, rfl, rfl, (by decide +kernel), hzl, fun a na => ?_⟩
    rw [ews]
    refine ⟨(by show 0 ≤ sizeLine; exact Nat.zero_le _), fun q nq => ?_⟩
    have nqa : a ≠ q := fun h => by subst h; rw [upd_same] at nq; cases nq
    have nq0 : H q = none := by rw [← nq, upd_ne nqa.symm]
    have ha0 : ∀ {o : HO}, upd (upd H a (.lst (ws.map V.str))) q o a = some (.lst (ws.map V.str)) := by
      intro o
      rw [upd_ne nqa]
      exact upd_same
    refine ⟨_, rfl, a, _, rfl, .inl (SqL.of ha0), ((ws.map V.str).length : Int), rfl, by rw [List.length_map]; omega, by rw [List.length_map]; omega, for_range (lo := 0) (n := (((ws.map V.str).length : Nat) : Int).toNat) (fun i σ' H' => ∃ (y1 y2 : Option V) (ys : List V) (rs : List Ride), σ' = [some (.str z), some (.ref a), some (.ref q), y1, y2] ∧ Same H H' ∧ H' q = some (.lst ys) ∧ Rds H' ys rs ∧ (ws.take i).map rideOf = rs.map some ∧ H' a = some (.lst (ws.map V.str))) ?_ ?_ ?_⟩
    · exact ⟨none, none, [], [], rfl, (same_new na).trans (same_new nq), upd_same, .nil, rfl, ha0⟩
    · rintro i σ' H1 hi ⟨y1, y2, ys, rs, rfl, s1, hq, hr1, hm, ha⟩
      rw [List.length_map] at hi
      have hil : i < ws.length := by omega
      obtain ⟨y, ey⟩ : ∃ y, ws[i]? = some y := ⟨_, List.getElem?_eq_getElem hil⟩
      have hyl := hwl y (List.mem_of_getElem? ey)
      have hml : (ws.map rideOf)[i]? = some (rideOf y) := by rw [List.getElem?_map, ey]; rfl
      have hrl : rs.length = i := by
        have := congrArg List.length hm
        rw [List.length_map, List.length_map, List.length_take] at this
        omega
      have hpre : ∀ j, j < i → (ws.map rideOf)[j]? ≠ some none := fun j hj h => by
        have h2 : ((ws.take i).map rideOf)[j]? = some none := by rw [List.map_take, List.getElem?_take, if_pos hj]; exact h
        rw [hm, List.getElem?_map] at h2
        cases e : rs[j]? with
        | none => rw [e] at h2; cases h2
        | some r => rw [e] at h2; cases h2
      have hat : atI (ws.map V.str) (0 + (i : Int)) = some (.str y) := by
        rw [Int.zero_add]
        exact atI_nat (by rw [List.getElem?_map, ey]; rfl)
      refine ⟨_, rfl, _, rfl, a, _, _, _, rfl, rfl, SqL.of ha, hat, y, rfl, by omega, fun e H3 p s3 hp => ?_, fun r e H3 p t s3 hp ht => ?_⟩
      · refine ⟨_, rfl, (by show 0 ≤ sizeLine; rw [sizeLine_eq]; decide), fun n nn => ⟨.list [], .list [], .lst (SqL.of (same_new nn _ _ hp)) .nil, .lst (SqL.of upd_same) .nil, rfl, rfl, _, rfl, iteT ?_⟩⟩
        refine ⟨_, rfl, (by show 2 ≤ sizeLine; rw [sizeLine_eq]; decide), fun t nt => ⟨(by show 1 ≤ sizeLine; rw [sizeLine_eq]; decide), fun m nm => qB i (by rw [hml, e]) hpre _ m t ((((s1.trans s3).trans (same_new nn)).trans (same_new nt)).trans (same_new nm)) upd_same ?_⟩⟩
        refine same_new nm _ _ ?_
        rw [upd_same, Int.zero_add]
      · have htd : Dp K H3 (.ref p) (.list [.tuple [.int r.1, .str r.2]]) := .lst (SqL.of hp) (.cons (.tup (SqT.of ht) (.cons (.int _) (.cons (.str _) .nil))) .nil)
        refine ⟨_, rfl, (by show 0 ≤ sizeLine; rw [sizeLine_eq]; decide), fun n nn => ⟨_, .list [], Dp.same (same_new nn) htd, .lst (SqL.of upd_same) .nil, shaped_rides (rs := [r]) (fun x hx => by rw [List.mem_singleton.mp hx]; exact lay_good (word_ride e).1), rfl, _, rfl, iteF ?_⟩⟩
        have s4 : Same H3 (upd H3 n (.lst [])) := same_new nn
        have hq4 := s4 _ _ (s3 _ _ hq)
        refine ⟨_, rfl, .inl ⟨rfl, _, SqL.of hq4⟩, _, rfl, p, _, 0, _, rfl, rfl, SqL.of (s4 _ _ hp), atI_nat (j := 0) rfl, q, ys, .ref t, rfl, rfl, hq4, by rw [hr1.len, sizeLine_eq]; omega, ?_⟩
        refine ⟨_, _, _, rs ++ [r], rfl, same_upd ((s1.trans s3).trans s4) nq0, upd_same, ((hr1.lift (s3.trans s4)).snoc (r := r) (s4 _ _ ht)).set hq4, ?_, ?_⟩
        · rw [List.take_add_one, ey, List.map_append, List.map_append, hm]
          show _ ++ [rideOf y] = _
          rw [e]
          rfl
        · rw [upd_ne nqa]
          exact s4 _ _ (s3 _ _ ha)
    · rintro σ' H1 ⟨y1, y2, ys, rs, rfl, s1, hq, hr1, hm, ha⟩
      rw [List.take_of_length_le (by rw [List.length_map]; omega)] at hm
      exact ⟨_, rfl, (by show 1 ≤ sizeLine; rw [sizeLine_eq]; decide), fun m nm => qG rs hm _ m q ys (s1.trans (same_new nm)) upd_same (same_new nm _ _ hq) (hr1.lift (same_new nm)).dp⟩
end
end Tw

namespace Tw
open PySem PySem.Spec PyProof.Rows L2 TL
theorem Rds.app {H : Hp} : ∀ {ys zs : List V} {rs ss : List Ride}, Rds H ys rs → Rds H zs ss → Rds H (ys ++ zs) (rs ++ ss)
  | _, _, _, _, .nil, s => s
  | _, _, _, _, .cons h r, s => .cons h (Rds.app r s)
theorem Rds.take {H : Hp} : ∀ (k : Nat) {ys : List V} {rs : List Ride}, Rds H ys rs → Rds H (ys.take k) (rs.take k)
  | 0, _, _, _ => .nil
  | _ + 1, _, _, .nil => .nil
  | k + 1, _, _, .cons h r => .cons h (Rds.take k r)
theorem Rds.drop {H : Hp} : ∀ (k : Nat) {ys : List V} {rs : List Ride}, Rds H ys rs → Rds H (ys.drop k) (rs.drop k)
  | 0, _, _, h => h
  | _ + 1, _, _, .nil => .nil
  | k + 1, _, _, .cons h r => Rds.drop k r
/-- a ride whose text and number are small enough -/
def okR (r : Ride) : Prop := r.1.natAbs < 2 ^ 100 ∧ (PyData.str r.2).canLay0 = true
theorem okR_good {r : Ride} (h : bad r = false) : okR r := by
  obtain ⟨n, hn, e, _⟩ := good_of h
  exact ⟨by rw [e]; omega, lay_good h⟩
section
variable {P : Program} {w : World} {K : PySem.W.Frag} {mg : Str → Option Value} {base : Heap} {A₀ : Ad}
theorem Rds.settle {F H : Hp} {b : Addr} (B : Bag K F H b) {ys : List V} {rs : List Ride} (h : Rds H ys rs) : Rds (del H b) ys rs := h.mono fun p xs e => by
  rw [del_ne]
  · exact e
  · intro z
    subst z
    obtain ⟨xs, e2⟩ := B.is
    rw [e2] at e
    cases e
def spBent (K : PySem.W.Frag) : Sp := fun vs H Q _ => ∃ (F : Hp) (b a : Addr) (ys : List V) (rs : List Ride), vs = [.ref b, .ref a] ∧ Same F H ∧ Bag K F H b ∧ F a = some (.lst ys) ∧ Rds F ys rs ∧ rs.length ≤ 60 ∧ (∀ r ∈ rs, okR r) ∧
  ∀ F' H' q ys rs, Same F F' → Same F' H' → Bag K F' H' b → F' q = some (.lst ys) → Rds F' ys rs → rs.length ≤ 70 → (∀ r ∈ rs, okR r) → Q (.ref q) H'
theorem cal__law_bent (T : Txt P w K mg base A₀) : Cal P w K mg base CX0 "_law_bent" 3 ["bag", "rides"] (spBent K) := by
  have c__law_draw := cal__law_draw T
  refine cal_of T.d__law_bent sc__law_bent b__law_bent (fun vs H Q E h => ?_) (fun f cdv A outer s H vs Q E hr h => ?_)
  · obtain ⟨F, b, a, ys, rs, rfl, _⟩ := h
    rfl
  · obtain ⟨F, b, a, ys0, rs0, rfl, sF, B, hF, R0, l0, g0, q0⟩ := h
    refine ⟨_, (pss_cons (ps_set (i := 2) sc__law_bent.nd rfl (Or.inl rfl) (pe_callTy call_list_of (by rfl) T.n_list (by decide +kernel) (pa_cons (pv 1) pa_nil)))
  (pss_cons (ps_for PassesOwn.never rfl (pi_range1 (by rfl) T.n_range (pa_cons (pe_cal c__law_draw (hr.mono (by first | exact Nat.le_refl _ | decide)) (by rfl) (pa_cons (pv 0) (pa_cons pe_int pa_nil))) pa_nil)) (pg_name (i := 3) sc__law_bent.nd rfl (Or.inl rfl)) (pss_cons (ps_set (i := 4) sc__law_bent.nd rfl (Or.inl rfl) (pe_cal c__law_draw (hr.mono (by first | exact Nat.le_refl _ | decide)) (by rfl) (pa_cons (pv 0) (pa_cons pe_int pa_nil))))
  (pss_cons (ps_set (i := 5) sc__law_bent.nd rfl (Or.inl rfl) (pe_ix ix_list (pe_lst (pa_cons pe_str (pa_cons pe_str pa_nil))) (pe_cal c__law_draw (hr.mono (by first | exact Nat.le_refl _ | decide)) (by rfl) (pa_cons (pv 0) (pa_cons pe_int pa_nil))) (fun _ _ => rfl)))
  (pss_cons (ps_set (i := 6) sc__law_bent.nd rfl (Or.inl rfl) (pe_cal c__law_draw (hr.mono (by first | exact Nat.le_refl _ | decide)) (by rfl) (pa_cons (pv 0) (pa_cons pe_int pa_nil))))
  (Evl.pss_cut (ps_if (pt_cmpR op_eq (pv 6) pe_int (nomark _)) (pss_one (ps_set (i := 4) sc__law_bent.nd rfl (Or.inl rfl) (pe_op op_sub (pe_un un_neg pe_int) (pe_cal c__law_draw (hr.mono (by first | exact Nat.le_refl _ | decide)) (by rfl) (pa_cons (pv 0) (pa_cons pe_int pa_nil)))))) (pss_one (ps_if (pt_cmpR op_eq (pv 6) pe_int (nomark _)) (pss_one (ps_set (i := 4) sc__law_bent.nd rfl (Or.inl rfl) (pe_op op_add pe_int (pe_cal c__law_draw (hr.mono (by first | exact Nat.le_refl _ | decide)) (by rfl) (pa_cons (pv 0) (pa_cons pe_int pa_nil)))))) (pss_one (ps_if (pt_cmpR op_eq (pv 6) pe_int (nomark _)) (pss_one (ps_set (i := 4) sc__law_bent.nd rfl (Or.inl rfl) (pe_op op_sub (pe_op op_pow pe_int pe_int) (pe_cal c__law_draw (hr.mono (by first | exact Nat.le_refl _ | decide)) (by rfl) (pa_cons (pv 0) (pa_cons (pe_op op_pow pe_int pe_int) pa_nil)))))) (pss_one (ps_if (pt_cmpR op_eq (pv 6) pe_int (nomark _)) (pss_one (ps_set (i := 5) sc__law_bent.nd rfl (Or.inl rfl) (pe_ix ix_list (pe_lst (pa_cons pe_str (pa_cons pe_str (pa_cons pe_str (pa_cons pe_str (pa_cons pe_str (pa_cons pe_str (pa_cons pe_str (pa_cons pe_str pa_nil))))))))) (pe_cal c__law_draw (hr.mono (by first | exact Nat.le_refl _ | decide)) (by rfl) (pa_cons (pv 0) (pa_cons pe_int pa_nil))) (fun _ _ => rfl)))) (pss_one (ps_set (i := 4) sc__law_bent.nd rfl (Or.inl rfl) (pe_op op_add pe_int (pe_cal c__law_draw (hr.mono (by first | exact Nat.le_refl _ | decide)) (by rfl) (pa_cons (pv 0) (pa_cons pe_int pa_nil)))))))))))))
  (pss_one (ps_expr (pe_bm PySem.F.plainAttrs_list PySem.F.slot_list_insert PySem.F.type_list_insert mt_insert (pv 2) (pa_cons (pe_cal c__law_draw (hr.mono (by first | exact Nat.le_refl _ | decide)) (by rfl) (pa_cons (pv 0) (pa_cons (pe_op op_add (pe_callB call_len_seq (by rfl) T.n_len PySem.boot_len (pa_cons (pv 2) pa_nil)) pe_int) pa_nil))) (pa_cons (pe_tup (pa_cons (pv 4) (pa_cons (pv 5) pa_nil))) pa_nil))))))))))
  (pss_one (ps_ret (pv 2))))), ?_⟩
    refine ⟨_, rfl, a, ys0, rfl, .inl (SqL.of (sF _ _ hF)), fun q nq => ?_⟩
    have nqb := B.ne nq
    have nFq : F q = none := sF.free nq
    have R1 : Rds (upd H q (.lst ys0)) ys0 rs0 := (R0.lift sF).lift (same_new nq)
    refine ⟨_, rfl, F, b, 3, rfl, sF.trans (same_new nq), B.set nqb, by decide, by decide, fun n H1 n0 n3 k1 B1 => ?_⟩
    have s1 := same_draw k1 (sF.trans (same_new nq)) (B.set nqb)
    have h1 : H1 q = some (.lst ys0) := by rw [k1 q nqb.symm]; exact upd_same
    refine ⟨n, rfl, by omega, by omega, for_range (lo := 0) (n := n.toNat) (fun i σ' H' => ∃ (y1 y2 y3 y4 : Option V) (ys : List V) (rs : List Ride), σ' = [some (.ref b), some (.ref a), some (.ref q), y1, y2, y3, y4] ∧ Same F H' ∧ Bag K F H' b ∧ H' q = some (.lst ys) ∧ Rds H' ys rs ∧ rs.length ≤ 60 + i ∧ ∀ r ∈ rs, okR r) ?_ ?_ ?_⟩
    · exact ⟨none, none, none, none, ys0, rs0, rfl, s1, B1, h1, R1.draw k1 (B.set nqb), l0, g0⟩
    · rintro i σ' H4 hi ⟨y1, y2, y3, y4, ys, rs, rfl, s4, B4, h4, R4, l4, g4⟩
      refine ⟨_, rfl, F, b, 100, rfl, s4, B4, by decide, by decide, fun r5 H5 g5 f5 k5 B5 => ?_⟩
      have s5 := same_draw k5 s4 B4
      have q5 : H5 q = some (.lst ys) := by rw [k5 q nqb.symm]; exact h4
      have R5 := R4.draw k5 B4
      refine ⟨(by show 2 ≤ sizeLine; rw [sizeLine_eq]; decide), fun l nl => ?_⟩
      have nlb := B5.ne nl
      have s6 := s5.trans (same_new (o := .lst [.str "red", .str "blue"]) nl)
      refine ⟨_, rfl, F, b, 2, rfl, s6, B5.set nlb, by decide, by decide, fun r7 H7 g7 f7 k7 B7 => ?_⟩
      have s7 := same_draw k7 s6 (B5.set nlb)
      have q7 : H7 q = some (.lst ys) := by rw [k7 q nqb.symm]; exact same_new nl _ _ q5
      have R7 : Rds H7 ys rs := (R5.lift (same_new nl)).draw k7 (B5.set nlb)
      have l7 : H7 l = some (.lst [.str "red", .str "blue"]) := by rw [k7 l nlb.symm]; exact upd_same
      obtain ⟨col, hcol, hlay⟩ : ∃ col : Str, atI [V.str "red", V.str "blue"] r7 = some (.str col) ∧ (PyData.str col).canLay0 = true := by
        have e : r7 = 0 ∨ r7 = 1 := by omega
        rcases e with rfl | rfl
        · exact ⟨"red", atI_nat (j := 0) rfl, by decide +kernel⟩
        · exact ⟨"blue", atI_nat (j := 1) rfl, by decide +kernel⟩
      refine ⟨_, _, _, _, rfl, rfl, SqL.of l7, hcol, ?_⟩
      refine ⟨_, rfl, F, b, 5, rfl, s7, B7, by decide, by decide, fun pk H8 g8 f8 k8 B8 => ?_⟩
      have s8 := same_draw k8 s7 B7
      have q8 : H8 q = some (.lst ys) := by rw [k8 q nqb.symm]; exact q7
      have R8 := R7.draw k8 B7
      refine ⟨fun σ' H' => ∃ (m : Int) (col : Str), σ' = [some (.ref b), some (.ref a), some (.ref q), some (.int (0 + (i : Int))), some (.int m), some (.str col), some (.int pk)] ∧ okR (m, col) ∧ Same F H' ∧ Bag K F H' b ∧ H' q = some (.lst ys) ∧ Rds H' ys rs, ?_, ?_⟩
      · have fin : ∀ (m : Int) (c : Str) (H9 : Hp), m.natAbs < 2 ^ 100 → (PyData.str c).canLay0 = true → (∀ a, a ≠ b → H9 a = H8 a) → Bag K F H9 b → ∃ (m' : Int) (col' : Str), [some (V.ref b), some (.ref a), some (.ref q), some (.int (0 + (i : Int))), some (.int m), some (.str c), some (.int pk)] = [some (.ref b), some (.ref a), some (.ref q), some (.int (0 + (i : Int))), some (.int m'), some (.str col'), some (.int pk)] ∧ okR (m', col') ∧ Same F H9 ∧ Bag K F H9 b ∧ H9 q = some (.lst ys) ∧ Rds H9 ys rs := fun m c H9 hm hc k9 B9 =>
          ⟨m, c, rfl, ⟨hm, hc⟩, same_draw k9 s8 B8, B9, by rw [k9 q nqb.symm]; exact q8, R8.draw k9 B8⟩
        refine ⟨_, rfl, rfl, _, rfl, ite2 (fun _ => ?_) (fun _ => ⟨_, rfl, rfl, _, rfl, ite2 (fun _ => ?_) (fun _ => ⟨_, rfl, rfl, _, rfl, ite2 (fun _ => ?_) (fun _ => ⟨_, rfl, rfl, _, rfl, ite2 (fun _ => ?_) (fun _ => ?_)⟩)⟩)⟩)⟩
        · refine ⟨_, rfl, _, rfl, F, b, 10, rfl, s8, B8, by decide, by decide, fun r9 H9 g9 f9 k9 B9 => ⟨_, _, rfl, rfl, ?_⟩⟩
          exact fin _ col H9 (by omega) hlay k9 B9
        · refine ⟨_, rfl, F, b, 30, rfl, s8, B8, by decide, by decide, fun r9 H9 g9 f9 k9 B9 => ⟨_, _, rfl, rfl, ?_⟩⟩
          exact fin _ col H9 (by omega) hlay k9 B9
        · refine ⟨_, _, rfl, rfl, ⟨by decide, by decide, by decide⟩, _, rfl, _, _, rfl, rfl, ⟨by decide, by decide, by decide⟩, F, b, 10 ^ 6, rfl, s8, B8, by decide, by decide, fun r9 H9 g9 f9 k9 B9 => ⟨_, _, rfl, rfl, ?_⟩⟩
          have e17 : ((10 : Int) ^ Int.toNat 17) = 100000000000000000 := by decide
          exact fin _ col H9 (by rw [e17]; omega) hlay k9 B9
        · refine ⟨(by show 8 ≤ sizeLine; rw [sizeLine_eq]; decide), fun l2 nl2 => ?_⟩
          have nlb2 := B8.ne nl2
          generalize ecs : [V.str (Str.ofString ""), V.str (Str.ofString "Red"), V.str (Str.ofString "BLUE"), V.str (Str.ofString "green"), V.str (Str.ofString "r"), V.str (Str.ofString "b"), V.str (Str.ofString "both"), V.str (Str.ofString "red ")] = cs at nl2 ⊢
          have s9 := s8.trans (same_new (o := .lst cs) nl2)
          refine ⟨_, rfl, F, b, 8, rfl, s9, B8.set nlb2, by decide, by decide, fun r9 H9 g9 f9 k9 B9 => ?_⟩
          have l9 : H9 l2 = some (.lst cs) := by rw [k9 l2 nlb2.symm]; exact upd_same
          obtain ⟨c, hc, hlc⟩ : ∃ c : Str, atI cs r9 = some (.str c) ∧ (PyData.str c).canLay0 = true := by
            have all : ∀ j < 8, ∃ c : Str, cs[j]? = some (.str c) ∧ (PyData.str c).canLay0 = true := by
              intro j hj
              subst ecs
              match j, hj with
              | 0, _ => exact ⟨_, rfl, by decide +kernel⟩
              | 1, _ => exact ⟨_, rfl, by decide +kernel⟩
              | 2, _ => exact ⟨_, rfl, by decide +kernel⟩
              | 3, _ => exact ⟨_, rfl, by decide +kernel⟩
              | 4, _ => exact ⟨_, rfl, by decide +kernel⟩
              | 5, _ => exact ⟨_, rfl, by decide +kernel⟩
              | 6, _ => exact ⟨_, rfl, by decide +kernel⟩
              | 7, _ => exact ⟨_, rfl, by decide +kernel⟩
            obtain ⟨c, h1, h2⟩ := all r9.toNat (by omega)
            have h3 := atI_nat h1
            rw [Int.toNat_of_nonneg g9] at h3
            exact ⟨c, h3, h2⟩
          refine ⟨_, _, _, _, rfl, rfl, SqL.of l9, hc, ?_⟩
          exact ⟨_, _, rfl, ⟨by show r5.natAbs < _; omega, hlc⟩, same_draw k9 s9 (B8.set nlb2), B9, by rw [k9 q nqb.symm]; exact same_new nl2 _ _ q8, (R8.lift (same_new nl2)).draw k9 (B8.set nlb2)⟩
        · refine ⟨_, rfl, F, b, 3, rfl, s8, B8, by decide, by decide, fun r9 H9 g9 f9 k9 B9 => ⟨_, _, rfl, rfl, ?_⟩⟩
          exact fin _ col H9 (by omega) hlay k9 B9
      · rintro σ' H9 ⟨m, col, rfl, hok, s9, B9, q9, R9⟩
        refine ⟨_, rfl, .inl ⟨rfl, _, SqL.of q9⟩, _, rfl, _, rfl, q, _, rfl, .inl (SqL.of q9), _, _, rfl, rfl, F, b, _, rfl, s9, B9, by omega, ?_, fun r10 H10 g10 f10 k10 B10 => ?_⟩
        · show (ys.length : Int) + 1 < 1073741824
          rw [R9.len]
          have : i < 3 := by omega
          omega
        have s10 := same_draw k10 s9 B9
        have q10 : H10 q = some (.lst ys) := by rw [k10 q nqb.symm]; exact q9
        have R10 := R9.draw k10 B9
        refine ⟨_, rfl, _, rfl, (by show 2 ≤ sizeLine; rw [sizeLine_eq]; decide), fun t nt => ⟨q, ys, r10, .ref t, rfl, rfl, same_new nt _ _ q10, ?_, g10, ?_, ?_⟩⟩
        · rw [R9.len, sizeLine_eq]; omega
        · have f10 : r10 < (ys.length : Int) + 1 := f10
          rw [R9.len] at f10
          omega
        · refine ⟨_, _, _, _, _, rs.take r10.toNat ++ [(m, col)] ++ rs.drop r10.toNat, rfl, same_upd (s10.trans (same_new nt)) nFq, (B10.set (B10.ne nt)).set nqb, upd_same, ?_, ?_, ?_⟩
          · refine Rds.set (same_new nt _ _ q10) ?_
            have R11 := R10.lift (same_new (o := .tup [.int m, .str col]) nt)
            exact ((R11.take _).app (.cons upd_same .nil)).app (R11.drop _)
          · rw [List.length_append, List.length_append, List.length_take, List.length_drop, List.length_singleton]
            omega
          · intro r hr
            rcases List.mem_append.mp hr with hr | hr
            · rcases List.mem_append.mp hr with hr | hr
              · exact g4 r (List.mem_of_mem_take hr)
              · rw [List.mem_singleton.mp hr]; exact hok
            · exact g4 r (List.mem_of_mem_drop hr)
    · rintro σ' H4 ⟨y1, y2, y3, y4, ys, rs, rfl, s4, B4, h4, R4, l4, g4⟩
      obtain ⟨t1, t2, t3⟩ := B4.settle s4
      exact ⟨_, rfl, q0 _ H4 q ys rs t1 t2 t3 (by rw [del_ne nqb.symm]; exact h4) (R4.settle B4) (by omega) g4⟩
end
end Tw

namespace Tw
open PySem PySem.Spec PyProof.Rows L2 TL
section
variable {P : Program} {w : World} {K : PySem.W.Frag} {mg : Str → Option Value} {base : Heap} {A₀ : Ad}
def spTold (K : PySem.W.Frag) (A₀ : Ad) : Addr × Obj → Sp := fun p vs H Q _ => ∃ (D dd : Addr) (k : Int) (rd : Bool), vs = [.ref p.1] ∧ L2N.Zn (.ref D) (some dd) p.2 ∧ (∃ vs, p.2.data = .fields vs) ∧ Seen K A₀ D rd (!rd) ∧ H dd = some (.xd [("place", .int k)]) ∧
  ∀ H' q t, Same H H' → H' q = some (.lst [.ref t]) → H' t = some (.tup [.str (if rd then "BadRide" else "BadWord"), .int k]) → Q (.ref q) H'
theorem fnp_told (T : Txt P w K mg base A₀) : ∃ f fd, FnP P w K mg base 1 f fd ["fault"] (spTold K A₀) ∧ mg "_law_told" = some (.ref f) ∧ PySem.W.keepIn K (.ref f) = true ∧ Binds K fd ["fault"] [] := by
  obtain ⟨f, fd, F, m⟩ := T.d__law_told.ex
  refine ⟨f, fd, Tw.Fun.hot F sc__law_told (fun p vs H Q E h => ?_) (fun p cdv A outer s H vs Q hot hr h => ?_), m, F.kp, F.binds b__law_told⟩
  · obtain ⟨D, dd, k, rd, rfl, _⟩ := h
    rfl
  · obtain ⟨a, oe⟩ := p
    obtain ⟨D, dd, k, rd, rfl, zz, ff, Z, hd, q0⟩ := h
    refine ⟨_, (pss_cons (ps_set (i := 1) sc__law_told.nd rfl (Or.inl rfl) (pe_lst pa_nil))
  (pss_cons (ps_if (pt_val (pe_callB (call_isP (a := a) (oe := oe) (D := D) (dd := dd) (List.mem_singleton.mpr rfl) Z.ec zz.zc ff) (by rfl) T.n_isinstance (by decide +kernel) (pa_cons (pv 0) (pa_cons (pe_glob (v := .ref A₀.c_BadRide) (by rfl) T.g_BadRide rfl) pa_nil)))) (pss_one (ps_expr (pe_bm PySem.F.plainAttrs_list PySem.F.slot_list_append PySem.F.type_list_append mt_append (pv 1) (pa_cons (pe_tup (pa_cons pe_str (pa_cons (pe_xfP (a := a) (oe := oe) (C := D) (cls := .ref D) (d := some dd) (List.mem_singleton.mpr rfl) Z.xf Z.no zz.zc ff (pv 0)) pa_nil))) pa_nil)))) pss_nil)
  (pss_cons (ps_if (pt_val (pe_callB (call_isP (a := a) (oe := oe) (D := D) (dd := dd) (List.mem_singleton.mpr rfl) Z.ec zz.zc ff) (by rfl) T.n_isinstance (by decide +kernel) (pa_cons (pv 0) (pa_cons (pe_glob (v := .ref A₀.c_BadWord) (by rfl) T.g_BadWord rfl) pa_nil)))) (pss_one (ps_expr (pe_bm PySem.F.plainAttrs_list PySem.F.slot_list_append PySem.F.type_list_append mt_append (pv 1) (pa_cons (pe_tup (pa_cons pe_str (pa_cons (pe_xfP (a := a) (oe := oe) (C := D) (cls := .ref D) (d := some dd) (List.mem_singleton.mpr rfl) Z.xf Z.no zz.zc ff (pv 0)) pa_nil))) pa_nil)))) pss_nil)
  (pss_cons (ps_if (pt_val (pe_callB (call_isP (a := a) (oe := oe) (D := D) (dd := dd) (List.mem_singleton.mpr rfl) Z.ec zz.zc ff) (by rfl) T.n_isinstance (by decide +kernel) (pa_cons (pv 0) (pa_cons (pe_glob (v := .ref A₀.c_BadText) (by rfl) T.g_BadText rfl) pa_nil)))) (pss_one (ps_expr (pe_bm PySem.F.plainAttrs_list PySem.F.slot_list_append PySem.F.type_list_append mt_append (pv 1) (pa_cons (pe_tup (pa_cons pe_str (pa_cons (pe_xfP (a := a) (oe := oe) (C := D) (cls := .ref D) (d := some dd) (List.mem_singleton.mpr rfl) Z.xf Z.nl zz.zc ff (pv 0)) pa_nil))) pa_nil)))) pss_nil)
  (pss_cons (ps_if (pt_val (pe_callB (call_isP (a := a) (oe := oe) (D := D) (dd := dd) (List.mem_singleton.mpr rfl) Z.ec zz.zc ff) (by rfl) T.n_isinstance (by decide +kernel) (pa_cons (pv 0) (pa_cons (pe_glob (v := .ref A₀.c_NoRope) (by rfl) T.g_NoRope rfl) pa_nil)))) (pss_one (ps_expr (pe_bm PySem.F.plainAttrs_list PySem.F.slot_list_append PySem.F.type_list_append mt_append (pv 1) (pa_cons (pe_tup (pa_cons pe_str (pa_cons (pe_xfP (a := a) (oe := oe) (C := D) (cls := .ref D) (d := some dd) (List.mem_singleton.mpr rfl) Z.xf Z.nn zz.zc ff (pv 0)) pa_nil))) pa_nil)))) pss_nil)
  (pss_cons (ps_if (pt_val (pe_callB (call_isP (a := a) (oe := oe) (D := D) (dd := dd) (List.mem_singleton.mpr rfl) Z.ec zz.zc ff) (by rfl) T.n_isinstance (by decide +kernel) (pa_cons (pv 0) (pa_cons (pe_glob (v := .ref A₀.c_NoColour) (by rfl) T.g_NoColour rfl) pa_nil)))) (pss_one (ps_expr (pe_bm PySem.F.plainAttrs_list PySem.F.slot_list_append PySem.F.type_list_append mt_append (pv 1) (pa_cons (pe_tup (pa_cons pe_str (pa_cons (pe_xfP (a := a) (oe := oe) (C := D) (cls := .ref D) (d := some dd) (List.mem_singleton.mpr rfl) Z.xf Z.nw zz.zc ff (pv 0)) pa_nil))) pa_nil)))) pss_nil)
  (pss_cons (ps_if (pt_not (pt_val (pe_callB (call_isP (a := a) (oe := oe) (D := D) (dd := dd) (List.mem_singleton.mpr rfl) Z.ec zz.zc ff) (by rfl) T.n_isinstance (by decide +kernel) (pa_cons (pv 0) (pa_cons (pe_bltn (v := .ty "ValueError") (by rfl) T.n_ValueError (by decide +kernel) rfl) pa_nil))))) (pss_one (ps_expr (pe_bm PySem.F.plainAttrs_list PySem.F.slot_list_append PySem.F.type_list_append mt_append (pv 1) (pa_cons (pe_tup (pa_cons pe_str (pa_cons pe_int pa_nil))) pa_nil)))) pss_nil)
  (pss_one (ps_ret (pv 1)))))))))), ?_⟩
    have zd : ∀ {H' : Hp}, Same H H' → H' dd = some (.xd [("place", .int k)]) := fun s => s _ _ hd
    refine ⟨(by show 0 ≤ sizeLine; rw [sizeLine_eq]; decide), fun q nq => ?_⟩
    have s1 : Same H (upd H q (.lst [])) := same_new nq
    have hd2 : ∀ {t : Addr} {o1 o2 : HO}, upd H q (.lst []) t = none → Same H (upd (upd (upd H q (.lst [])) t o1) q o2) := fun {t o1 o2} nt => same_upd (s1.trans (same_new nt)) nq
    cases rd with
    | true =>
      refine ⟨_, rfl, _, _, _, _, rfl, .own _, zd s1, Z.k1, _, rfl, iteT ⟨_, rfl, .inl ⟨rfl, _, SqL.of upd_same⟩, _, rfl, rfl, rfl, dd, _, _, rfl, zd s1, rfl, (by show 2 ≤ sizeLine; rw [sizeLine_eq]; decide), fun t nt => ⟨q, [], .ref t, rfl, rfl, same_new nt _ _ upd_same, (by show 0 < sizeLine; rw [sizeLine_eq]; decide), ?_⟩⟩⟩
      have s2 := hd2 (o1 := .tup [.str "BadRide", .int k]) (o2 := .lst ([] ++ [.ref t])) nt
      refine ⟨_, rfl, _, _, _, _, rfl, .own _, zd s2, Z.k2, _, rfl, iteF ⟨_, rfl, _, _, _, _, rfl, .own _, zd s2, Z.k3, _, rfl, iteF ⟨_, rfl, _, _, _, _, rfl, .own _, zd s2, Z.k4, _, rfl, iteF ⟨_, rfl, _, _, _, _, rfl, .own _, zd s2, Z.k5, _, rfl, iteF ?_⟩⟩⟩⟩
      refine ⟨_, rfl, _, _, _, _, rfl, .ty _, zd s2, Z.k6, _, rfl, iteF ⟨_, rfl, q0 _ q t s2 upd_same ?_⟩⟩
      rw [upd_ne]
      · exact upd_same
      · intro e
        subst e
        rw [upd_same] at nt
        cases nt
    | false =>
      refine ⟨_, rfl, _, _, _, _, rfl, .own _, zd s1, Z.k1, _, rfl, iteF ⟨_, rfl, _, _, _, _, rfl, .own _, zd s1, Z.k2, _, rfl, iteT ⟨_, rfl, .inl ⟨rfl, _, SqL.of upd_same⟩, _, rfl, rfl, rfl, dd, _, _, rfl, zd s1, rfl, (by show 2 ≤ sizeLine; rw [sizeLine_eq]; decide), fun t nt => ⟨q, [], .ref t, rfl, rfl, same_new nt _ _ upd_same, (by show 0 < sizeLine; rw [sizeLine_eq]; decide), ?_⟩⟩⟩⟩
      have s2 := hd2 (o1 := .tup [.str "BadWord", .int k]) (o2 := .lst ([] ++ [.ref t])) nt
      refine ⟨_, rfl, _, _, _, _, rfl, .own _, zd s2, Z.k3, _, rfl, iteF ⟨_, rfl, _, _, _, _, rfl, .own _, zd s2, Z.k4, _, rfl, iteF ⟨_, rfl, _, _, _, _, rfl, .own _, zd s2, Z.k5, _, rfl, iteF ?_⟩⟩⟩
      refine ⟨_, rfl, _, _, _, _, rfl, .ty _, zd s2, Z.k6, _, rfl, iteF ⟨_, rfl, q0 _ q t s2 upd_same ?_⟩⟩
      rw [upd_ne]
      · exact upd_same
      · intro e
        subst e
        rw [upd_same] at nt
        cases nt
end
end Tw

namespace Tw
open PySem PySem.Spec PyProof.Rows L2 TL
theorem takes0N {X : Cx} : L2N.Takes X (fun _ _ _ _ => False) := fun _ _ x => by
  obtain ⟨_, _, _, _, _, _, _, _, _, _, _, _, _, _, _, _, z⟩ := x
  exact z.elim
section
variable {P : Program} {w : World} {K : PySem.W.Frag} {mg : Str → Option Value} {base : Heap} {A₀ : Ad}
def spWritten (K : PySem.W.Frag) : Sp := fun vs H Q _ => ∃ (x : V) (rs : List Ride), vs = [x] ∧ Dp K H x (.list (rs.map rideD)) ∧ rs.length ≤ 1000001 ∧
  ((∀ r ∈ rs, bad r = false) → ∀ H' q, Same H H' → H' q = some (.lst [.str (wrT rs)]) → Q (.ref q) H') ∧
  ∀ (k : Nat) (r : Ride), rs[k]? = some r → bad r = true → (∀ (j : Nat) (r' : Ride), j < k → rs[j]? = some r' → bad r' = false) → ∀ H' q t, Same H H' → H' q = some (.lst [.ref t]) → H' t = some (.tup [.str "BadRide", .int (k : Int)]) → Q (.ref q) H'
/-- the wish of the suite -/
def tSuite (K : PySem.W.Frag) (A₀ : Ad) (i : Nat) : Addr → Value → Option Addr → TS := fun a cls d =>
  tRet (fun σ H Q => ∀ oe, L2N.Zn cls d oe → (∃ vs, oe.data = .fields vs) → tCall (spTold K A₀ (a, oe)) [] E0 (tCons (tVar i) tNil) σ H Q)
theorem cal__law_written (T : Txt P w K mg base A₀) : Cal P w K mg base CX0 "_law_written" 5 ["rides"] (spWritten K) := by
  have c_write_trip := cal_write_trip T
  obtain ⟨fT, fdT, FT, mT, kT, bT⟩ := fnp_told T
  refine cal_of T.d__law_written sc__law_written b__law_written (fun vs H Q E h => ?_) (fun f cdv A outer s H vs Q E hr h => ?_)
  · obtain ⟨x, rs, rfl, _⟩ := h
    rfl
  · obtain ⟨x, rs, rfl, hx, hn, qG, qB⟩ := h
    refine ⟨_, (pss_one (L2N.ps_try_as (i := 1) (c := .ref A₀.c_RopeError) (tb := fun W => tRet (tLst (tCons (tCallS (spWrite K A₀) (WE W) (tCons (tVar 0) tNil)) tNil))) (ts := tSuite K A₀ 1) (Wout := fun _ _ _ _ => False) rfl rfl sc__law_written.nd rfl rfl ⟨rfl, by decide, Or.inl T.g_RopeError⟩ takes0N
      (fun W pn xe tk _ => pss_one (ps_ret (pe_lst (pa_cons (pe_calX c_write_trip tk (hr.mono (by decide)) (by rfl) (pa_cons (pv 0) pa_nil)) pa_nil))))
      (fun a oe cls d pn hz hf => pss_one (ps_ret ⟨fun pins s σ H Q I h => (pe_callP (p := (a, oe)) FT ?_ ?_ List.mem_cons_self (by rfl) mT kT bT (pa_cons (pv 1) pa_nil)).run pins s σ H Q I (h oe hz hf)⟩)))), ?_⟩
    · exact L2H.RoomH.mono (k := 4) ⟨hr.dp, hr.un⟩ (by decide)
    · obtain ⟨vs, hv⟩ := hf
      exact ⟨rfl, vs, hv, hz.2.2 vs hv⟩
    · refine ⟨_, rfl, x, rs, rfl, hx, hn, fun good H' s1 => ⟨(by show 1 ≤ sizeLine; rw [sizeLine_eq]; decide), fun q nq => qG good _ q (s1.trans (same_new nq)) upd_same⟩, fun k r e1 e2 e3 d H' s1 hd => ?_⟩
      refine ⟨true, T.s_BadRide.ex, fun _ a na => fun oe hz hf => ?_, fun z => by cases z⟩
      refine ⟨_, rfl, A₀.c_BadRide, d, (k : Int), true, rfl, hz, hf, T.s_BadRide, hd, fun H2 q t s2 hq ht => ?_⟩
      exact qB k r e1 e2 e3 H2 q t (s1.trans s2) hq ht
def spReadL (K : PySem.W.Frag) : Sp := fun vs H Q _ => ∃ z : Str, vs = [.str z] ∧ z.length ≤ 1000000 ∧
  (∀ rs : List Ride, (wordsOf z).map rideOf = rs.map some → ∀ H' q p ys, Same H H' → H p = none → H' q = some (.lst [.ref p]) → H' p = some (.lst ys) → DpAll K H' ys (rs.map rideD) → Q (.ref q) H') ∧
  ∀ (k : Nat), ((wordsOf z).map rideOf)[k]? = some none → (∀ j, j < k → ((wordsOf z).map rideOf)[j]? ≠ some none) → ∀ H' q t, Same H H' → H' q = some (.lst [.ref t]) → H' t = some (.tup [.str "BadWord", .int (k : Int)]) → Q (.ref q) H'
theorem cal__law_read (T : Txt P w K mg base A₀) : Cal P w K mg base CX0 "_law_read" 5 ["text"] (spReadL K) := by
  have c_read_trip := cal_read_trip T
  obtain ⟨fT, fdT, FT, mT, kT, bT⟩ := fnp_told T
  refine cal_of T.d__law_read sc__law_read b__law_read (fun vs H Q E h => ?_) (fun f cdv A outer s H vs Q E hr h => ?_)
  · obtain ⟨z, rfl, _⟩ := h
    rfl
  · obtain ⟨z, rfl, hz, qG, qB⟩ := h
    refine ⟨_, (pss_one (L2N.ps_try_as (i := 1) (c := .ref A₀.c_RopeError) (tb := fun W => tRet (tLst (tCons (tCallS (spRead K A₀) (WE W) (tCons (tVar 0) tNil)) tNil))) (ts := tSuite K A₀ 1) (Wout := fun _ _ _ _ => False) rfl rfl sc__law_read.nd rfl rfl ⟨rfl, by decide, Or.inl T.g_RopeError⟩ takes0N
      (fun W pn xe tk _ => pss_one (ps_ret (pe_lst (pa_cons (pe_calX c_read_trip tk (hr.mono (by decide)) (by rfl) (pa_cons (pv 0) pa_nil)) pa_nil))))
      (fun a oe cls d pn hz hf => pss_one (ps_ret ⟨fun pins s σ H Q I h => (pe_callP (p := (a, oe)) FT ?_ ?_ List.mem_cons_self (by rfl) mT kT bT (pa_cons (pv 1) pa_nil)).run pins s σ H Q I (h oe hz hf)⟩)))), ?_⟩
    · exact L2H.RoomH.mono (k := 4) ⟨hr.dp, hr.un⟩ (by decide)
    · obtain ⟨vs, hv⟩ := hf
      exact ⟨rfl, vs, hv, hz.2.2 vs hv⟩
    · refine ⟨_, rfl, z, rfl, hz, fun rs e H' p ys s1 np hp hd => ⟨(by show 1 ≤ sizeLine; rw [sizeLine_eq]; decide), fun q nq => qG rs e _ q p ys (s1.trans (same_new nq)) np upd_same (same_new nq _ _ hp) (DpAll.same (same_new nq) hd)⟩, fun k e1 e2 d H' s1 hd => ?_⟩
      refine ⟨true, T.s_BadWord.ex, fun _ a na => fun oe hz hf => ?_, fun z => by cases z⟩
      refine ⟨_, rfl, A₀.c_BadWord, d, (k : Int), false, rfl, hz, hf, T.s_BadWord, hd, fun H2 q t s2 hq ht => ?_⟩
      exact qB k e1 e2 H2 q t (s1.trans s2) hq ht
end
end Tw

namespace Tw
open PySem PySem.Spec PyProof.Rows L2 TL
theorem first_none {α : Type} : ∀ (l : List (Option α)), (∃ rs : List α, l = rs.map some) ∨ ∃ k : Nat, l[k]? = some none ∧ ∀ j : Nat, j < k → l[j]? ≠ some none
  | [] => .inl ⟨[], rfl⟩
  | none :: l => .inr ⟨0, rfl, fun j h => absurd h (Nat.not_lt_zero _)⟩
  | some a :: l => by
    rcases first_none l with ⟨rs, e⟩ | ⟨k, e1, e2⟩
    · exact .inl ⟨a :: rs, by rw [e]; rfl⟩
    · refine .inr ⟨k + 1, e1, fun j hj => ?_⟩
      cases j with
      | zero => exact fun z => by cases z
      | succ j => exact e2 j (by omega)
theorem words_good {z : Str} {rs : List Ride} (e : (wordsOf z).map rideOf = rs.map some) : (∀ r ∈ rs, bad r = false) ∧ wrT rs = z := by
  have h : ∀ (ws : List Str) (rs : List Ride), ws.map rideOf = rs.map some → (∀ r ∈ rs, bad r = false) ∧ rs.map wordOf = ws := by
    intro ws
    induction ws with
    | nil =>
      intro rs e
      cases rs with
      | nil => exact ⟨fun r h => (by cases h), rfl⟩
      | cons r rs => cases e
    | cons w ws ih =>
      intro rs e
      cases rs with
      | nil => cases e
      | cons r rs =>
        injection e with e1 e2
        obtain ⟨g1, g2⟩ := word_ride e1
        obtain ⟨h1, h2⟩ := ih rs e2
        refine ⟨fun x hx => ?_, by rw [List.map_cons, g2, h2]⟩
        rcases List.mem_cons.mp hx with rfl | hx
        · exact g1
        · exact h1 x hx
  obtain ⟨h1, h2⟩ := h _ _ e
  refine ⟨h1, ?_⟩
  unfold wrT
  rw [h2]
  unfold wordsOf
  split
  · rename_i h
    rw [h]
    rfl
  · exact join_split z
section
variable {P : Program} {w : World} {K : PySem.W.Frag} {mg : Str → Option Value} {base : Heap} {A₀ : Ad}
def spTextRight (K : PySem.W.Frag) : Sp := fun vs H Q _ => ∃ z : Str, vs = [.str z] ∧ z.length ≤ 1000000 ∧ ∀ H', Same H H' → Q (.bl true) H'
theorem cal__law_text_right (T : Txt P w K mg base A₀) : Cal P w K mg base CX0 "_law_text_right" 7 ["text"] (spTextRight K) := by
  have c__law_text_due := cal__law_text_due T; have c__law_read := cal__law_read T; have c__law_exact := cal__law_exact T; have c__law_written := cal__law_written T
  refine cal_of T.d__law_text_right sc__law_text_right b__law_text_right (fun vs H Q E h => ?_) (fun f cdv A outer s H vs Q E hr h => ?_)
  · obtain ⟨z, rfl, _⟩ := h
    rfl
  · obtain ⟨z, rfl, hz, q0⟩ := h
    refine ⟨_, (pss_cons (ps_set (i := 1) sc__law_text_right.nd rfl (Or.inl rfl) (pe_cal c__law_text_due (hr.mono (by first | exact Nat.le_refl _ | decide)) (by rfl) (pa_cons (pv 0) pa_nil)))
  (pss_cons (ps_set (i := 2) sc__law_text_right.nd rfl (Or.inl rfl) (pe_cal c__law_read (hr.mono (by first | exact Nat.le_refl _ | decide)) (by rfl) (pa_cons (pv 0) pa_nil)))
  (pss_cons (ps_if (pt_not (pt_val (pe_cal c__law_exact (hr.mono (by first | exact Nat.le_refl _ | decide)) (by rfl) (pa_cons (pv 2) (pa_cons (pv 1) pa_nil))))) (pss_one (ps_ret pe_bl)) pss_nil)
  (pss_cons (ps_if (pt_not (pt_val (pe_callB call_isi (by rfl) T.n_isinstance (by decide +kernel) (pa_cons (pe_ix ix_list (pv 2) pe_int (fun _ _ => rfl)) (pa_cons (pe_bltn (v := .ty "list") (by rfl) T.n_list (by decide +kernel) rfl) pa_nil))))) (pss_one (ps_ret pe_bl)) pss_nil)
  (pss_cons (ps_if (pt_not (pt_val (pe_cal c__law_exact (hr.mono (by first | exact Nat.le_refl _ | decide)) (by rfl) (pa_cons (pe_cal c__law_written (hr.mono (by first | exact Nat.le_refl _ | decide)) (by rfl) (pa_cons (pe_callTy call_list_of (by rfl) T.n_list (by decide +kernel) (pa_cons (pe_ix ix_list (pv 2) pe_int (fun _ _ => rfl)) pa_nil)) pa_nil)) (pa_cons (pe_lst (pa_cons (pv 0) pa_nil)) pa_nil))))) (pss_one (ps_ret pe_bl)) pss_nil)
  (pss_cons (ps_expr (pe_bm PySem.F.plainAttrs_list PySem.F.slot_list_append PySem.F.type_list_append mt_append (pe_ix ix_list (pv 2) pe_int (fun _ _ => rfl)) (pa_cons (pe_tup (pa_cons pe_int (pa_cons pe_str pa_nil))) pa_nil)))
  (pss_one (ps_ret (pe_cal c__law_exact (hr.mono (by first | exact Nat.le_refl _ | decide)) (by rfl) (pa_cons (pe_cal c__law_read (hr.mono (by first | exact Nat.le_refl _ | decide)) (by rfl) (pa_cons (pv 0) pa_nil)) (pa_cons (pv 1) pa_nil))))))))))), ?_⟩
    have hrl : ∀ rs : List Ride, (wordsOf z).map rideOf = rs.map some → rs.length ≤ 1000001 := fun rs e => by
      have h := congrArg List.length e
      rw [List.length_map, List.length_map] at h
      rw [← h]
      unfold wordsOf
      split
      · exact Nat.zero_le _
      · have := words_le z
        omega
    have exR : ∀ (n : Nat) (rs : List Ride), ∀ d ∈ rs.map rideD, ExD (n + 1) d := fun n rs d hd => by
      obtain ⟨r, _, rfl⟩ := List.mem_map.mp hd
      exact ⟨(by show 2 ≤ 1000001; decide), fun d hd => by
        rcases List.mem_cons.mp hd with rfl | hd
        · cases n <;> exact trivial
        · rw [List.mem_singleton.mp hd]
          cases n <;> exact trivial⟩
    have exG : ∀ rs : List Ride, rs.length ≤ 1000001 → ExD 5 (.list [.list (rs.map rideD)]) := fun rs h => ⟨(by show 1 ≤ 1000001; decide), fun d hd => by
      rw [List.mem_singleton.mp hd]
      exact ⟨by rw [List.length_map]; exact h, exR 2 rs⟩⟩
    have exB : ∀ k : Int, ExD 5 (.list [.tuple [.str "BadWord", .int k]]) := fun k => ⟨(by show 1 ≤ 1000001; decide), fun d hd => by
      rw [List.mem_singleton.mp hd]
      exact ⟨(by show 2 ≤ 1000001; decide), fun d hd => by
        rcases List.mem_cons.mp hd with rfl | hd
        · exact trivial
        · rw [List.mem_singleton.mp hd]
          exact trivial⟩⟩
    rcases first_none ((wordsOf z).map rideOf) with ⟨rs, hrs⟩ | ⟨k, hk1, hk2⟩
    · have hn := hrl rs hrs
      obtain ⟨good, hw⟩ := words_good hrs
      have uq : ∀ rs' : List Ride, (wordsOf z).map rideOf = rs'.map some → rs' = rs := fun rs' e => by
        rw [hrs] at e
        exact (List.map_inj_right (fun x y h => Option.some.inj h)).mp e.symm
      have nob : ∀ k : Nat, ¬ ((wordsOf z).map rideOf)[k]? = some none := fun k e => by
        rw [hrs, List.getElem?_map] at e
        cases h : rs[k]? with
        | none => rw [h] at e; cases e
        | some r => rw [h] at e; cases e
      refine ⟨_, rfl, z, rfl, hz, fun rs' e H1 q p ys s1 hq hp hd => ?_, fun k e => absurd e (nob k)⟩
      obtain rfl := uq rs' e
      refine ⟨_, rfl, z, rfl, hz, fun rs2 e2 H2 q2 p2 ys2 s2 np2 hq2 hp2 hd2 => ?_, fun k e => absurd e (nob k)⟩
      obtain rfl := uq rs2 e2
      have d1 : Dp K H1 (.ref q) (.list [.list (rs2.map rideD)]) := .lst (SqL.of hq) (.cons (.lst (SqL.of hp) hd) .nil)
      have d2 : Dp K H2 (.ref q2) (.list [.list (rs2.map rideD)]) := .lst (SqL.of hq2) (.cons (.lst (SqL.of hp2) hd2) .nil)
      refine ⟨_, rfl, _, rfl, .ref q2, .ref q, _, rfl, d2, Dp.same s2 d1, exG _ hn, fun H3 s3 => ⟨_, rfl, iteF ?_⟩⟩
      have q3 := s3 _ _ hq2
      have p3 := s3 _ _ hp2
      have dt : Dp K H3 (.ref p2) (.list (rs2.map rideD)) := .lst (SqL.of p3) (DpAll.same s3 hd2)
      show tSeq _ _ _ _ _
      refine ⟨_, rfl, _, _, _, _, rfl, rfl, SqL.of q3, atI_nat (j := 0) rfl, _, _, _, _, _, rfl, .ty _, ty_of dt, kT (a := "list") (b := "list"), _, rfl, iteF ?_⟩
      show tSeq _ _ _ _ _
      refine ⟨_, rfl, _, _, _, _, rfl, rfl, SqL.of q3, atI_nat (j := 0) rfl, p2, ys2, rfl, .inl (SqL.of p3), fun l nl => ?_⟩
      have s4 : Same H3 (upd H3 l (.lst ys2)) := same_new nl
      refine ⟨.ref l, rs2, rfl, .lst (SqL.of upd_same) (DpAll.same s4 (DpAll.same s3 hd2)), hn, fun _ H5 qw s5 hqw => ?_, fun k r e1 e2 => absurd e2 (by rw [good r (List.mem_of_getElem? e1)]; simp)⟩
      rw [hw] at hqw
      refine ⟨_, rfl, (by show 1 ≤ sizeLine; rw [sizeLine_eq]; decide), fun n nn => ⟨.ref qw, .ref n, .list [.str z], rfl, .lst (SqL.of (same_new nn _ _ hqw)) (.cons (.str _) .nil), .lst (SqL.of upd_same) (.cons (.str _) .nil), ⟨(by show 1 ≤ 1000001; decide), fun d hd => by rw [List.mem_singleton.mp hd]; exact trivial⟩, fun H6 s6 => ⟨_, rfl, iteF ?_⟩⟩⟩
      have s36 : Same H3 H6 := ((s4.trans s5).trans (same_new nn)).trans s6
      have q6 := s36 _ _ q3
      have p6 := s36 _ _ p3
      show tSeq _ _ _ _ _
      refine ⟨_, rfl, _, _, _, _, rfl, rfl, SqL.of q6, atI_nat (j := 0) rfl, .inl ⟨rfl, _, SqL.of p6⟩, (by show 2 ≤ sizeLine; rw [sizeLine_eq]; decide), fun t nt => ⟨p2, ys2, .ref t, rfl, rfl, same_new nt _ _ p6, ?_, ?_⟩⟩
      · rw [DpAll.len hd2, List.length_map, sizeLine_eq]
        omega
      have s19 : Same H1 (upd (upd H6 t (.tup [.int 7, .str "red"])) p2 (.lst (ys2 ++ [.ref t]))) := same_upd (((s2.trans s3).trans s36).trans (same_new nt)) np2
      refine ⟨_, rfl, z, rfl, hz, fun rs' e H10 q10 p10 ys10 s10 np10 hq10 hp10 hd10 => ?_, fun k e => absurd e (nob k)⟩
      obtain rfl := uq rs' e
      exact ⟨_, rfl, .ref q10, .ref q, _, rfl, .lst (SqL.of hq10) (.cons (.lst (SqL.of hp10) hd10) .nil), Dp.same (s19.trans s10) d1, exG _ hn, fun H11 s11 => q0 _ (((s1.trans s19).trans s10).trans s11)⟩
    · have no : ∀ rs : List Ride, ¬ (wordsOf z).map rideOf = rs.map some := fun rs e => by
        rw [e, List.getElem?_map] at hk1
        cases h : rs[k]? with
        | none => rw [h] at hk1; cases hk1
        | some r => rw [h] at hk1; cases hk1
      have uq : ∀ k', ((wordsOf z).map rideOf)[k']? = some none → (∀ j, j < k' → ((wordsOf z).map rideOf)[j]? ≠ some none) → k' = k := fun k' h1 h2 => by
        rcases Nat.lt_trichotomy k' k with h | h | h
        · exact absurd h1 (hk2 k' h)
        · exact h
        · exact absurd hk1 (h2 k h)
      refine ⟨_, rfl, z, rfl, hz, fun rs e => absurd e (no rs), fun k' h1 h2 H1 q t s1 hq ht => ?_⟩
      obtain rfl := uq k' h1 h2
      refine ⟨_, rfl, z, rfl, hz, fun rs e => absurd e (no rs), fun k2 h3 h4 H2 q2 t2 s2 hq2 ht2 => ?_⟩
      obtain rfl := uq k2 h3 h4
      have d1 : Dp K H2 (.ref q) (.list [.tuple [.str "BadWord", .int (k2 : Int)]]) := .lst (SqL.of (s2 _ _ hq)) (.cons (.tup (SqT.of (s2 _ _ ht)) (.cons (.str _) (.cons (.int _) .nil))) .nil)
      have d2 : Dp K H2 (.ref q2) (.list [.tuple [.str "BadWord", .int (k2 : Int)]]) := .lst (SqL.of hq2) (.cons (.tup (SqT.of ht2) (.cons (.str _) (.cons (.int _) .nil))) .nil)
      refine ⟨_, rfl, _, rfl, .ref q2, .ref q, _, rfl, d2, d1, exB _, fun H3 s3 => ⟨_, rfl, iteF ?_⟩⟩
      have q3 := s3 _ _ hq2
      have t3 := s3 _ _ ht2
      have dt : Dp K H3 (.ref t2) (.tuple [.str "BadWord", .int (k2 : Int)]) := .tup (SqT.of t3) (.cons (.str _) (.cons (.int _) .nil))
      show tSeq _ _ _ _ _
      refine ⟨_, rfl, _, _, _, _, rfl, rfl, SqL.of q3, atI_nat (j := 0) rfl, _, _, _, _, _, rfl, .ty _, ty_of dt, kF (a := "tuple") (b := "list"), _, rfl, iteT ?_⟩
      exact q0 _ ((s1.trans s2).trans s3)
end
end Tw

namespace Tw
open PySem PySem.Spec PyProof.Rows L2 TL
/-- all but b is as it was -/
def Keep (b : Addr) (H H' : Hp) : Prop := ∀ a o, a ≠ b → H a = some o → H' a = some o
theorem Keep.of_same {b : Addr} {H H' : Hp} (s : Same H H') : Keep b H H' := fun a o _ e => s a o e
theorem Keep.draw {b : Addr} {H H1 H2 : Hp} (k : Keep b H H1) (d : ∀ a, a ≠ b → H2 a = H1 a) : Keep b H H2 := fun a o ne e => by rw [d a ne]; exact k a o ne e
theorem Keep.trans {b : Addr} {H H1 H2 : Hp} (k : Keep b H H1) (d : Keep b H1 H2) : Keep b H H2 := fun a o ne e => d a o ne (k a o ne e)
theorem Keep.same {K : PySem.W.Frag} {b : Addr} {F H H' : Hp} (k : Keep b H H') (s : Same F H) (B : Bag K F H b) : Same F H' := fun a o e => k a o (ne_of_none e B.1) (s a o e)
def SLb (vs : List V) : Bool := vs.all fun v => match v with | .str z => decide (z.length ≤ 5000) | _ => false
theorem SLb.get {vs : List V} (h : SLb vs = true) {j : Nat} (hj : j < vs.length) : ∃ z : Str, vs[j]? = some (.str z) ∧ z.length ≤ 5000 := by
  unfold SLb at h
  rw [List.all_eq_true] at h
  have := h vs[j] (List.getElem_mem hj)
  cases e : vs[j] with
  | str z =>
    rw [e] at this
    exact ⟨z, by rw [List.getElem?_eq_getElem hj, e], of_decide_eq_true this⟩
  | _ => rw [e] at this; cases this
theorem SLb.app {a b : List V} (h1 : SLb a = true) (h2 : SLb b = true) : SLb (a ++ b) = true := by
  unfold SLb at *
  rw [List.all_append, h1, h2]
  rfl
section
variable {P : Program} {w : World} {K : PySem.W.Frag} {mg : Str → Option Value} {base : Heap} {A₀ : Ad}
def spOdd (K : PySem.W.Frag) : Sp := fun vs H Q _ => ∃ (F : Hp) (b : Addr), vs = [.ref b] ∧ Same F H ∧ Bag K F H b ∧ ∀ H' (z : Str), Keep b H H' → Bag K F H' b → z.length ≤ 5000 → Q (.str z) H'
theorem cal__law_odd_word (T : Txt P w K mg base A₀) : Cal P w K mg base CX0 "_law_odd_word" 3 ["bag"] (spOdd K) := by
  have c__law_draw := cal__law_draw T
  refine cal_of T.d__law_odd_word sc__law_odd_word b__law_odd_word (fun vs H Q E h => ?_) (fun f cdv A outer s H vs Q E hr h => ?_)
  · obtain ⟨F, b, rfl, _⟩ := h
    rfl
  · obtain ⟨F, b, rfl, sF, B, q0⟩ := h
    refine ⟨_, (Evl.pss_cut (ps_set (i := 1) sc__law_odd_word.nd rfl (Or.inl rfl) (pe_lst (pa_cons pe_str (pa_cons pe_str (pa_cons pe_str (pa_cons pe_str (pa_cons pe_str (pa_cons pe_str (pa_cons pe_str (pa_cons pe_str (pa_cons pe_str (pa_cons pe_str (pa_cons pe_str (pa_cons pe_str (pa_cons pe_str (pa_cons pe_str pa_nil))))))))))))))))
  (Evl.pss_cut (ps_set (i := 1) sc__law_odd_word.nd rfl (Or.inl rfl) (pe_op op_cat (pv 1) (pe_lst (pa_cons pe_str (pa_cons pe_str (pa_cons pe_str (pa_cons pe_str (pa_cons pe_str (pa_cons pe_str (pa_cons pe_str (pa_cons pe_str (pa_cons pe_str (pa_cons pe_str (pa_cons pe_str (pa_cons pe_str pa_nil)))))))))))))))
  (Evl.pss_cut (ps_set (i := 1) sc__law_odd_word.nd rfl (Or.inl rfl) (pe_op op_cat (pv 1) (pe_lst (pa_cons pe_str (pa_cons pe_str (pa_cons pe_str (pa_cons pe_str pa_nil)))))))
  (Evl.pss_cut (ps_set (i := 1) sc__law_odd_word.nd rfl (Or.inl rfl) (pe_op op_cat (pv 1) (pe_lst (pa_cons (pe_op op_add_str pe_str (pe_op op_repS pe_str pe_int)) (pa_cons pe_str (pa_cons pe_str (pa_cons pe_str (pa_cons pe_str (pa_cons pe_str (pa_cons pe_str (pa_cons pe_str (pa_cons pe_str (pa_cons pe_str pa_nil)))))))))))))
  (pss_cons (ps_if (pt_cmpR op_eq (pe_cal c__law_draw (hr.mono (by first | exact Nat.le_refl _ | decide)) (by rfl) (pa_cons (pv 0) (pa_cons pe_int pa_nil))) pe_int (nomark _)) (pss_one (ps_ret (pe_op op_add_str (pe_ix ix_list (pe_lst (pa_cons pe_str (pa_cons pe_str pa_nil))) (pe_cal c__law_draw (hr.mono (by first | exact Nat.le_refl _ | decide)) (by rfl) (pa_cons (pv 0) (pa_cons pe_int pa_nil))) (fun _ _ => rfl)) (pe_callTy call_str_int (by rfl) T.n_str (by decide +kernel) (pa_cons (pe_cal c__law_draw (hr.mono (by first | exact Nat.le_refl _ | decide)) (by rfl) (pa_cons (pv 0) (pa_cons pe_int pa_nil))) pa_nil))))) pss_nil)
  (pss_one (ps_ret (pe_ix ix_list (pv 1) (pe_cal c__law_draw (hr.mono (by first | exact Nat.le_refl _ | decide)) (by rfl) (pa_cons (pv 0) (pa_cons (pe_callB call_len_seq (by rfl) T.n_len PySem.boot_len (pa_cons (pv 1) pa_nil)) pa_nil))) (fun _ _ => rfl))))))))), ?_⟩
    refine ⟨fun σ' H' => ∃ p cs, σ' = [some (.ref b), some (.ref p)] ∧ Same H H' ∧ H' p = some (.lst cs) ∧ SLb cs = true ∧ cs.length = 14, ?_, ?_⟩
    · exact ⟨(by show 14 ≤ sizeLine; rw [sizeLine_eq]; decide), fun p n => ⟨p, _, rfl, same_new n, upd_same, by decide +kernel, rfl⟩⟩
    rintro σ' H1 ⟨p1, c1, rfl, s1, e1, h1, l1⟩
    refine ⟨fun σ' H' => ∃ p cs, σ' = [some (.ref b), some (.ref p)] ∧ Same H H' ∧ H' p = some (.lst cs) ∧ SLb cs = true ∧ cs.length = 26, ?_, ?_⟩
    · refine ⟨_, rfl, (by show 12 ≤ sizeLine; rw [sizeLine_eq]; decide), fun p n => ⟨p1, p, c1, _, rfl, rfl, same_new n _ _ e1, upd_same, ?_, fun p2 n2 => ⟨p2, _, rfl, (s1.trans (same_new n)).trans (same_new n2), upd_same, SLb.app h1 (by decide +kernel), ?_⟩⟩⟩
      · rw [l1]; exact (by show 26 ≤ sizeLine; rw [sizeLine_eq]; decide)
      · rw [List.length_append, l1]; rfl
    rintro σ' H2 ⟨p2, c2, rfl, s2, e2, h2, l2⟩
    refine ⟨fun σ' H' => ∃ p cs, σ' = [some (.ref b), some (.ref p)] ∧ Same H H' ∧ H' p = some (.lst cs) ∧ SLb cs = true ∧ cs.length = 30, ?_, ?_⟩
    · refine ⟨_, rfl, (by show 4 ≤ sizeLine; rw [sizeLine_eq]; decide), fun p n => ⟨p2, p, c2, _, rfl, rfl, same_new n _ _ e2, upd_same, ?_, fun p3 n3 => ⟨p3, _, rfl, (s2.trans (same_new n)).trans (same_new n3), upd_same, SLb.app h2 (by decide +kernel), ?_⟩⟩⟩
      · rw [l2]; exact (by show 30 ≤ sizeLine; rw [sizeLine_eq]; decide)
      · rw [List.length_append, l2]; rfl
    rintro σ' H3 ⟨p3, c3, rfl, s3, e3, h3, l3⟩
    refine ⟨fun σ' H' => ∃ p cs, σ' = [some (.ref b), some (.ref p)] ∧ Same H H' ∧ H' p = some (.lst cs) ∧ SLb cs = true ∧ cs.length = 40, ?_, ?_⟩
    · refine ⟨_, rfl, _, _, rfl, rfl, (by decide +kernel), by decide, by decide, fun r hr => ⟨_, r, rfl, rfl, ?_, (by show 10 ≤ sizeLine; rw [sizeLine_eq]; decide), fun p n => ⟨p3, p, c3, _, rfl, rfl, same_new n _ _ e3, upd_same, ?_, fun p4 n4 => ⟨p4, _, rfl, (s3.trans (same_new n)).trans (same_new n4), upd_same, SLb.app h3 ?_, ?_⟩⟩⟩⟩
      · have : ((("9" : Str).length : Nat) : Int) = 1 := by decide +kernel
        rw [this] at hr
        have : (("r" : Str).length : Nat) = 1 := by decide +kernel
        rw [this, sizeLine_eq]
        omega
      · rw [l3]; exact (by show 40 ≤ sizeLine; rw [sizeLine_eq]; decide)
      · have e9 : ((("9" : Str).length : Nat) : Int) = 1 := by decide +kernel
        rw [e9] at hr
        show (decide ((("r" : Str) ++ r).length ≤ 5000) && _) = true
        rw [Bool.and_eq_true]
        refine ⟨decide_eq_true ?_, by decide +kernel⟩
        rw [len_tl, tl_append, List.length_append, ← len_tl, ← len_tl]
        have : (("r" : Str).length : Nat) = 1 := by decide +kernel
        omega
      · rw [List.length_append, l3]; rfl
    rintro σ' H4 ⟨p4, c4, rfl, s4, e4, h4, l4⟩
    have k4 : Keep b H H4 := .of_same s4
    have B4 := B.lift s4
    refine ⟨_, rfl, F, b, 4, rfl, sF.trans s4, B4, by decide, by decide, fun r5 H5 g5 f5 d5 B5 => ?_⟩
    have k5 := k4.draw d5
    have sF5 := k5.same sF B
    have e5 : H5 p4 = some (.lst c4) := by
      rw [d5 p4]
      · exact e4
      · intro z
        subst z
        obtain ⟨_, c, ns, i, x, k, t, fo, big, hb, _⟩ := B4
        rw [e4] at hb
        injection hb with hb
        injection hb with hb
        rw [hb] at l4
        cases l4
    refine ⟨rfl, _, rfl, ite2 (fun _ => ?_) (fun _ => ?_)⟩
    · refine ⟨(by show 2 ≤ sizeLine; rw [sizeLine_eq]; decide), fun l nl => ?_⟩
      have nlb := B5.ne nl
      have k6 := k5.trans (.of_same (same_new (o := .lst [.str "r", .str "b"]) nl))
      have s6 := sF5.trans (same_new (o := .lst [.str "r", .str "b"]) nl)
      refine ⟨_, rfl, F, b, 2, rfl, s6, B5.set nlb, by decide, by decide, fun r7 H7 g7 f7 d7 B7 => ?_⟩
      have k7 := k6.draw d7
      have l7 : H7 l = some (.lst [.str "r", .str "b"]) := by rw [d7 l nlb.symm]; exact upd_same
      obtain ⟨c, hc, hcl⟩ : ∃ c : Str, atI [V.str "r", V.str "b"] r7 = some (.str c) ∧ c.length = 1 := by
        have e : r7 = 0 ∨ r7 = 1 := by omega
        rcases e with rfl | rfl
        · exact ⟨"r", atI_nat (j := 0) rfl, by decide +kernel⟩
        · exact ⟨"b", atI_nat (j := 1) rfl, by decide +kernel⟩
      refine ⟨_, _, _, _, rfl, rfl, SqL.of l7, hc, ?_⟩
      refine ⟨_, rfl, F, b, 130, rfl, k7.same sF B, B7, by decide, by decide, fun r8 H8 g8 f8 d8 B8 => ?_⟩
      have hl : (Str.ofString (toString r8)).length ≤ 3 := by
        have all : ∀ n : Nat, n < 130 → (tl (Str.ofString (toString ((n : Nat) : Int)))).length ≤ 3 := by decide +kernel
        have := all r8.toNat (by omega)
        rw [Int.toNat_of_nonneg g8] at this
        rw [len_tl]
        exact this
      refine ⟨_, rfl, log_small (by omega), _, _, rfl, rfl, ?_, q0 _ _ (k7.draw d8) B8 ?_⟩
      · rw [hcl, sizeLine_eq]; omega
      · rw [len_tl, tl_append, List.length_append, ← len_tl, ← len_tl, hcl]
        omega
    · refine ⟨_, rfl, _, rfl, _, rfl, p4, _, rfl, .inl (SqL.of e5), F, b, _, rfl, sF5, B5, ?_, ?_, fun r7 H7 g7 f7 d7 B7 => ?_⟩
      · rw [l4]; decide
      · rw [l4]; decide
      · have e7 : H7 p4 = some (.lst c4) := by
          rw [d7 p4]
          · exact e5
          · intro z
            subst z
            obtain ⟨_, c, ns, i, x, k, t, fo, big, hb, _⟩ := B5
            rw [e5] at hb
            injection hb with hb
            injection hb with hb
            rw [hb] at l4
            cases l4
        obtain ⟨z, hz, hzl⟩ := SLb.get h4 (j := r7.toNat) (by omega)
        have hat := atI_nat hz
        rw [Int.toNat_of_nonneg g7] at hat
        exact ⟨_, _, _, _, rfl, rfl, SqL.of e7, hat, q0 _ _ (k5.draw d7) B7 hzl⟩
end
end Tw

namespace Tw
open PySem PySem.Spec PyProof.Rows L2 TL
section
variable {P : Program} {w : World} {K : PySem.W.Frag} {mg : Str → Option Value} {base : Heap} {A₀ : Ad}
def okW (cs : List Str) : Prop := ∀ c ∈ cs, c.length ≤ 5000
theorem nth_w {cs : List Str} {i : Int} (h0 : 0 ≤ i) (h1 : i < (cs.length : Int)) : ∃ c, cs[i.toNat]? = some c ∧ atI (cs.map V.str) i = some (.str c) := by
  have hi : i.toNat < cs.length := by omega
  refine ⟨cs[i.toNat], List.getElem?_eq_getElem hi, ?_⟩
  have h := atI_nat (xs := cs.map V.str) (j := i.toNat) (v := .str cs[i.toNat]) (by rw [List.getElem?_map, List.getElem?_eq_getElem hi]; rfl)
  rwa [Int.toNat_of_nonneg h0] at h
theorem map_ins {cs : List Str} {c : Str} {k : Nat} : (cs.map V.str).take k ++ [V.str c] ++ (cs.map V.str).drop k = (cs.take k ++ [c] ++ cs.drop k).map V.str := by
  rw [List.map_append, List.map_append, List.map_take, List.map_drop]
  rfl
theorem okW_ins {cs : List Str} {c : Str} {k : Nat} (h : okW cs) (hc : c.length ≤ 5000) : okW (cs.take k ++ [c] ++ cs.drop k) := fun x hx => by
  rcases List.mem_append.mp hx with hx | hx
  · rcases List.mem_append.mp hx with hx | hx
    · exact h x (List.mem_of_mem_take hx)
    · rw [List.mem_singleton.mp hx]; exact hc
  · exact h x (List.mem_of_mem_drop hx)
theorem okW_set {cs : List Str} {c : Str} {k : Nat} (h : okW cs) (hc : c.length ≤ 5000) : okW (cs.set k c) := fun x hx => by
  rcases List.mem_or_eq_of_mem_set hx with hx | rfl
  · exact h x hx
  · exact hc
theorem okW_erase {cs : List Str} {k : Nat} (h : okW cs) : okW (cs.eraseIdx k) := fun x hx => h x (List.mem_of_mem_eraseIdx hx)
theorem len_ins {cs : List Str} {c : Str} {k : Nat} : (cs.take k ++ [c] ++ cs.drop k).length = cs.length + 1 := by
  rw [List.length_append, List.length_append, List.length_take, List.length_drop, List.length_singleton]
  omega
theorem map_set {cs : List Str} {c : Str} {k : Nat} : (cs.map V.str).set k (V.str c) = (cs.set k c).map V.str := by
  rw [List.map_set]
theorem map_erase {cs : List Str} {k : Nat} : (cs.map V.str).eraseIdx k = (cs.eraseIdx k).map V.str := by
  induction cs generalizing k with
  | nil => rfl
  | cons c cs ih =>
    cases k with
    | zero => rfl
    | succ k =>
      show V.str c :: (cs.map V.str).eraseIdx k = _
      rw [ih]
      rfl
def spChanged (K : PySem.W.Frag) : Sp := fun vs H Q _ => ∃ (F : Hp) (b a : Addr) (ws : List Str), vs = [.ref b, .ref a] ∧ Same F H ∧ Bag K F H b ∧ SqL K H a (ws.map V.str) ∧ ws.length ≤ 100 ∧ okW ws ∧
  ∀ H' (z : Str), Same F H' → Bag K F H' b → z.length ≤ 900000 → Q (.str z) H'
theorem cal__law_changed (T : Txt P w K mg base A₀) : Cal P w K mg base CX0 "_law_changed" 4 ["bag", "words"] (spChanged K) := by
  have c__law_draw := cal__law_draw T; have c__law_odd_word := cal__law_odd_word T
  refine cal_of T.d__law_changed sc__law_changed b__law_changed (fun vs H Q E h => ?_) (fun f cdv A outer s H vs Q E hr h => ?_)
  · obtain ⟨F, b, a, ws, rfl, _⟩ := h
    rfl
  · obtain ⟨F, b, a, ws, rfl, sF, B, ha, hn, hw, q0⟩ := h
    refine ⟨_, (pss_cons (ps_set (i := 2) sc__law_changed.nd rfl (Or.inl rfl) (pe_callTy call_list_of (by rfl) T.n_list (by decide +kernel) (pa_cons (pv 1) pa_nil)))
  (pss_cons (ps_for PassesOwn.never rfl (pi_range1 (by rfl) T.n_range (pa_cons (pe_op op_add pe_int (pe_cal c__law_draw (hr.mono (by first | exact Nat.le_refl _ | decide)) (by rfl) (pa_cons (pv 0) (pa_cons pe_int pa_nil)))) pa_nil)) (pg_name (i := 3) sc__law_changed.nd rfl (Or.inl rfl)) (pss_cons (ps_set (i := 4) sc__law_changed.nd rfl (Or.inl rfl) (pe_cal c__law_draw (hr.mono (by first | exact Nat.le_refl _ | decide)) (by rfl) (pa_cons (pv 0) (pa_cons pe_int pa_nil))))
  (pss_cons (ps_set (i := 5) sc__law_changed.nd rfl (Or.inl rfl) (pe_cal c__law_draw (hr.mono (by first | exact Nat.le_refl _ | decide)) (by rfl) (pa_cons (pv 0) (pa_cons (pe_op op_add (pe_callB call_len_seq (by rfl) T.n_len PySem.boot_len (pa_cons (pv 2) pa_nil)) pe_int) pa_nil))))
  (pss_one (ps_if (PW.pt (pw_or (pt_cmpR op_eq (pv 4) pe_int (nomark _)) (pw_or1 (pt_not (pt_truth (pv 2) (by intro _; rfl)))))) (pss_one (ps_expr (pe_bm PySem.F.plainAttrs_list PySem.F.slot_list_insert PySem.F.type_list_insert mt_insert (pv 2) (pa_cons (pv 5) (pa_cons (pe_cal c__law_odd_word (hr.mono (by first | exact Nat.le_refl _ | decide)) (by rfl) (pa_cons (pv 0) pa_nil)) pa_nil))))) (pss_cons (ps_set (i := 6) sc__law_changed.nd rfl (Or.inl rfl) (pe_cal c__law_draw (hr.mono (by first | exact Nat.le_refl _ | decide)) (by rfl) (pa_cons (pv 0) (pa_cons (pe_callB call_len_seq (by rfl) T.n_len PySem.boot_len (pa_cons (pv 2) pa_nil)) pa_nil))))
  (pss_cons (ps_set (i := 7) sc__law_changed.nd rfl (Or.inl rfl) (pe_cal c__law_draw (hr.mono (by first | exact Nat.le_refl _ | decide)) (by rfl) (pa_cons (pv 0) (pa_cons (pe_callB call_len_seq (by rfl) T.n_len PySem.boot_len (pa_cons (pv 2) pa_nil)) pa_nil))))
  (pss_cons (ps_set (i := 8) sc__law_changed.nd rfl (Or.inl rfl) (pe_ix ix_list (pv 2) (pv 6) (fun _ _ => rfl)))
  (pss_one (ps_if (pt_cmpR op_eq (pv 4) pe_int (nomark _)) (pss_one (ps_asg (pe_cal c__law_odd_word (hr.mono (by first | exact Nat.le_refl _ | decide)) (by rfl) (pa_cons (pv 0) pa_nil)) (pg_sub (pv 2) (pv 6) set_list))) (pss_one (ps_if (pt_cmpR op_eq (pv 4) pe_int (nomark _)) (pss_one (ps_expr (pe_bm PySem.F.plainAttrs_list PySem.F.slot_list_insert PySem.F.type_list_insert mt_insert (pv 2) (pa_cons (pv 5) (pa_cons (pv 8) pa_nil))))) (pss_one (ps_if (pt_cmpR op_eq (pv 4) pe_int (nomark _)) (pss_one (ps_expr (pe_bm PySem.F.plainAttrs_list PySem.F.slot_list_pop PySem.F.type_list_pop mt_popAt (pv 2) (pa_cons (pv 6) pa_nil)))) (pss_cons (ps_asg (pe_ix ix_list (pv 2) (pv 7) (fun _ _ => rfl)) (pg_sub (pv 2) (pv 6) set_list))
  (pss_one (ps_asg (pv 8) (pg_sub (pv 2) (pv 7) set_list))))))))))))))))))
  (pss_cons (ps_set (i := 9) sc__law_changed.nd rfl (Or.inl rfl) (pe_join pe_str (pv 2)))
  (pss_cons (ps_set (i := 10) sc__law_changed.nd rfl (Or.inl rfl) (pe_cal c__law_draw (hr.mono (by first | exact Nat.le_refl _ | decide)) (by rfl) (pa_cons (pv 0) (pa_cons pe_int pa_nil))))
  (pss_cons (ps_if (pt_cmpR op_eq (pv 10) pe_int (nomark _)) (pss_one (ps_ret (pe_op op_add_str pe_str (pv 9)))) pss_nil)
  (pss_cons (ps_if (pt_cmpR op_eq (pv 10) pe_int (nomark _)) (pss_one (ps_ret (pe_op op_add_str (pv 9) pe_str))) pss_nil)
  (pss_one (ps_ret (pv 9))))))))), ?_⟩
    refine ⟨_, rfl, a, _, rfl, .inl ha, fun q nq => ?_⟩
    have nqb := B.ne nq
    have nFq : F q = none := sF.free nq
    have s1 := sF.trans (same_new (o := .lst (ws.map V.str)) nq)
    refine ⟨_, rfl, F, b, 3, rfl, s1, B.set nqb, by decide, by decide, fun n H1 n0 n3 k1 B1 => ⟨_, _, rfl, rfl, 1 + n, rfl, by omega, by omega, ?_⟩⟩
    have h1 : H1 q = some (.lst (ws.map V.str)) := by rw [k1 q nqb.symm]; exact upd_same
    refine for_range (lo := 0) (n := (1 + n).toNat) (fun i σ' H' => ∃ (y1 y2 y3 y4 y5 y6 y7 y8 : Option V) (cs : List Str), σ' = [some (.ref b), some (.ref a), some (.ref q), y1, y2, y3, y4, y5, y6, y7, y8] ∧ Same F H' ∧ Bag K F H' b ∧ H' q = some (.lst (cs.map V.str)) ∧ cs.length ≤ 100 + i ∧ okW cs) ?_ ?_ ?_
    · exact ⟨none, none, none, none, none, none, none, none, ws, rfl, same_draw k1 s1 (B.set nqb), B1, h1, hn, hw⟩
    · rintro i σ' H2 hi ⟨y1, y2, y3, y4, y5, y6, y7, y8, cs, rfl, s2, B2, q2, l2, w2⟩
      have hi4 : i < 3 := by omega
      refine ⟨_, rfl, F, b, 5, rfl, s2, B2, by decide, by decide, fun way H3 g3 f3 k3 B3 => ?_⟩
      have s3 := same_draw k3 s2 B2
      have q3 : H3 q = some (.lst (cs.map V.str)) := by rw [k3 q nqb.symm]; exact q2
      refine ⟨_, rfl, _, rfl, q, _, rfl, .inl (SqL.of q3), _, _, rfl, rfl, F, b, _, rfl, s3, B3, by omega, ?_, fun pl H4 g4 f4 k4 B4 => ?_⟩
      · rw [List.length_map]; omega
      rw [List.length_map] at f4
      have s4 := same_draw k4 s3 B3
      have q4 : H4 q = some (.lst (cs.map V.str)) := by rw [k4 q nqb.symm]; exact q3
      refine ⟨_, rfl, rfl, _, rfl, ite2 (fun _ => ?_) (fun _ => ?_)⟩
      · refine iteT ⟨_, rfl, .inl ⟨rfl, _, SqL.of q4⟩, _, rfl, _, rfl, F, b, rfl, s4, B4, fun H5 z k5 B5 hz => ?_⟩
        have q5 := k5 q _ nqb.symm q4
        refine ⟨q, _, pl, _, rfl, rfl, q5, by rw [List.length_map, sizeLine_eq]; omega, g4, by omega, ?_⟩
        refine ⟨_, _, _, _, _, _, _, _, _, rfl, same_upd (k5.same s4 B4) nFq, B5.set nqb, ?_, ?_, okW_ins (k := pl.toNat) w2 hz⟩
        · rw [upd_same, map_ins]
        · rw [len_ins]; omega
      show tNot _ _ _ _
      by_cases hcs : cs = []
      · subst hcs
        refine ⟨_, rfl, false, .inl ⟨_, SqL.of q4, rfl⟩, ?_⟩
        refine iteT ⟨_, rfl, .inl ⟨rfl, _, SqL.of q4⟩, _, rfl, _, rfl, F, b, rfl, s4, B4, fun H5 z k5 B5 hz => ?_⟩
        have q5 := k5 q _ nqb.symm q4
        refine ⟨q, _, pl, _, rfl, rfl, q5, by rw [sizeLine_eq]; decide, g4, by omega, ?_⟩
        refine ⟨_, _, _, _, _, _, _, _, _, rfl, same_upd (k5.same s4 B4) nFq, B5.set nqb, ?_, ?_, okW_ins (k := pl.toNat) w2 hz⟩
        · rw [upd_same, map_ins]
        · rw [len_ins]; omega
      have hpos : 0 < cs.length := List.length_pos_iff.mpr hcs
      refine ⟨_, rfl, true, .inl ⟨_, SqL.of q4, ?_⟩, ?_⟩
      · cases cs with
        | nil => exact absurd rfl hcs
        | cons c cs => rfl
      refine iteF ⟨_, rfl, _, rfl, q, _, rfl, .inl (SqL.of q4), F, b, _, rfl, s4, B4, by rw [List.length_map]; omega, by rw [List.length_map]; omega, fun sp H5 g5 f5 k5 B5 => ?_⟩
      rw [List.length_map] at f5
      have s5 := same_draw k5 s4 B4
      have q5 : H5 q = some (.lst (cs.map V.str)) := by rw [k5 q nqb.symm]; exact q4
      refine ⟨_, rfl, _, rfl, q, _, rfl, .inl (SqL.of q5), F, b, _, rfl, s5, B5, by rw [List.length_map]; omega, by rw [List.length_map]; omega, fun ot H6 g6 f6 k6 B6 => ?_⟩
      rw [List.length_map] at f6
      have s6 := same_draw k6 s5 B5
      have q6 : H6 q = some (.lst (cs.map V.str)) := by rw [k6 q nqb.symm]; exact q5
      obtain ⟨c, ec, hat⟩ := nth_w g5 f5
      obtain ⟨d, ed, hao⟩ := nth_w g6 f6
      have hc := w2 c (List.mem_of_getElem? ec)
      have hd := w2 d (List.mem_of_getElem? ed)
      refine ⟨_, rfl, _, rfl, q, _, _, _, rfl, rfl, SqL.of q6, hat, ?_⟩
      have ixs : ∀ xs : List V, xs.length = cs.length → ixN xs.length sp = some sp.toNat := fun xs e => ixN_lt (by omega) (by omega)
      have ixo : ∀ xs : List V, xs.length = cs.length → ixN xs.length ot = some ot.toNat := fun xs e => ixN_lt (by omega) (by omega)
      refine ⟨_, rfl, rfl, _, rfl, ite2 (fun _ => ?_) (fun _ => ⟨_, rfl, rfl, _, rfl, ite2 (fun _ => ?_) (fun _ => ⟨_, rfl, rfl, _, rfl, ite2 (fun _ => ?_) (fun _ => ?_)⟩)⟩)⟩
      · refine ⟨_, rfl, F, b, rfl, s6, B6, fun H7 z k7 B7 hz => ?_⟩
        have q7 := k7 q _ nqb.symm q6
        refine ⟨_, rfl, _, rfl, q, _, sp, sp.toNat, rfl, rfl, q7, ixs _ (List.length_map _), ?_⟩
        refine ⟨_, _, _, _, _, _, _, _, _, rfl, same_upd (k7.same s6 B6) nFq, B7.set nqb, ?_, ?_, okW_set (k := sp.toNat) w2 hz⟩
        · rw [upd_same, map_set]
        · rw [List.length_set]; omega
      · refine ⟨_, rfl, .inl ⟨rfl, _, SqL.of q6⟩, _, rfl, _, rfl, q, _, pl, _, rfl, rfl, q6, by rw [List.length_map, sizeLine_eq]; omega, g4, by omega, ?_⟩
        refine ⟨_, _, _, _, _, _, _, _, _, rfl, same_upd s6 nFq, B6.set nqb, ?_, ?_, okW_ins (k := pl.toNat) w2 hc⟩
        · rw [upd_same, map_ins]
        · rw [len_ins]; omega
      · refine ⟨_, rfl, .inl ⟨rfl, _, SqL.of q6⟩, _, rfl, q, _, sp, sp.toNat, .str c, rfl, rfl, q6, by omega, by omega, seqIndex_of g5 (by rw [List.length_map]; exact f5), by rw [List.getElem?_map, ec]; rfl, ?_⟩
        refine ⟨_, _, _, _, _, _, _, _, _, rfl, same_upd s6 nFq, B6.set nqb, ?_, ?_, okW_erase (k := sp.toNat) w2⟩
        · rw [upd_same, map_erase]
        · have := List.length_eraseIdx_le cs sp.toNat
          omega
      · refine ⟨_, rfl, _, rfl, q, _, _, _, rfl, rfl, SqL.of q6, hao, _, rfl, _, rfl, q, _, sp, sp.toNat, rfl, rfl, q6, ixs _ (List.length_map _), ?_⟩
        refine ⟨_, rfl, _, rfl, _, rfl, q, _, ot, ot.toNat, rfl, rfl, upd_same, ixo _ (by rw [List.length_set, List.length_map]), ?_⟩
        refine ⟨_, _, _, _, _, _, _, _, _, rfl, same_upd (same_upd s6 nFq) nFq, (B6.set nqb).set nqb, ?_, ?_, okW_set (k := ot.toNat) (okW_set (k := sp.toNat) w2 hd) hc⟩
        · rw [upd_same, map_set, map_set]
        · rw [List.length_set, List.length_set]; omega
    · rintro σ' H2 ⟨y1, y2, y3, y4, y5, y6, y7, y8, cs, rfl, s2, B2, q2, l2, w2⟩
      have hsum : ∀ l : List Str, okW l → (l.map (·.length)).sum ≤ 5000 * l.length := fun l h => by
        induction l with
        | nil => exact Nat.le_refl _
        | cons x l ih =>
          have h1 := h x List.mem_cons_self
          have h2 := ih fun y hy => h y (List.mem_cons_of_mem _ hy)
          rw [List.map_cons, List.sum_cons, List.length_cons]
          omega
      have hsp : ((" " : Str).length : Nat) = 1 := by decide +kernel
      have hs := hsum cs w2
      have hjl : (Txt.join " " cs).length ≤ 5001 * cs.length + 1 := by
        by_cases h : cs = []
        · subst h
          exact Nat.le_trans (by decide +kernel : (Txt.join " " ([] : List Str)).length ≤ 1) (by omega)
        · have e := joinL_len (cs.map tl) (by simpa using h)
          rw [List.map_map] at e
          rw [show ((fun x : List Nat => x.length + 1) ∘ tl) = fun w : Str => w.length + 1 from funext fun w => by show (tl w).length + 1 = _; rw [len_tl]] at e
          have e2 : (Txt.join " " cs).length = (joinL [32] (cs.map tl)).length := by
            rw [len_tl, join_eq, tl_join, tl_sp]
          have e3 : ∀ l : List Str, (l.map fun w : Str => w.length + 1).sum = (l.map (·.length)).sum + l.length := fun l => by
            induction l with
            | nil => rfl
            | cons x l ih => rw [List.map_cons, List.map_cons, List.sum_cons, List.sum_cons, List.length_cons, ih]; omega
          rw [e3] at e
          rw [e2]
          omega
      refine ⟨⟨_, rfl⟩, _, rfl, _, q, cs, rfl, rfl, .inl (SqL.of q2), ?_, ?_⟩
      · rw [hsp]; omega
      have nn : (1 + n).toNat ≤ 3 := by omega
      refine ⟨_, rfl, F, b, 16, rfl, s2, B2, by decide, by decide, fun pk H3 g3 f3 k3 B3 => ?_⟩
      have s3 := same_draw k3 s2 B2
      have ap : ∀ x y : Str, (x ++ y).length = x.length + y.length := fun x y => by rw [len_tl, tl_append, List.length_append, ← len_tl, ← len_tl]
      refine ⟨_, rfl, rfl, _, rfl, ite2 (fun _ => ?_) (fun _ => ⟨_, rfl, rfl, _, rfl, ite2 (fun _ => ?_) (fun _ => ?_)⟩)⟩
      · refine ⟨_, rfl, _, _, rfl, rfl, ?_, q0 _ _ s3 B3 ?_⟩
        · rw [hsp, sizeLine_eq]; omega
        · rw [ap, hsp]; omega
      · refine ⟨_, rfl, _, _, rfl, rfl, ?_, q0 _ _ s3 B3 ?_⟩
        · rw [hsp, sizeLine_eq]; omega
        · rw [ap, hsp]; omega
      · exact ⟨_, rfl, q0 _ _ s3 B3 (by omega)⟩
end
end Tw

namespace Tw
open PySem PySem.Spec PyProof.Rows L2 TL
theorem first_bad : ∀ (rs : List Ride), (∀ r ∈ rs, bad r = false) ∨ ∃ (k : Nat) (r : Ride), rs[k]? = some r ∧ bad r = true ∧ ∀ (j : Nat) (r' : Ride), j < k → rs[j]? = some r' → bad r' = false
  | [] => .inl fun r h => by cases h
  | r :: rs => by
    cases hb : bad r with
    | true => exact .inr ⟨0, r, rfl, hb, fun j _ h => absurd h (Nat.not_lt_zero _)⟩
    | false =>
      rcases first_bad rs with h | ⟨k, x, h1, h2, h3⟩
      · refine .inl fun y hy => ?_
        rcases List.mem_cons.mp hy with rfl | hy
        · exact hb
        · exact h y hy
      · refine .inr ⟨k + 1, x, h1, h2, fun j r' hj e => ?_⟩
        cases j with
        | zero => cases e; exact hb
        | succ j => exact h3 j r' (by omega) e
theorem word_nosp {r : Ride} (h : bad r = false) : 32 ∉ tl (wordOf r) := by
  obtain ⟨n, hn, e1, e2⟩ := good_of h
  obtain ⟨i, c⟩ := r
  dsimp only at e1 e2
  subst e1
  rw [tl_word hn]
  intro hm
  rcases List.mem_cons.mp hm with hm | hm
  · rcases e2 with rfl | rfl
    · rw [cps_red] at hm; cases hm
    · rw [cps_blue] at hm; cases hm
  · have := isDig_iff.mp (numT_dig hn 32 hm)
    omega
theorem wordsOf_wrT {rs : List Ride} (h : ∀ r ∈ rs, bad r = false) : wordsOf (wrT rs) = rs.map wordOf := by
  cases rs with
  | nil => rfl
  | cons r rs =>
    have hs := split_join (y := " ") (s := 32) (S := []) tl_sp (by decide +kernel) (parts := (r :: rs).map wordOf) (by simp) (fun p hp => by
      obtain ⟨x, hx, rfl⟩ := List.mem_map.mp hp
      exact word_nosp (h x hx))
    unfold wordsOf
    rw [if_neg]
    · exact hs
    · intro e
      have e2 : tl (wrT (r :: rs)) = [] := by rw [e]; rfl
      unfold wrT at e2
      rw [join_eq, tl_join, tl_sp] at e2
      have e3 := joinL_len (((r :: rs).map wordOf).map tl) (by simp)
      rw [e2] at e3
      rw [List.map_cons, List.map_cons, List.map_cons, List.sum_cons] at e3
      obtain ⟨n, hn, e1, _⟩ := good_of (h r List.mem_cons_self)
      obtain ⟨i, c⟩ := r
      dsimp only at e1
      subst e1
      rw [tl_word hn, List.length_cons, List.length_nil] at e3
      omega
theorem rides_wrT {rs : List Ride} (h : ∀ r ∈ rs, bad r = false) : (wordsOf (wrT rs)).map rideOf = rs.map some := by
  rw [wordsOf_wrT h, List.map_map]
  refine List.map_congr_left fun r hr => ?_
  exact ride_word (h r hr)
theorem wrT_len {rs : List Ride} (h : ∀ r ∈ rs, bad r = false) : (wrT rs).length ≤ 4 * rs.length := by
  cases rs with
  | nil => exact Nat.le_trans (by decide +kernel : (wrT []).length ≤ 0) (Nat.zero_le _)
  | cons r rs =>
    have e3 := joinL_len (((r :: rs).map wordOf).map tl) (by simp)
    have hl : (wrT (r :: rs)).length = (joinL [32] (((r :: rs).map wordOf).map tl)).length := by
      unfold wrT
      rw [len_tl, join_eq, tl_join, tl_sp]
    have hs : ∀ l : List Ride, (∀ r ∈ l, bad r = false) → (((l.map wordOf).map tl).map fun x => x.length + 1).sum ≤ 4 * l.length := fun l h => by
      induction l with
      | nil => exact Nat.le_refl _
      | cons x l ih =>
        have h1 := word_len (h x List.mem_cons_self)
        rw [len_tl] at h1
        have h2 := ih fun y hy => h y (List.mem_cons_of_mem _ hy)
        rw [List.map_cons, List.map_cons, List.map_cons, List.sum_cons, List.length_cons]
        omega
    have := hs _ h
    omega
section
variable {P : Program} {w : World} {K : PySem.W.Frag} {mg : Str → Option Value} {base : Heap} {A₀ : Ad}
theorem exStr (x : Str) : ExD 5 (.list [.str x]) := ⟨(by show 1 ≤ 1000001; decide), fun d hd => by rw [List.mem_singleton.mp hd]; exact trivial⟩
theorem exTup (x : Str) (k : Int) : ExD 5 (.list [.tuple [.str x, .int k]]) := ⟨(by show 1 ≤ 1000001; decide), fun d hd => by
  rw [List.mem_singleton.mp hd]
  exact ⟨(by show 2 ≤ 1000001; decide), fun d hd => by
    rcases List.mem_cons.mp hd with rfl | hd
    · exact trivial
    · rw [List.mem_singleton.mp hd]
      exact trivial⟩⟩
theorem exRides (n : Nat) (rs : List Ride) : ∀ d ∈ rs.map rideD, ExD (n + 1) d := fun d hd => by
  obtain ⟨r, _, rfl⟩ := List.mem_map.mp hd
  exact ⟨(by show 2 ≤ 1000001; decide), fun d hd => by
    rcases List.mem_cons.mp hd with rfl | hd
    · cases n <;> exact trivial
    · rw [List.mem_singleton.mp hd]
      cases n <;> exact trivial⟩
theorem exLst {rs : List Ride} (h : rs.length ≤ 1000001) : ExD 5 (.list [.list (rs.map rideD)]) := ⟨(by show 1 ≤ 1000001; decide), fun d hd => by
  rw [List.mem_singleton.mp hd]
  exact ⟨by rw [List.length_map]; exact h, exRides 2 rs⟩⟩
theorem Bag.neS {F H : Hp} {b a : Addr} {ws : List Str} (B : Bag K F H b) (h : H a = some (.lst (ws.map V.str))) : a ≠ b := fun e => by
  subst e
  obtain ⟨_, c, ns, i, x, k, t, fo, big, hb, _⟩ := B
  rw [h] at hb
  injection hb with hb
  injection hb with hb
  cases ws with
  | nil => cases hb
  | cons w ws => injection hb with hb _; cases hb
def spLaw (K : PySem.W.Frag) : Sp := fun vs H Q _ => ∃ (a : Addr) (ns : List Int), vs = [.ref a] ∧ SqL K H a (ns.map V.int) ∧ ns.length ≤ 63 ∧ ∀ H', Q (.bl true) H'
theorem ok_law (T : Txt P w K mg base A₀) {f : Addr} {fd : FuncData} (F : Fun K "law" "law" s_law f fd) : FnOk P w K mg base CX0 8 f fd ["script"] (spLaw K) := by
  have c__law_bag := cal__law_bag T; have c__law_row := cal__law_row T; have c__law_bent := cal__law_bent T; have c__law_row_due := cal__law_row_due T; have c__law_text_right := cal__law_text_right T; have c__law_exact := cal__law_exact T; have c__law_read := cal__law_read T; have c__law_written := cal__law_written T; have c__law_changed := cal__law_changed T
  refine F.ok sc_law (fun vs H Q E h => ?_) (fun cdv A outer s H vs Q E hr h => ?_)
  · obtain ⟨a, ns, rfl, _⟩ := h
    rfl
  · obtain ⟨a, ns, rfl, ha, hl, q0⟩ := h
    refine ⟨_, (pss_cons (ps_set (i := 1) sc_law.nd rfl (Or.inl rfl) (pe_cal c__law_bag (hr.mono (by first | exact Nat.le_refl _ | decide)) (by rfl) (pa_cons (pv 0) pa_nil)))
  (pss_cons (ps_set (i := 2) sc_law.nd rfl (Or.inl rfl) (pe_cal c__law_row (hr.mono (by first | exact Nat.le_refl _ | decide)) (by rfl) (pa_cons (pv 1) pa_nil)))
  (pss_cons (ps_set (i := 3) sc_law.nd rfl (Or.inl rfl) (pe_cal c__law_bent (hr.mono (by first | exact Nat.le_refl _ | decide)) (by rfl) (pa_cons (pv 1) (pa_cons (pv 2) pa_nil))))
  (pss_cons (ps_set (i := 4) sc_law.nd rfl (Or.inl rfl) (pe_callTy call_list_of (by rfl) T.n_list (by decide +kernel) (pa_cons (pv 3) pa_nil)))
  (Evl.pss_cut (ps_if (PW.pt (pw_or (pt_not (pt_val (pe_cal c__law_exact (hr.mono (by first | exact Nat.le_refl _ | decide)) (by rfl) (pa_cons (pe_cal c__law_written (hr.mono (by first | exact Nat.le_refl _ | decide)) (by rfl) (pa_cons (pv 4) pa_nil)) (pa_cons (pe_cal c__law_row_due (hr.mono (by first | exact Nat.le_refl _ | decide)) (by rfl) (pa_cons (pv 3) pa_nil)) pa_nil))))) (pw_or1 (pt_cmpR (op_neD hr.units) (pv 4) (pv 3) (nomark _))))) (pss_one (ps_ret pe_bl)) pss_nil)
  (pss_cons (ps_set (i := 5) sc_law.nd rfl (Or.inl rfl) (pe_cal c__law_row_due (hr.mono (by first | exact Nat.le_refl _ | decide)) (by rfl) (pa_cons (pv 2) pa_nil)))
  (Evl.pss_cut (ps_if (PW.pt (pw_or (pt_not (pt_val (pe_cal c__law_exact (hr.mono (by first | exact Nat.le_refl _ | decide)) (by rfl) (pa_cons (pe_cal c__law_written (hr.mono (by first | exact Nat.le_refl _ | decide)) (by rfl) (pa_cons (pe_callTy call_list_of (by rfl) T.n_list (by decide +kernel) (pa_cons (pv 2) pa_nil)) pa_nil)) (pa_cons (pv 5) pa_nil))))) (pw_or1 (pt_not (pt_val (pe_cal c__law_exact (hr.mono (by first | exact Nat.le_refl _ | decide)) (by rfl) (pa_cons (pe_cal c__law_read (hr.mono (by first | exact Nat.le_refl _ | decide)) (by rfl) (pa_cons (pe_ix ix_list (pv 5) pe_int (fun _ _ => rfl)) pa_nil)) (pa_cons (pe_lst (pa_cons (pv 2) pa_nil)) pa_nil)))))))) (pss_one (ps_ret pe_bl)) pss_nil)
  (pss_cons (ps_set (i := 6) sc_law.nd rfl (Or.inl rfl) (pe_lst pa_nil))
  (Evl.pss_cut (ps_if (pt_truth (pv 2) (by intro _; rfl)) (pss_one (ps_set (i := 6) sc_law.nd rfl (Or.inl rfl) (pe_split (pe_ix ix_list (pv 5) pe_int (fun _ _ => rfl)) pe_str))) pss_nil)
  (pss_cons (ps_for PassesOwn.never rfl (pi_range1 (by rfl) T.n_range (pa_cons pe_int pa_nil)) (pg_name (i := 7) sc_law.nd rfl (Or.inl rfl)) (pss_one (ps_if (PW.pt (pw_or (pt_not (pt_val (pe_cal c__law_text_right (hr.mono (by first | exact Nat.le_refl _ | decide)) (by rfl) (pa_cons (pe_cal c__law_changed (hr.mono (by first | exact Nat.le_refl _ | decide)) (by rfl) (pa_cons (pv 1) (pa_cons (pv 6) pa_nil))) pa_nil)))) (pw_or1 (pt_not (pt_val (pe_cal c__law_text_right (hr.mono (by first | exact Nat.le_refl _ | decide)) (by rfl) (pa_cons (pe_ix ix_list (pv 5) pe_int (fun _ _ => rfl)) pa_nil))))))) (pss_one (ps_ret pe_bl)) pss_nil)))
  (pss_one (ps_ret (pe_and (pe_cal c__law_text_right (hr.mono (by first | exact Nat.le_refl _ | decide)) (by rfl) (pa_cons pe_str pa_nil)) (pe_one (pe_cal c__law_exact (hr.mono (by first | exact Nat.le_refl _ | decide)) (by rfl) (pa_cons (pe_cal c__law_read (hr.mono (by first | exact Nat.le_refl _ | decide)) (by rfl) (pa_cons pe_str pa_nil)) (pa_cons (pe_lst (pa_cons (pe_tup (pa_cons pe_str (pa_cons pe_int pa_nil))) pa_nil)) pa_nil))))))))))))))))), ?_⟩
    refine ⟨_, rfl, a, ns, rfl, ha, hl, fun F H1 b s0 s1 nb B1 => ?_⟩
    refine ⟨_, rfl, F, b, rfl, s1, B1, fun F2 H2 q ys rs sF2 s2 B2 hq R2 l2 good => ?_⟩
    refine ⟨_, rfl, _, rfl, F2, b, q, ys, rs, rfl, s2, B2, hq, R2, l2, fun r hr => okR_good (good r hr), fun F3 H3 q3 ys3 rs3 sF3 s3 B3 hq3 R3 l3 ok3 => ?_⟩
    refine ⟨_, rfl, q3, ys3, rfl, .inl (SqL.of (s3 _ _ hq3)), fun hd nh => ?_⟩
    have s4 : Same F3 (upd H3 hd (.lst ys3)) := s3.trans (same_new nh)
    have D4 : Dp K (upd H3 hd (.lst ys3)) (.ref hd) (.list (rs3.map rideD)) := .lst (SqL.of upd_same) (R3.lift s4).dp
    have D4b : Dp K (upd H3 hd (.lst ys3)) (.ref q3) (.list (rs3.map rideD)) := .lst (SqL.of (s4 _ _ hq3)) (R3.lift s4).dp
    have eqD : PyData.eqv (.list (rs3.map rideD)) (.list (rs3.map rideD)) = true := PySem.SeqAt.eqv_refl _ (by
      simp only [PyData.canLay0]
      exact (lay_rides rs3 fun r hr => (ok3 r hr).2).1)
    have shD : SeqAt.shaped (.list (rs3.map rideD)) = true := shaped_rides fun r hr => (ok3 r hr).2
    refine ⟨fun σ' H' => σ' = [some (.ref a), some (.ref b), some (.ref q), some (.ref q3), some (.ref hd), none, none, none] ∧ Same F3 H' ∧ Bag K F3 H' b, ?_, ?_⟩
    · rcases first_bad rs3 with good3 | ⟨k, r, e1, e2, e3⟩
      · refine ⟨_, rfl, .ref hd, rs3, rfl, D4, by omega, fun _ H5 q5 s5 h5 => ?_, fun k r e1 e2 => absurd e2 (by rw [good3 r (List.mem_of_getElem? e1)]; simp)⟩
        refine ⟨_, rfl, .ref q3, rs3, rfl, Dp.same s5 D4b, by omega, fun _ H6 q6 s6 h6 => ?_, fun k r e1 e2 => absurd e2 (by rw [good3 r (List.mem_of_getElem? e1)]; simp)⟩
        refine ⟨.ref q5, .ref q6, _, rfl, .lst (SqL.of (s6 _ _ h5)) (.cons (.str _) .nil), .lst (SqL.of h6) (.cons (.str _) .nil), exStr _, fun H7 s7 => ⟨_, rfl, ?_⟩⟩
        have s47 := (s5.trans s6).trans s7
        refine ⟨_, rfl, _, rfl, _, _, Dp.same s47 D4, Dp.same s47 D4b, shD, shD, _, rfl, ?_⟩
        rw [eqD]
        exact ⟨rfl, s4.trans s47, (B3.set (B3.ne nh)).lift s47⟩
      · have uq : ∀ (k' : Nat) (r' : Ride), rs3[k']? = some r' → bad r' = true → (∀ (j : Nat) (x : Ride), j < k' → rs3[j]? = some x → bad x = false) → k' = k := fun k' r' h1 h2 h3 => by
          rcases Nat.lt_trichotomy k' k with h | h | h
          · rw [e3 k' r' h h1] at h2; cases h2
          · exact h
          · rw [h3 k r h e1] at e2; cases e2
        have ng : ¬ ∀ r ∈ rs3, bad r = false := fun g => by rw [g r (List.mem_of_getElem? e1)] at e2; cases e2
        have fin : ∀ {H' : Hp} {a t : Addr}, H' a = some (.lst [.ref t]) → H' t = some (.tup [.str "BadRide", .int (k : Int)]) → Dp K H' (.ref a) (.list [.tuple [.str "BadRide", .int (k : Int)]]) := fun ha ht =>
          .lst (SqL.of ha) (.cons (.tup (SqT.of ht) (.cons (.str _) (.cons (.int _) .nil))) .nil)
        refine ⟨_, rfl, .ref hd, rs3, rfl, D4, by omega, fun g => absurd g ng, fun k1 r1 f1 f2 f3 H5 q5 t5 s5 h5 g5 => ?_⟩
        obtain rfl := uq k1 r1 f1 f2 f3
        refine ⟨_, rfl, .ref q3, rs3, rfl, Dp.same s5 D4b, by omega, fun g => absurd g ng, fun k2 r2 f1 f2 f3 H6 q6 t6 s6 h6 g6 => ?_⟩
        obtain rfl := uq k2 r2 f1 f2 f3
        refine ⟨.ref q5, .ref q6, _, rfl, fin (s6 _ _ h5) (s6 _ _ g5), fin h6 g6, exTup _ _, fun H7 s7 => ⟨_, rfl, ?_⟩⟩
        have s47 := (s5.trans s6).trans s7
        refine ⟨_, rfl, _, rfl, _, _, Dp.same s47 D4, Dp.same s47 D4b, shD, shD, _, rfl, ?_⟩
        rw [eqD]
        exact ⟨rfl, s4.trans s47, (B3.set (B3.ne nh)).lift s47⟩
    · rintro σ' H4 ⟨rfl, s4, B4⟩
      have s24 : Same F2 H4 := sF3.trans s4
      have Dq : ∀ {H' : Hp}, Same H4 H' → Dp K H' (.ref q) (.list (rs.map rideD)) := fun s => .lst (SqL.of (s _ _ (s24 _ _ hq))) ((R2.lift s24).lift s).dp
      have hzl := wrT_len good
      have hrw := rides_wrT good
      refine ⟨_, rfl, .ref q, rs, rfl, Dq (Same.refl _), by omega, fun _ H5 qd s5 h5 => ?_, fun k r e1 e2 => absurd e2 (by rw [good r (List.mem_of_getElem? e1)]; simp)⟩
      refine ⟨fun σ' H' => σ' = [some (.ref a), some (.ref b), some (.ref q), some (.ref q3), some (.ref hd), some (.ref qd), none, none] ∧ Same H5 H', ?_, ?_⟩
      · refine ⟨_, rfl, q, ys, rfl, .inl (SqL.of (s5 _ _ (s24 _ _ hq))), fun l nl => ?_⟩
        have s6 := same_new (o := .lst ys) nl
        refine ⟨.ref l, rs, rfl, .lst (SqL.of upd_same) ((R2.lift s24).lift (s5.trans s6)).dp, by omega, fun _ H7 q7 s7 h7 => ?_, fun k r e1 e2 => absurd e2 (by rw [good r (List.mem_of_getElem? e1)]; simp)⟩
        refine ⟨_, rfl, .ref q7, .ref qd, _, rfl, .lst (SqL.of h7) (.cons (.str _) .nil), .lst (SqL.of ((s6.trans s7) _ _ h5)) (.cons (.str _) .nil), exStr _, fun H8 s8 => ⟨_, rfl, ?_⟩⟩
        have s58 := (s6.trans s7).trans s8
        refine ⟨_, rfl, _, _, _, _, rfl, rfl, SqL.of (s58 _ _ h5), atI_nat (j := 0) rfl, _, rfl, by omega, fun rs' e H9 q9 p9 ys9 s9 np9 h9 g9 d9 => ?_, fun k e => ?_⟩
        · have er : rs' = rs := by
            rw [hrw] at e
            exact (List.map_inj_right (fun x y h => Option.some.inj h)).mp e.symm
          subst er
          refine ⟨_, rfl, (by show 1 ≤ sizeLine; rw [sizeLine_eq]; decide), fun n nn => ⟨.ref q9, .ref n, .list [.list (rs'.map rideD)], rfl, .lst (SqL.of (same_new nn _ _ h9)) (.cons (.lst (SqL.of (same_new nn _ _ g9)) (DpAll.same (same_new nn) d9)) .nil), .lst (SqL.of upd_same) (.cons (Dq (((s5.trans s58).trans s9).trans (same_new nn))) .nil), exLst (by omega), fun H10 s10 => ⟨_, rfl, rfl, ((s58.trans s9).trans (same_new nn)).trans s10⟩⟩⟩
        · exfalso
          rw [hrw, List.getElem?_map] at e
          cases h : rs[k]? with
          | none => rw [h] at e; cases e
          | some r => rw [h] at e; cases e
      · rintro σ' H6 ⟨rfl, s6⟩
        refine ⟨(by show 0 ≤ sizeLine; rw [sizeLine_eq]; decide), fun w0 nw => ?_⟩
        have s7 := s6.trans (same_new (o := .lst []) nw)
        have s27 := (s24.trans s5).trans s7
        refine ⟨fun σ' H' => ∃ (wa : Addr) (ws : List Str), σ' = [some (.ref a), some (.ref b), some (.ref q), some (.ref q3), some (.ref hd), some (.ref qd), some (.ref wa), none] ∧ Same H5 H' ∧ H' wa = some (.lst (ws.map V.str)) ∧ ws.length ≤ 100 ∧ okW ws, ?_, ?_⟩
        · cases ys with
          | nil =>
            refine ⟨_, rfl, false, .inl ⟨_, SqL.of (s27 _ _ hq), rfl⟩, iteF ?_⟩
            exact ⟨w0, [], rfl, s7, upd_same, by decide, fun c h => by cases h⟩
          | cons y ys =>
            refine ⟨_, rfl, true, .inl ⟨_, SqL.of (s27 _ _ hq), rfl⟩, iteT ?_⟩
            have ews : Txt.split (wrT rs) " " = rs.map wordOf := by
              have e := wordsOf_wrT good
              unfold wordsOf at e
              by_cases hz : wrT rs = ""
              · rw [if_pos hz] at e
                have := R2.len
                have e2 := congrArg List.length e
                rw [List.length_map] at e2
                rw [← e2] at this
                cases this
              · rwa [if_neg hz] at e
            refine ⟨_, rfl, _, _, _, _, rfl, rfl, SqL.of (s7 _ _ h5), atI_nat (j := 0) rfl, ⟨_, rfl⟩, _, _, rfl, rfl, (by decide +kernel), by rw [sizeLine_eq]; omega, fun p np => ?_⟩
            refine ⟨p, rs.map wordOf, rfl, s7.trans (same_new np), by rw [upd_same, ews], by rw [List.length_map]; omega, fun c hc => ?_⟩
            obtain ⟨r, hr, rfl⟩ := List.mem_map.mp hc
            have := word_len (good r hr)
            omega
        · rintro σ' H8 ⟨wa, ws, rfl, s8, hwa, hwl, hww⟩
          have B8 : Bag K F3 H8 b := B4.lift (s5.trans s8)
          have s38 : Same F3 H8 := (s4.trans s5).trans s8
          obtain ⟨t1, t2, t3⟩ := B8.settle s38
          have hqd := s8 _ _ h5
          have fwa : del H8 b wa = some (.lst (ws.map V.str)) := by rw [del_ne (B8.neS hwa)]; exact hwa
          have fqd : del H8 b qd = some (.lst [.str (wrT rs)]) := by rw [del_ne (B8.neS (ws := [wrT rs]) hqd)]; exact hqd
          generalize del H8 b = F8 at t1 t2 t3 fwa fqd
          refine ⟨3, rfl, by decide, by decide, for_range (lo := 0) (n := (3 : Int).toNat) (fun i σ' H' => (∃ y, σ' = [some (.ref a), some (.ref b), some (.ref q), some (.ref q3), some (.ref hd), some (.ref qd), some (.ref wa), y]) ∧ Same F8 H' ∧ Bag K F8 H' b) ⟨⟨_, rfl⟩, t2, t3⟩ ?_ ?_⟩
          · rintro i σ' H9 hi ⟨⟨y, rfl⟩, s9, B9⟩
            refine ⟨_, rfl, _, rfl, F8, b, wa, ws, rfl, s9, B9, SqL.of (s9 _ _ fwa), hwl, hww, fun H10 z s10 B10 hz => ⟨z, rfl, by omega, fun H11 s11 => ⟨_, rfl, ?_⟩⟩⟩
            refine ⟨_, rfl, _, _, _, _, rfl, rfl, SqL.of ((s10.trans s11) _ _ fqd), atI_nat (j := 0) rfl, _, rfl, by omega, fun H12 s12 => ⟨_, rfl, ?_⟩⟩
            exact ⟨⟨_, rfl⟩, (s10.trans s11).trans s12, (B10.lift s11).lift s12⟩
          · rintro σ' H9 ⟨⟨y, rfl⟩, s9, B9⟩
            have esp : (wordsOf " ").map rideOf = [none, none] := by
              have e : wordsOf " " = [Str.empty, Str.empty] := by decide +kernel
              rw [e]
              rfl
            refine ⟨"", rfl, by decide +kernel, fun H10 s10 => ⟨_, rfl, ?_⟩⟩
            refine iteT ⟨" ", rfl, by decide +kernel, fun rs' e => ?_, fun k e1 e2 H11 q11 t11 s11 h11 g11 => ?_⟩
            · rw [esp] at e
              cases rs' with
              | nil => cases e
              | cons r rs' => injection e with e _; cases e
            · rw [esp] at e1 e2
              have hk : k = 0 := by
                cases k with
                | zero => rfl
                | succ k => exact absurd rfl (e2 0 (by omega))
              subst hk
              refine ⟨(by show 2 ≤ sizeLine; rw [sizeLine_eq]; decide), fun t nt => ⟨(by show 1 ≤ sizeLine; rw [sizeLine_eq]; decide), fun p np => ⟨.ref q11, .ref p, .list [.tuple [.str "BadWord", .int 0]], rfl, ?_, ?_, exTup _ _, fun H12 s12 => q0 _⟩⟩⟩
              · exact .lst (SqL.of (same_new np _ _ (same_new nt _ _ h11))) (.cons (.tup (SqT.of (same_new np _ _ (same_new nt _ _ g11))) (.cons (.str _) (.cons (.int _) .nil))) .nil)
              · exact .lst (SqL.of upd_same) (.cons (.tup (SqT.of (same_new np _ _ upd_same)) (.cons (.str _) (.cons (.int _) .nil))) .nil)
end
end Tw

namespace Tw
open PySem PySem.Spec PyProof.Rows L2 TL NdefX
abbrev s_BadRide : Stmt := inClass (top 4) 0
abbrev s_BadWord : Stmt := inClass (top 6) 0
section
variable {P : Program} {w : World} {K : PySem.W.Frag} {mg : Str → Option Value} {base : Heap} {A₀ : Ad}
theorem len_lit (n : Nat) {z : Str} (h : z.length ≤ n) (hn : n ≤ 16777216 := by decide) : z.length ≤ sizeLine := by rw [sizeLine_eq]; omega
theorem ap_len (x y : Str) : (x ++ y).length = x.length + y.length := by rw [len_tl, tl_append, List.length_append, ← len_tl, ← len_tl]
theorem ini_BadRide {f C cc cda : Addr} {doc pm ct oc : Value} {od : Option Addr} {osl : Array (Option Value)} (T : OexC K C) (U : SupTxt P K C cc cda) (hn : PySem.W.findIn K (.ref C) "place" = some none)
    (lk : K.lookup f = some ⟨oc, od, .func (PySem.W.ksFn "__init__" "BadRide.__init__" (defArgs s_BadRide) (defBody s_BadRide) (defScope s_BadRide) .none .none doc pm none (.ref cda) ct cc), osl⟩) (hcd : PySem.W.codeIn K (.ref cda) "BadRide.__init__" = true) :
    FnOk P w K mg base CX0 1 f (PySem.W.ksFn "__init__" "BadRide.__init__" (defArgs s_BadRide) (defBody s_BadRide) (defScope s_BadRide) .none .none doc pm none (.ref cda) ct cc) ["self", "place"] (spIni C ["place"]) := by
  refine ini_ok (prest := []) (N := ["self", "place", "__class__"]) (ps := ["self", "place"]) lk hcd (nscope_by (by decide +kernel)) T U (by decide +kernel) rfl rfl (fun env => ⟨_, rfl⟩) (fun env => rfl) (fun env => rfl) (fun vs H Q E h => ?_) (fun A outer s H vs Q E h => ?_)
  · obtain ⟨a, ys, rfl, hl, _⟩ := h
    rw [List.length_cons, hl]
    rfl
  · obtain ⟨a, ys, rfl, hl, ha, ok, q⟩ := h
    obtain ⟨y, rfl⟩ : ∃ y, ys = [y] := by
      match ys, hl with
      | [y], _ => exact ⟨y, rfl⟩
    refine ⟨a, _, _, rfl, ha, pe_joined (PJ.cons pe_str (PJ.cons (pe_fmt (pv 1)) (PJ.cons pe_str PJ.nil))), pss_one (ps_ost (pv 0) (pv 1)), ?_⟩
    have kz : (Str.empty : Str).length = 0 := by decide +kernel
    have hl1 : ("ride " : Str).length ≤ 100 := by decide +kernel
    have hl2 : (" is bad" : Str).length ≤ 100 := by decide +kernel
    obtain ⟨z, hz, hc⟩ : ∃ z : Str, z.length ≤ 100000 ∧ ((y = .str z) ∨ ∃ i : Int, y = .int i ∧ i.natAbs.log2 < 1920 ∧ z = Str.ofString (toString i)) := by
      rcases ok y List.mem_cons_self with ⟨i, rfl, h⟩ | ⟨z, rfl, h⟩
      · exact ⟨_, Nat.le_trans (int_text_len_1921 h) (by decide), .inr ⟨i, rfl, h, rfl⟩⟩
      · exact ⟨z, h, .inl rfl⟩
    have fin : ∃ x : Str, V.str z = .str x ∧ (Str.empty ++ "ride " ++ x).length ≤ sizeLine ∧ ∃ x2 : Str, V.str " is bad" = .str x2 ∧ (Str.empty ++ "ride " ++ x ++ x2).length ≤ sizeLine ∧ H a = some (exo a C none) ∧
        tOst K "place" (tVar 0) (tVar 1) { nx := fun x H' => Q V.non H', rt := Q } (startF ["self", "place", "__class__"] [V.ref a, y] [none]) H := by
      refine ⟨z, rfl, ?_, _, rfl, ?_, ha, ?_⟩
      · rw [ap_len, ap_len, sizeLine_eq]; omega
      · rw [ap_len, ap_len, ap_len, sizeLine_eq]; omega
      · refine ⟨_, rfl, _, rfl, a, C, rfl, T, hn, .inl ⟨ha, fun dx nd ne => ?_⟩⟩
        refine q dx _ nd ne (fun b h1 h2 => ?_) upd_same ?_
        · rw [upd_ne h1, upd_ne h2]
        · rw [upd_ne ne, upd_same]
          rfl
    refine ⟨_, rfl, ?_, _, rfl, ?_⟩
    · rw [ap_len, sizeLine_eq]; omega
    · rcases hc with rfl | ⟨i, rfl, h, rfl⟩
      · exact .inl ⟨z, rfl, by rw [sizeLine_eq]; omega, fin⟩
      · exact .inr ⟨i, rfl, h, fin⟩
theorem ini_BadWord {f C cc cda : Addr} {doc pm ct oc : Value} {od : Option Addr} {osl : Array (Option Value)} (T : OexC K C) (U : SupTxt P K C cc cda) (hn : PySem.W.findIn K (.ref C) "place" = some none)
    (lk : K.lookup f = some ⟨oc, od, .func (PySem.W.ksFn "__init__" "BadWord.__init__" (defArgs s_BadWord) (defBody s_BadWord) (defScope s_BadWord) .none .none doc pm none (.ref cda) ct cc), osl⟩) (hcd : PySem.W.codeIn K (.ref cda) "BadWord.__init__" = true) :
    FnOk P w K mg base CX0 1 f (PySem.W.ksFn "__init__" "BadWord.__init__" (defArgs s_BadWord) (defBody s_BadWord) (defScope s_BadWord) .none .none doc pm none (.ref cda) ct cc) ["self", "place"] (spIni C ["place"]) := by
  refine ini_ok (prest := []) (N := ["self", "place", "__class__"]) (ps := ["self", "place"]) lk hcd (nscope_by (by decide +kernel)) T U (by decide +kernel) rfl rfl (fun env => ⟨_, rfl⟩) (fun env => rfl) (fun env => rfl) (fun vs H Q E h => ?_) (fun A outer s H vs Q E h => ?_)
  · obtain ⟨a, ys, rfl, hl, _⟩ := h
    rw [List.length_cons, hl]
    rfl
  · obtain ⟨a, ys, rfl, hl, ha, ok, q⟩ := h
    obtain ⟨y, rfl⟩ : ∃ y, ys = [y] := by
      match ys, hl with
      | [y], _ => exact ⟨y, rfl⟩
    refine ⟨a, _, _, rfl, ha, pe_joined (PJ.cons pe_str (PJ.cons (pe_fmt (pv 1)) (PJ.cons pe_str PJ.nil))), pss_one (ps_ost (pv 0) (pv 1)), ?_⟩
    have kz : (Str.empty : Str).length = 0 := by decide +kernel
    have hl1 : ("word " : Str).length ≤ 100 := by decide +kernel
    have hl2 : (" of the text is bad" : Str).length ≤ 100 := by decide +kernel
    obtain ⟨z, hz, hc⟩ : ∃ z : Str, z.length ≤ 100000 ∧ ((y = .str z) ∨ ∃ i : Int, y = .int i ∧ i.natAbs.log2 < 1920 ∧ z = Str.ofString (toString i)) := by
      rcases ok y List.mem_cons_self with ⟨i, rfl, h⟩ | ⟨z, rfl, h⟩
      · exact ⟨_, Nat.le_trans (int_text_len_1921 h) (by decide), .inr ⟨i, rfl, h, rfl⟩⟩
      · exact ⟨z, h, .inl rfl⟩
    have fin : ∃ x : Str, V.str z = .str x ∧ (Str.empty ++ "word " ++ x).length ≤ sizeLine ∧ ∃ x2 : Str, V.str " of the text is bad" = .str x2 ∧ (Str.empty ++ "word " ++ x ++ x2).length ≤ sizeLine ∧ H a = some (exo a C none) ∧
        tOst K "place" (tVar 0) (tVar 1) { nx := fun x H' => Q V.non H', rt := Q } (startF ["self", "place", "__class__"] [V.ref a, y] [none]) H := by
      refine ⟨z, rfl, ?_, _, rfl, ?_, ha, ?_⟩
      · rw [ap_len, ap_len, sizeLine_eq]; omega
      · rw [ap_len, ap_len, ap_len, sizeLine_eq]; omega
      · refine ⟨_, rfl, _, rfl, a, C, rfl, T, hn, .inl ⟨ha, fun dx nd ne => ?_⟩⟩
        refine q dx _ nd ne (fun b h1 h2 => ?_) upd_same ?_
        · rw [upd_ne h1, upd_ne h2]
        · rw [upd_ne ne, upd_same]
          rfl
    refine ⟨_, rfl, ?_, _, rfl, ?_⟩
    · rw [ap_len, sizeLine_eq]; omega
    · rcases hc with rfl | ⟨i, rfl, h, rfl⟩
      · exact .inl ⟨z, rfl, by rw [sizeLine_eq]; omega, fin⟩
      · exact .inr ⟨i, rfl, h, fin⟩
end
end Tw

namespace Tw
open PySem PySem.Spec PyProof.Rows L2 TL NdefX
theorem all_mk {P : Program} {w : World} {K : PySem.W.Frag} {h : Heap} {mg : Str → Option Value} {fa col_ c_RopeError c_NoRope c_NoColour c_BadRide c_BadText c_BadWord : Addr} {tHR_ : Tok} (X : K.In h) (G : h.Ns mainGlobals mg) (hfa : mg "law" = some (.ref fa))
    {f0 : Addr} {od0 an0 : Option Addr} {sl0 : Array (Option Value)} {oc0 kV0 dc0 pm0 cd0 ct0 : Value}
    {f1 : Addr} {od1 an1 : Option Addr} {sl1 : Array (Option Value)} {oc1 kV1 dc1 pm1 cd1 ct1 : Value}
    {f2 : Addr} {od2 an2 : Option Addr} {sl2 : Array (Option Value)} {oc2 kV2 dc2 pm2 cd2 ct2 : Value}
    {f3 : Addr} {od3 an3 : Option Addr} {sl3 : Array (Option Value)} {oc3 kV3 dc3 pm3 cd3 ct3 : Value}
    {f4 : Addr} {od4 an4 : Option Addr} {sl4 : Array (Option Value)} {oc4 kV4 dc4 pm4 cd4 ct4 : Value}
    {f5 : Addr} {od5 an5 : Option Addr} {sl5 : Array (Option Value)} {oc5 kV5 dc5 pm5 cd5 ct5 : Value}
    {f6 : Addr} {od6 an6 : Option Addr} {sl6 : Array (Option Value)} {oc6 kV6 dc6 pm6 cd6 ct6 : Value}
    {f7 : Addr} {od7 an7 : Option Addr} {sl7 : Array (Option Value)} {oc7 kV7 dc7 pm7 cd7 ct7 : Value}
    {f8 : Addr} {od8 an8 : Option Addr} {sl8 : Array (Option Value)} {oc8 kV8 dc8 pm8 cd8 ct8 : Value}
    {f9 : Addr} {od9 an9 : Option Addr} {sl9 : Array (Option Value)} {oc9 kV9 dc9 pm9 cd9 ct9 : Value}
    {f10 : Addr} {od10 an10 : Option Addr} {sl10 : Array (Option Value)} {oc10 kV10 dc10 pm10 cd10 ct10 : Value}
    {f11 : Addr} {od11 an11 : Option Addr} {sl11 : Array (Option Value)} {oc11 kV11 dc11 pm11 cd11 ct11 : Value}
    {f12 : Addr} {od12 an12 : Option Addr} {sl12 : Array (Option Value)} {oc12 kV12 dc12 pm12 cd12 ct12 : Value}
    {f13 : Addr} {od13 an13 : Option Addr} {sl13 : Array (Option Value)} {oc13 kV13 dc13 pm13 cd13 ct13 : Value}
    {f14 : Addr} {od14 an14 : Option Addr} {sl14 : Array (Option Value)} {oc14 kV14 dc14 pm14 cd14 ct14 : Value}
    {f15 : Addr} {od15 an15 : Option Addr} {sl15 : Array (Option Value)} {oc15 kV15 dc15 pm15 cd15 ct15 : Value}
    {f16 : Addr} {od16 an16 : Option Addr} {sl16 : Array (Option Value)} {oc16 kV16 dc16 pm16 cd16 ct16 : Value}
    {f17 : Addr} {od17 an17 : Option Addr} {sl17 : Array (Option Value)} {oc17 kV17 dc17 pm17 cd17 ct17 : Value}
    {f18 : Addr} {od18 an18 : Option Addr} {sl18 : Array (Option Value)} {oc18 kV18 dc18 pm18 cd18 ct18 : Value}
    {f19 : Addr} {od19 an19 : Option Addr} {sl19 : Array (Option Value)} {oc19 kV19 dc19 pm19 cd19 ct19 : Value}
    {nC : Nat}
    {tC1 tC2 : Tok} {dC : Option Addr} {slC : Array (Option Value)}
    {nmR qR : Str} {NR fiR ccR cdaR : Addr} {bsR bmR subR : List Value} {snR : List Str} {abR : Bool} {coR : Option Bool} {ddR : Option Addr} {m0R m1R m2R m3R m5R : Option Value} {docR pmiR ctiR ociR : Value} {odiR : Option Addr} {oslR : Array (Option Value)} {clR : Value} {cldR : Option Addr} {cslR : Array (Option Value)} {cclR : Value} {cddR : Option Addr} {ccsR : Array (Option Value)} {vsR : Array Value} {flR : Str} {tfR : Tok}
    {nmW qW : Str} {NW fiW ccW cdaW : Addr} {bsW bmW subW : List Value} {snW : List Str} {abW : Bool} {coW : Option Bool} {ddW : Option Addr} {m0W m1W m2W m3W m5W : Option Value} {docW pmiW ctiW ociW : Value} {odiW : Option Addr} {oslW : Array (Option Value)} {clW : Value} {cldW : Option Addr} {cslW : Array (Option Value)} {cclW : Value} {cddW : Option Addr} {ccsW : Array (Option Value)} {vsW : Array Value} {flW : Str} {tfW : Tok}
    (a0 : PySem.W.nsIn K mainGlobals "number_in" = some (some (.ref f0)))
    (l0 : K.lookup f0 = some ⟨oc0, od0, .func (PySem.W.fnOf "number_in" "number_in" (defArgs s_number_in) (defBody s_number_in) (defScope s_number_in) .none kV0 dc0 pm0 an0 cd0 ct0), sl0⟩)
    (c0 : PySem.W.codeIn K cd0 "number_in" = true)
    (k0 : PySem.W.keepIn K (.ref f0) = true)
    (a1 : PySem.W.nsIn K mainGlobals "write_trip" = some (some (.ref f1)))
    (l1 : K.lookup f1 = some ⟨oc1, od1, .func (PySem.W.fnOf "write_trip" "write_trip" (defArgs s_write_trip) (defBody s_write_trip) (defScope s_write_trip) .none kV1 dc1 pm1 an1 cd1 ct1), sl1⟩)
    (c1 : PySem.W.codeIn K cd1 "write_trip" = true)
    (k1 : PySem.W.keepIn K (.ref f1) = true)
    (a2 : PySem.W.nsIn K mainGlobals "read_trip" = some (some (.ref f2)))
    (l2 : K.lookup f2 = some ⟨oc2, od2, .func (PySem.W.fnOf "read_trip" "read_trip" (defArgs s_read_trip) (defBody s_read_trip) (defScope s_read_trip) .none kV2 dc2 pm2 an2 cd2 ct2), sl2⟩)
    (c2 : PySem.W.codeIn K cd2 "read_trip" = true)
    (k2 : PySem.W.keepIn K (.ref f2) = true)
    (a3 : PySem.W.nsIn K mainGlobals "ride_in" = some (some (.ref f3)))
    (l3 : K.lookup f3 = some ⟨oc3, od3, .func (PySem.W.fnOf "ride_in" "ride_in" (defArgs s_ride_in) (defBody s_ride_in) (defScope s_ride_in) .none kV3 dc3 pm3 an3 cd3 ct3), sl3⟩)
    (c3 : PySem.W.codeIn K cd3 "ride_in" = true)
    (k3 : PySem.W.keepIn K (.ref f3) = true)
    (a4 : PySem.W.nsIn K mainGlobals "_law_mixed" = some (some (.ref f4)))
    (l4 : K.lookup f4 = some ⟨oc4, od4, .func (PySem.W.fnOf "_law_mixed" "_law_mixed" (defArgs s__law_mixed) (defBody s__law_mixed) (defScope s__law_mixed) .none kV4 dc4 pm4 an4 cd4 ct4), sl4⟩)
    (c4 : PySem.W.codeIn K cd4 "_law_mixed" = true)
    (k4 : PySem.W.keepIn K (.ref f4) = true)
    (a5 : PySem.W.nsIn K mainGlobals "_law_bag" = some (some (.ref f5)))
    (l5 : K.lookup f5 = some ⟨oc5, od5, .func (PySem.W.fnOf "_law_bag" "_law_bag" (defArgs s__law_bag) (defBody s__law_bag) (defScope s__law_bag) .none kV5 dc5 pm5 an5 cd5 ct5), sl5⟩)
    (c5 : PySem.W.codeIn K cd5 "_law_bag" = true)
    (k5 : PySem.W.keepIn K (.ref f5) = true)
    (a6 : PySem.W.nsIn K mainGlobals "_law_draw" = some (some (.ref f6)))
    (l6 : K.lookup f6 = some ⟨oc6, od6, .func (PySem.W.fnOf "_law_draw" "_law_draw" (defArgs s__law_draw) (defBody s__law_draw) (defScope s__law_draw) .none kV6 dc6 pm6 an6 cd6 ct6), sl6⟩)
    (c6 : PySem.W.codeIn K cd6 "_law_draw" = true)
    (k6 : PySem.W.keepIn K (.ref f6) = true)
    (a7 : PySem.W.nsIn K mainGlobals "_law_exact" = some (some (.ref f7)))
    (l7 : K.lookup f7 = some ⟨oc7, od7, .func (PySem.W.fnOf "_law_exact" "_law_exact" (defArgs s__law_exact) (defBody s__law_exact) (defScope s__law_exact) .none kV7 dc7 pm7 an7 cd7 ct7), sl7⟩)
    (c7 : PySem.W.codeIn K cd7 "_law_exact" = true)
    (k7 : PySem.W.keepIn K (.ref f7) = true)
    (a8 : PySem.W.nsIn K mainGlobals "_law_row" = some (some (.ref f8)))
    (l8 : K.lookup f8 = some ⟨oc8, od8, .func (PySem.W.fnOf "_law_row" "_law_row" (defArgs s__law_row) (defBody s__law_row) (defScope s__law_row) .none kV8 dc8 pm8 an8 cd8 ct8), sl8⟩)
    (c8 : PySem.W.codeIn K cd8 "_law_row" = true)
    (k8 : PySem.W.keepIn K (.ref f8) = true)
    (a9 : PySem.W.nsIn K mainGlobals "_law_bent" = some (some (.ref f9)))
    (l9 : K.lookup f9 = some ⟨oc9, od9, .func (PySem.W.fnOf "_law_bent" "_law_bent" (defArgs s__law_bent) (defBody s__law_bent) (defScope s__law_bent) .none kV9 dc9 pm9 an9 cd9 ct9), sl9⟩)
    (c9 : PySem.W.codeIn K cd9 "_law_bent" = true)
    (k9 : PySem.W.keepIn K (.ref f9) = true)
    (a10 : PySem.W.nsIn K mainGlobals "_law_row_due" = some (some (.ref f10)))
    (l10 : K.lookup f10 = some ⟨oc10, od10, .func (PySem.W.fnOf "_law_row_due" "_law_row_due" (defArgs s__law_row_due) (defBody s__law_row_due) (defScope s__law_row_due) .none kV10 dc10 pm10 an10 cd10 ct10), sl10⟩)
    (c10 : PySem.W.codeIn K cd10 "_law_row_due" = true)
    (k10 : PySem.W.keepIn K (.ref f10) = true)
    (a11 : PySem.W.nsIn K mainGlobals "_law_ride_of" = some (some (.ref f11)))
    (l11 : K.lookup f11 = some ⟨oc11, od11, .func (PySem.W.fnOf "_law_ride_of" "_law_ride_of" (defArgs s__law_ride_of) (defBody s__law_ride_of) (defScope s__law_ride_of) .none kV11 dc11 pm11 an11 cd11 ct11), sl11⟩)
    (c11 : PySem.W.codeIn K cd11 "_law_ride_of" = true)
    (k11 : PySem.W.keepIn K (.ref f11) = true)
    (a12 : PySem.W.nsIn K mainGlobals "_law_text_due" = some (some (.ref f12)))
    (l12 : K.lookup f12 = some ⟨oc12, od12, .func (PySem.W.fnOf "_law_text_due" "_law_text_due" (defArgs s__law_text_due) (defBody s__law_text_due) (defScope s__law_text_due) .none kV12 dc12 pm12 an12 cd12 ct12), sl12⟩)
    (c12 : PySem.W.codeIn K cd12 "_law_text_due" = true)
    (k12 : PySem.W.keepIn K (.ref f12) = true)
    (a13 : PySem.W.nsIn K mainGlobals "_law_told" = some (some (.ref f13)))
    (l13 : K.lookup f13 = some ⟨oc13, od13, .func (PySem.W.fnOf "_law_told" "_law_told" (defArgs s__law_told) (defBody s__law_told) (defScope s__law_told) .none kV13 dc13 pm13 an13 cd13 ct13), sl13⟩)
    (c13 : PySem.W.codeIn K cd13 "_law_told" = true)
    (k13 : PySem.W.keepIn K (.ref f13) = true)
    (a14 : PySem.W.nsIn K mainGlobals "_law_written" = some (some (.ref f14)))
    (l14 : K.lookup f14 = some ⟨oc14, od14, .func (PySem.W.fnOf "_law_written" "_law_written" (defArgs s__law_written) (defBody s__law_written) (defScope s__law_written) .none kV14 dc14 pm14 an14 cd14 ct14), sl14⟩)
    (c14 : PySem.W.codeIn K cd14 "_law_written" = true)
    (k14 : PySem.W.keepIn K (.ref f14) = true)
    (a15 : PySem.W.nsIn K mainGlobals "_law_read" = some (some (.ref f15)))
    (l15 : K.lookup f15 = some ⟨oc15, od15, .func (PySem.W.fnOf "_law_read" "_law_read" (defArgs s__law_read) (defBody s__law_read) (defScope s__law_read) .none kV15 dc15 pm15 an15 cd15 ct15), sl15⟩)
    (c15 : PySem.W.codeIn K cd15 "_law_read" = true)
    (k15 : PySem.W.keepIn K (.ref f15) = true)
    (a16 : PySem.W.nsIn K mainGlobals "_law_text_right" = some (some (.ref f16)))
    (l16 : K.lookup f16 = some ⟨oc16, od16, .func (PySem.W.fnOf "_law_text_right" "_law_text_right" (defArgs s__law_text_right) (defBody s__law_text_right) (defScope s__law_text_right) .none kV16 dc16 pm16 an16 cd16 ct16), sl16⟩)
    (c16 : PySem.W.codeIn K cd16 "_law_text_right" = true)
    (k16 : PySem.W.keepIn K (.ref f16) = true)
    (a17 : PySem.W.nsIn K mainGlobals "_law_odd_word" = some (some (.ref f17)))
    (l17 : K.lookup f17 = some ⟨oc17, od17, .func (PySem.W.fnOf "_law_odd_word" "_law_odd_word" (defArgs s__law_odd_word) (defBody s__law_odd_word) (defScope s__law_odd_word) .none kV17 dc17 pm17 an17 cd17 ct17), sl17⟩)
    (c17 : PySem.W.codeIn K cd17 "_law_odd_word" = true)
    (k17 : PySem.W.keepIn K (.ref f17) = true)
    (a18 : PySem.W.nsIn K mainGlobals "_law_changed" = some (some (.ref f18)))
    (l18 : K.lookup f18 = some ⟨oc18, od18, .func (PySem.W.fnOf "_law_changed" "_law_changed" (defArgs s__law_changed) (defBody s__law_changed) (defScope s__law_changed) .none kV18 dc18 pm18 an18 cd18 ct18), sl18⟩)
    (c18 : PySem.W.codeIn K cd18 "_law_changed" = true)
    (k18 : PySem.W.keepIn K (.ref f18) = true)
    (a19 : PySem.W.nsIn K mainGlobals "law" = some (some (.ref f19)))
    (l19 : K.lookup f19 = some ⟨oc19, od19, .func (PySem.W.fnOf "law" "law" (defArgs s_law) (defBody s_law) (defScope s_law) .none kV19 dc19 pm19 an19 cd19 ct19), sl19⟩)
    (c19 : PySem.W.codeIn K cd19 "law" = true)
    (k19 : PySem.W.keepIn K (.ref f19) = true)
    (z_len : PySem.W.nsIn K mainGlobals "len" = some none)
    (z_int : PySem.W.nsIn K mainGlobals "int" = some none)
    (z_list : PySem.W.nsIn K mainGlobals "list" = some none)
    (z_range : PySem.W.nsIn K mainGlobals "range" = some none)
    (z_str : PySem.W.nsIn K mainGlobals "str" = some none)
    (z_any : PySem.W.nsIn K mainGlobals "any" = some none)
    (z_enumerate : PySem.W.nsIn K mainGlobals "enumerate" = some none)
    (z_isinstance : PySem.W.nsIn K mainGlobals "isinstance" = some none)
    (z_bool : PySem.W.nsIn K mainGlobals "bool" = some none)
    (z_tuple : PySem.W.nsIn K mainGlobals "tuple" = some none)
    (z_ValueError : PySem.W.nsIn K mainGlobals "ValueError" = some none)
    (aC : PySem.W.nsIn K mainGlobals "COLOURS" = some (some (.ref col_)))
    (lC : K.lookup col_ = some ⟨.type "tuple", dC, .seq #[.str "red" tC1, .str "blue" tC2] nC, slC⟩)
    (aH : PySem.W.nsIn K mainGlobals "HIGHEST_ROPE" = some (some (.int 99 tHR_)))
    (g_RopeError : PySem.W.nsIn K mainGlobals "RopeError" = some (some (.ref c_RopeError)))
    (g_NoRope : PySem.W.nsIn K mainGlobals "NoRope" = some (some (.ref c_NoRope)))
    (g_NoColour : PySem.W.nsIn K mainGlobals "NoColour" = some (some (.ref c_NoColour)))
    (g_BadRide : PySem.W.nsIn K mainGlobals "BadRide" = some (some (.ref c_BadRide)))
    (g_BadText : PySem.W.nsIn K mainGlobals "BadText" = some (some (.ref c_BadText)))
    (g_BadWord : PySem.W.nsIn K mainGlobals "BadWord" = some (some (.ref c_BadWord)))
    (b_any : PySem.W.nsIn K cStatics "thirdparty.any" = some none)
    (b_sup : PySem.W.nsIn K mainGlobals "super" = some none)
    (b_top : (P.main.scope.names.lookup ("super" : Str)).isSome = false)
    (xR : K.lookup c_BadRide = some (excClassObj nmR qR c_BadRide NR bsR bmR true snR subR abR coR ddR m0R m1R m2R m3R m5R "ValueError.__new__"))
    (rfR : PySem.HandSPX.refsVE bmR = true)
    (saR : PySem.W.findIn K (.ref c_BadRide) "__setattr__" = some (some (.builtin "object.__setattr__")))
    (eCR : PySem.W.subIn K (.ref c_BadRide) (.type "BaseException") = some true)
    (tCR : PySem.W.typeIn K (.ref c_BadRide) = some (.type "type"))
    (kCR : PySem.W.keepIn K (.ref c_BadRide) = true)
    (aiR : PySem.W.findIn K (.ref c_BadRide) "__init__" = some (some (.ref fiR)))
    (tiR : PySem.W.typeIn K (.ref fiR) = some (.type "function"))
    (liR : K.lookup fiR = some ⟨ociR, odiR, .func (PySem.W.ksFn "__init__" "BadRide.__init__" (defArgs s_BadRide) (defBody s_BadRide) (defScope s_BadRide) .none .none docR pmiR none (.ref cdaR) ctiR ccR), oslR⟩)
    (ciR : PySem.W.codeIn K (.ref cdaR) "BadRide.__init__" = true)
    (suR : PySem.W.ks_superIn K c_BadRide c_BadRide "__init__" = some (some (.builtin "ValueError.__init__")))
    (sbR : PySem.W.subIn K (.ref c_BadRide) (.type "ValueError") = some true)
    (ceR : K.lookup ccR = some ⟨clR, cldR, .cell (some (.ref c_BadRide)), cslR⟩)
    (cdR : K.lookup cdaR = some ⟨cclR, cddR, .fields vsR, ccsR⟩)
    (cvR : vsR[2]? = some (.str flR tfR))
    (cfR : ((P.main.file : Str) == flR) = true)
    (mrR : PySem.W.mroIn K c_BadRide (.ref c_BadRide) = some true)
    (gaR : PySem.W.findIn K (.ref c_BadRide) "__getattribute__" = some (some (.builtin "BaseException.__getattribute__")))
    (ggR : PySem.W.findIn K (.ref c_BadRide) "__getattr__" = some none)
    (hdR : PySem.W.hasDictIn K c_BadRide = true)
    (haR : PySem.W.findIn K (.ref c_BadRide) "__class__" = some (some (.builtin "object.__class__")))
    (moR : PySem.W.mroIn K c_BadRide (.type "object") = some true)
    (npR : PySem.W.findIn K (.ref c_BadRide) "place" = some none)
    (nlR : PySem.W.findIn K (.ref c_BadRide) "line" = some none)
    (nnR : PySem.W.findIn K (.ref c_BadRide) "number" = some none)
    (nwR : PySem.W.findIn K (.ref c_BadRide) "word" = some none)
    (q1R : PySem.W.kitOne K (.ref c_BadRide) (.ref c_BadRide) = some true)
    (q2R : PySem.W.kitOne K (.ref c_BadRide) (.ref c_BadWord) = some false)
    (q3R : PySem.W.kitOne K (.ref c_BadRide) (.ref c_BadText) = some false)
    (q4R : PySem.W.kitOne K (.ref c_BadRide) (.ref c_NoRope) = some false)
    (q5R : PySem.W.kitOne K (.ref c_BadRide) (.ref c_NoColour) = some false)
    (q6R : PySem.W.kitOne K (.ref c_BadRide) (.type "ValueError") = some true)
    (exR : PySem.W.exmOne K (.ref c_BadRide) (.ref c_RopeError) = some true)
    (xW : K.lookup c_BadWord = some (excClassObj nmW qW c_BadWord NW bsW bmW true snW subW abW coW ddW m0W m1W m2W m3W m5W "ValueError.__new__"))
    (rfW : PySem.HandSPX.refsVE bmW = true)
    (saW : PySem.W.findIn K (.ref c_BadWord) "__setattr__" = some (some (.builtin "object.__setattr__")))
    (eCW : PySem.W.subIn K (.ref c_BadWord) (.type "BaseException") = some true)
    (tCW : PySem.W.typeIn K (.ref c_BadWord) = some (.type "type"))
    (kCW : PySem.W.keepIn K (.ref c_BadWord) = true)
    (aiW : PySem.W.findIn K (.ref c_BadWord) "__init__" = some (some (.ref fiW)))
    (tiW : PySem.W.typeIn K (.ref fiW) = some (.type "function"))
    (liW : K.lookup fiW = some ⟨ociW, odiW, .func (PySem.W.ksFn "__init__" "BadWord.__init__" (defArgs s_BadWord) (defBody s_BadWord) (defScope s_BadWord) .none .none docW pmiW none (.ref cdaW) ctiW ccW), oslW⟩)
    (ciW : PySem.W.codeIn K (.ref cdaW) "BadWord.__init__" = true)
    (suW : PySem.W.ks_superIn K c_BadWord c_BadWord "__init__" = some (some (.builtin "ValueError.__init__")))
    (sbW : PySem.W.subIn K (.ref c_BadWord) (.type "ValueError") = some true)
    (ceW : K.lookup ccW = some ⟨clW, cldW, .cell (some (.ref c_BadWord)), cslW⟩)
    (cdW : K.lookup cdaW = some ⟨cclW, cddW, .fields vsW, ccsW⟩)
    (cvW : vsW[2]? = some (.str flW tfW))
    (cfW : ((P.main.file : Str) == flW) = true)
    (mrW : PySem.W.mroIn K c_BadWord (.ref c_BadWord) = some true)
    (gaW : PySem.W.findIn K (.ref c_BadWord) "__getattribute__" = some (some (.builtin "BaseException.__getattribute__")))
    (ggW : PySem.W.findIn K (.ref c_BadWord) "__getattr__" = some none)
    (hdW : PySem.W.hasDictIn K c_BadWord = true)
    (haW : PySem.W.findIn K (.ref c_BadWord) "__class__" = some (some (.builtin "object.__class__")))
    (moW : PySem.W.mroIn K c_BadWord (.type "object") = some true)
    (npW : PySem.W.findIn K (.ref c_BadWord) "place" = some none)
    (nlW : PySem.W.findIn K (.ref c_BadWord) "line" = some none)
    (nnW : PySem.W.findIn K (.ref c_BadWord) "number" = some none)
    (nwW : PySem.W.findIn K (.ref c_BadWord) "word" = some none)
    (q1W : PySem.W.kitOne K (.ref c_BadWord) (.ref c_BadRide) = some false)
    (q2W : PySem.W.kitOne K (.ref c_BadWord) (.ref c_BadWord) = some true)
    (q3W : PySem.W.kitOne K (.ref c_BadWord) (.ref c_BadText) = some false)
    (q4W : PySem.W.kitOne K (.ref c_BadWord) (.ref c_NoRope) = some false)
    (q5W : PySem.W.kitOne K (.ref c_BadWord) (.ref c_NoColour) = some false)
    (q6W : PySem.W.kitOne K (.ref c_BadWord) (.type "ValueError") = some true)
    (exW : PySem.W.exmOne K (.ref c_BadWord) (.ref c_RopeError) = some true)
    (hn_ : PySem.W.specialIn K (.builtin "object.__class__") "__get__" = some (some (.builtin "getset_descriptor.__get__")))
    (ht_ : PySem.W.takesIn K (.builtin "object.__class__") = some true) :
    ∃ fd : FuncData, (∀ (s : Shared) (v : Value), BindsTo s fd ⟨[v], []⟩ [("script", v)]) ∧ ∀ base : Heap, K.In base → base.Ns mainGlobals mg → FnOk P w K mg base CX0 8 fa fd ["script"] (spLaw K) := by
  have e := hfa.symm.trans (PySem.W.mg_of X G a19)
  cases e
  have oxR : OexC K c_BadRide := ⟨⟨nmR, qR, NR, bsR, bmR, snR, subR, abR, coR, ddR, m0R, m1R, m2R, m3R, m5R, xR, rfR⟩, saR, eCR, tCR, kCR⟩
  have supR : SupTxt P K c_BadRide ccR cdaR := ⟨suR, sbR, b_any, b_sup, ⟨_, _, _, ceR⟩, ⟨_, _, _, _, _, _, cdR, cvR, cfR⟩, b_top, mrR⟩
  have oxW : OexC K c_BadWord := ⟨⟨nmW, qW, NW, bsW, bmW, snW, subW, abW, coW, ddW, m0W, m1W, m2W, m3W, m5W, xW, rfW⟩, saW, eCW, tCW, kCW⟩
  have supW : SupTxt P K c_BadWord ccW cdaW := ⟨suW, sbW, b_any, b_sup, ⟨_, _, _, ceW⟩, ⟨_, _, _, _, _, _, cdW, cvW, cfW⟩, b_top, mrW⟩
  have T : ∀ base : Heap, Txt P w K mg base ⟨col_, c_RopeError, c_NoRope, c_NoColour, c_BadRide, c_BadText, c_BadWord, tHR_⟩ := fun base => {
    n_len := PySem.W.mg_none_of X G z_len,
    n_int := PySem.W.mg_none_of X G z_int,
    n_list := PySem.W.mg_none_of X G z_list,
    n_range := PySem.W.mg_none_of X G z_range,
    n_str := PySem.W.mg_none_of X G z_str,
    n_any := PySem.W.mg_none_of X G z_any,
    n_enumerate := PySem.W.mg_none_of X G z_enumerate,
    n_isinstance := PySem.W.mg_none_of X G z_isinstance,
    n_bool := PySem.W.mg_none_of X G z_bool,
    n_tuple := PySem.W.mg_none_of X G z_tuple,
    n_ValueError := PySem.W.mg_none_of X G z_ValueError,
    g_COLOURS := PySem.W.mg_of X G aC,
    colT := fun H => .inr ⟨_, _, nC, lC, rfl, rfl, (by rw [sizeLine_eq]; show 2 ≤ 16777216; decide), .cons ⟨_, rfl⟩ (.cons ⟨_, rfl⟩ .nil)⟩,
    g_HIGHEST_ROPE := PySem.W.mg_of X G aH,
    g_RopeError := PySem.W.mg_of X G g_RopeError,
    g_NoRope := PySem.W.mg_of X G g_NoRope,
    g_NoColour := PySem.W.mg_of X G g_NoColour,
    g_BadRide := PySem.W.mg_of X G g_BadRide,
    g_BadText := PySem.W.mg_of X G g_BadText,
    g_BadWord := PySem.W.mg_of X G g_BadWord,
    x_BadRide := ⟨oxR, PySem.W.mg_of X G g_BadRide, _, _, aiR, tiR, ini_BadRide oxR supR npR liR ciR, fun s us _ hl => match us, hl with | [_, _], _ => .of_eq rfl⟩,
    s_BadRide := ⟨⟨gaR, ggR, eCR, hdR⟩, ⟨gaR, ggR, eCR, hdR, haR, hn_, ht_, moR⟩, npR, nlR, nnR, nwR, q1R, q2R, q3R, q4R, q5R, q6R, exR⟩,
    x_BadWord := ⟨oxW, PySem.W.mg_of X G g_BadWord, _, _, aiW, tiW, ini_BadWord oxW supW npW liW ciW, fun s us _ hl => match us, hl with | [_, _], _ => .of_eq rfl⟩,
    s_BadWord := ⟨⟨gaW, ggW, eCW, hdW⟩, ⟨gaW, ggW, eCW, hdW, haW, hn_, ht_, moW⟩, npW, nlW, nnW, nwW, q1W, q2W, q3W, q4W, q5W, q6W, exW⟩,
    d_number_in := ⟨_, _, fun_mk (st := s_number_in) l0 c0 k0, PySem.W.mg_of X G a0⟩,
    d_write_trip := ⟨_, _, fun_mk (st := s_write_trip) l1 c1 k1, PySem.W.mg_of X G a1⟩,
    d_read_trip := ⟨_, _, fun_mk (st := s_read_trip) l2 c2 k2, PySem.W.mg_of X G a2⟩,
    d_ride_in := ⟨_, _, fun_mk (st := s_ride_in) l3 c3 k3, PySem.W.mg_of X G a3⟩,
    d__law_mixed := ⟨_, _, fun_mk (st := s__law_mixed) l4 c4 k4, PySem.W.mg_of X G a4⟩,
    d__law_bag := ⟨_, _, fun_mk (st := s__law_bag) l5 c5 k5, PySem.W.mg_of X G a5⟩,
    d__law_draw := ⟨_, _, fun_mk (st := s__law_draw) l6 c6 k6, PySem.W.mg_of X G a6⟩,
    d__law_exact := ⟨_, _, fun_mk (st := s__law_exact) l7 c7 k7, PySem.W.mg_of X G a7⟩,
    d__law_row := ⟨_, _, fun_mk (st := s__law_row) l8 c8 k8, PySem.W.mg_of X G a8⟩,
    d__law_bent := ⟨_, _, fun_mk (st := s__law_bent) l9 c9 k9, PySem.W.mg_of X G a9⟩,
    d__law_row_due := ⟨_, _, fun_mk (st := s__law_row_due) l10 c10 k10, PySem.W.mg_of X G a10⟩,
    d__law_ride_of := ⟨_, _, fun_mk (st := s__law_ride_of) l11 c11 k11, PySem.W.mg_of X G a11⟩,
    d__law_text_due := ⟨_, _, fun_mk (st := s__law_text_due) l12 c12 k12, PySem.W.mg_of X G a12⟩,
    d__law_told := ⟨_, _, fun_mk (st := s__law_told) l13 c13 k13, PySem.W.mg_of X G a13⟩,
    d__law_written := ⟨_, _, fun_mk (st := s__law_written) l14 c14 k14, PySem.W.mg_of X G a14⟩,
    d__law_read := ⟨_, _, fun_mk (st := s__law_read) l15 c15 k15, PySem.W.mg_of X G a15⟩,
    d__law_text_right := ⟨_, _, fun_mk (st := s__law_text_right) l16 c16 k16, PySem.W.mg_of X G a16⟩,
    d__law_odd_word := ⟨_, _, fun_mk (st := s__law_odd_word) l17 c17 k17, PySem.W.mg_of X G a17⟩,
    d__law_changed := ⟨_, _, fun_mk (st := s__law_changed) l18 c18 k18, PySem.W.mg_of X G a18⟩,
    d_law := ⟨_, _, fun_mk (st := s_law) l19 c19 k19, PySem.W.mg_of X G a19⟩ }
  exact ⟨PySem.W.fnOf "law" "law" (defArgs s_law) (defBody s_law) (defScope s_law) .none kV19 dc19 pm19 an19 cd19 ct19, fun s v => .of_eq rfl, fun base _ _ => ok_law (T base) (fun_mk (st := s_law) l19 c19 k19)⟩
end Tw

namespace Tw
open PySem L2
theorem walk {l : PySem.W.OpenLaw} {q : Program} {loose : List Str} {XP : (Str → Option Value) → Heap → Prop} {YP : World → Heap → Prop} {d : DefRec} {K : Params → PySem.W.Frag} (hn : l.most = some 63) (hdf : d.params.defaults = [])
    (hY : ∀ (w : World) (h : Heap), YP w h → (K w.params).In h)
    (F : ∀ (w : World) (mg : Str → Option Value) (fa : Addr) (h : Heap), (K w.params).In h → h.Ns mainGlobals mg → mg d.name = some (.ref fa) →
      ∃ fd : FuncData, (∀ (s : Shared) (u : Value), BindsTo s fd ⟨[u], []⟩ [("script", u)]) ∧ ∀ base : Heap, (K w.params).In base → base.Ns mainGlobals mg → FnOk l.prog w (K w.params) mg base CX0 8 fa fd ["script"] (spLaw (K w.params))) :
    PySem.W.WalkO q loose XP YP l.row.toRowW d [] (fun f vs => PySem.call f vs) :=
  L2.walk_of (n := 63) (k := 8) (x := "script") (CX := fun _ => CX0) (sp := fun w => spLaw (K w.params)) hn (by decide) hdf ⟨rfl, by decide, by decide⟩ hY F (fun _ _ a ns hl _ hS => ⟨a, ns, rfl, hS, hl, fun _ => rfl⟩) fun _ _ _ _ _ z => z
end Tw
open PySem PySem.W PyProof.Rows in
set_option maxRecDepth 100000 in
set_option maxHeartbeats 0 in
theorem PySem.Challenge.cw_twinrope_k08_trips_as_texts_holds : PySem.Challenge.rw_twinrope_k08_trips_as_texts.Holds := by
  w_on; o_law; k_head; (case hw => w_witness2)
  k_fill
  refine Tw.walk (l := PySem.Challenge.rw_twinrope_k08_trips_as_texts) rfl rfl (fun w h Y => PySem.W.kIn_of Y) ?F
  case F =>
    intro w mg fa h KX G hmg
    refine' Tw.all_mk KX G hmg ?a0 ?l0 ?c0 ?k0 ?a1 ?l1 ?c1 ?k1 ?a2 ?l2 ?c2 ?k2 ?a3 ?l3 ?c3 ?k3 ?a4 ?l4 ?c4 ?k4 ?a5 ?l5 ?c5 ?k5 ?a6 ?l6 ?c6 ?k6 ?a7 ?l7 ?c7 ?k7 ?a8 ?l8 ?c8 ?k8 ?a9 ?l9 ?c9 ?k9 ?a10 ?l10 ?c10 ?k10 ?a11 ?l11 ?c11 ?k11 ?a12 ?l12 ?c12 ?k12 ?a13 ?l13 ?c13 ?k13 ?a14 ?l14 ?c14 ?k14 ?a15 ?l15 ?c15 ?k15 ?a16 ?l16 ?c16 ?k16 ?a17 ?l17 ?c17 ?k17 ?a18 ?l18 ?c18 ?k18 ?a19 ?l19 ?c19 ?k19 ?z_len ?z_int ?z_list ?z_range ?z_str ?z_any ?z_enumerate ?z_isinstance ?z_bool ?z_tuple ?z_ValueError ?aC ?lC ?aH ?g_RopeError ?g_NoRope ?g_NoColour ?g_BadRide ?g_BadText ?g_BadWord ?b_any ?b_sup ?b_top ?xR ?rfR ?saR ?eCR ?tCR ?kCR ?aiR ?tiR ?liR ?ciR ?suR ?sbR ?ceR ?cdR ?cvR ?cfR ?mrR ?gaR ?ggR ?hdR ?haR ?moR ?npR ?nlR ?nnR ?nwR ?q1R ?q2R ?q3R ?q4R ?q5R ?q6R ?exR ?xW ?rfW ?saW ?eCW ?tCW ?kCW ?aiW ?tiW ?liW ?ciW ?suW ?sbW ?ceW ?cdW ?cvW ?cfW ?mrW ?gaW ?ggW ?hdW ?haW ?moW ?npW ?nlW ?nnW ?nwW ?q1W ?q2W ?q3W ?q4W ?q5W ?q6W ?exW ?hn_ ?ht_
    (case a0 => k_is)
    (case l0 => k_is)
    (case c0 => k_is)
    (case k0 => k_is)
    (case a1 => k_is)
    (case l1 => k_is)
    (case c1 => k_is)
    (case k1 => k_is)
    (case a2 => k_is)
    (case l2 => k_is)
    (case c2 => k_is)
    (case k2 => k_is)
    (case a3 => k_is)
    (case l3 => k_is)
    (case c3 => k_is)
    (case k3 => k_is)
    (case a4 => k_is)
    (case l4 => k_is)
    (case c4 => k_is)
    (case k4 => k_is)
    (case a5 => k_is)
    (case l5 => k_is)
    (case c5 => k_is)
    (case k5 => k_is)
    (case a6 => k_is)
    (case l6 => k_is)
    (case c6 => k_is)
    (case k6 => k_is)
    (case a7 => k_is)
    (case l7 => k_is)
    (case c7 => k_is)
    (case k7 => k_is)
    (case a8 => k_is)
    (case l8 => k_is)
    (case c8 => k_is)
    (case k8 => k_is)
    (case a9 => k_is)
    (case l9 => k_is)
    (case c9 => k_is)
    (case k9 => k_is)
    (case a10 => k_is)
    (case l10 => k_is)
    (case c10 => k_is)
    (case k10 => k_is)
    (case a11 => k_is)
    (case l11 => k_is)
    (case c11 => k_is)
    (case k11 => k_is)
    (case a12 => k_is)
    (case l12 => k_is)
    (case c12 => k_is)
    (case k12 => k_is)
    (case a13 => k_is)
    (case l13 => k_is)
    (case c13 => k_is)
    (case k13 => k_is)
    (case a14 => k_is)
    (case l14 => k_is)
    (case c14 => k_is)
    (case k14 => k_is)
    (case a15 => k_is)
    (case l15 => k_is)
    (case c15 => k_is)
    (case k15 => k_is)
    (case a16 => k_is)
    (case l16 => k_is)
    (case c16 => k_is)
    (case k16 => k_is)
    (case a17 => k_is)
    (case l17 => k_is)
    (case c17 => k_is)
    (case k17 => k_is)
    (case a18 => k_is)
    (case l18 => k_is)
    (case c18 => k_is)
    (case k18 => k_is)
    (case a19 => k_is)
    (case l19 => k_is)
    (case c19 => k_is)
    (case k19 => k_is)
    (case z_len => k_is)
    (case z_int => k_is)
    (case z_list => k_is)
    (case z_range => k_is)
    (case z_str => k_is)
    (case z_any => k_is)
    (case z_enumerate => k_is)
    (case z_isinstance => k_is)
    (case z_bool => k_is)
    (case z_tuple => k_is)
    (case z_ValueError => k_is)
    (case aC => k_is)
    (case lC => k_is)
    (case aH => k_is)
    (case g_RopeError => k_is)
    (case g_NoRope => k_is)
    (case g_NoColour => k_is)
    (case g_BadRide => k_is)
    (case g_BadText => k_is)
    (case g_BadWord => k_is)
    (case b_any => k_is)
    (case b_sup => k_is)
    (case b_top => first | rfl | decide +kernel | k_is)
    (case xR => k_is)
    (case rfR => first | rfl | decide +kernel | k_is)
    (case saR => k_is)
    (case eCR => k_is)
    (case tCR => k_is)
    (case kCR => k_is)
    (case aiR => k_is)
    (case tiR => k_is)
    (case liR => k_is)
    (case ciR => k_is)
    (case suR => first | ks_is | k_is)
    (case sbR => k_is)
    (case ceR => k_is)
    (case cdR => k_is)
    (case cvR => first | rfl | decide +kernel | k_is)
    (case cfR => first | rfl | decide +kernel | k_is)
    (case mrR => k_is)
    (case gaR => k_is)
    (case ggR => k_is)
    (case hdR => k_is)
    (case haR => k_is)
    (case moR => k_is)
    (case npR => k_is)
    (case nlR => k_is)
    (case nnR => k_is)
    (case nwR => k_is)
    (case q1R => first | kit_is | k_is)
    (case q2R => first | kit_is | k_is)
    (case q3R => first | kit_is | k_is)
    (case q4R => first | kit_is | k_is)
    (case q5R => first | kit_is | k_is)
    (case q6R => first | kit_is | k_is)
    (case exR => first | k_is | (refine exm_ref ?h1 ?h2 ?h3 ?h4; (case h1 => k_is); (case h2 => k_is); (case h3 => k_is); (case h4 => k_is)))
    (case xW => k_is)
    (case rfW => first | rfl | decide +kernel | k_is)
    (case saW => k_is)
    (case eCW => k_is)
    (case tCW => k_is)
    (case kCW => k_is)
    (case aiW => k_is)
    (case tiW => k_is)
    (case liW => k_is)
    (case ciW => k_is)
    (case suW => first | ks_is | k_is)
    (case sbW => k_is)
    (case ceW => k_is)
    (case cdW => k_is)
    (case cvW => first | rfl | decide +kernel | k_is)
    (case cfW => first | rfl | decide +kernel | k_is)
    (case mrW => k_is)
    (case gaW => k_is)
    (case ggW => k_is)
    (case hdW => k_is)
    (case haW => k_is)
    (case moW => k_is)
    (case npW => k_is)
    (case nlW => k_is)
    (case nnW => k_is)
    (case nwW => k_is)
    (case q1W => first | kit_is | k_is)
    (case q2W => first | kit_is | k_is)
    (case q3W => first | kit_is | k_is)
    (case q4W => first | kit_is | k_is)
    (case q5W => first | kit_is | k_is)
    (case q6W => first | kit_is | k_is)
    (case exW => first | k_is | (refine exm_ref ?h1 ?h2 ?h3 ?h4; (case h1 => k_is); (case h2 => k_is); (case h3 => k_is); (case h4 => k_is)))
    (case hn_ => k_is)
    (case ht_ => k_is)

